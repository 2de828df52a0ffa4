import PyProof.Rows.All
import Wide.All
import OpenK.AllK
import Wide.FinOn
import HandS.ForMost
import HandS.Wide
import HandS.IsInst
import HandS.CallLocal
import HandS.Evl
import HandS.Style
import HandS.Iter
import HandS.Walk
import HandS.Deep
import HandS.AnyAll
import HandS.GenOver
import HandS.GenList
import HandS.EndTab
import HandS.TupMul
import HandS.TupAny
import HandS.TupLe
import HandS.RaiseMore
import HandS.Set
import HandS.SetFor
import HandS.Strs
import PyProof.MeetsSeq2
import HandS.SortInts
import HandS.Conv
import PySem.Challenge.RW_lookalike_k02_lots_and_watchers
set_option Elab.async false
set_option linter.all false
set_option maxRecDepth 100000
section
set_option maxHeartbeats 4000000
/-! What every law of this program wants: a law's def where nothing is being shown, repr of data, calls by keywords alone. -/
namespace Zc
open PySem PySem.Spec PyProof.Rows L2

section
variable {P : Program} {w : World} {K : PySem.W.Frag} {mg : Str → Option Value} {base : Heap}

/-- a def's promise, kept wherever no repr runs around the call -/
structure FnG (P : Program) (w : World) (K : PySem.W.Frag) (mg : Str → Option Value)
    (base : Heap) (k : Nat) (f : Addr) (fd : FuncData) (ps : List Str) (sp : Sp) : Prop where
  len : ∀ vs H Q E, sp vs H Q E → vs.length = ps.length
  run : ∀ (A : Around) (outer : List Env) (s : Shared) (H : Hp) (args : Args)
    (us : List Value) (vs : List V) (Q : VK) (E : XK), Room k A → A.guards = some [] →
    Env0 P w K mg base A outer s H → BindsTo s fd args (ps.zip us) → Vals vs us → sp vs H Q E →
    codeAny (model P w) A (.call (.ref f) args) (CR CX0 outer P w H s Q E) s

/-- the rule for such a def -/
theorem fnG_ok {x qual : Str} {st : Stmt} {f : Addr} {fd : FuncData} {N ps : List Str} {k : Nat} {sp : Sp}
    (F : Fun K x qual st f fd) (S : FnScope N ps (defScope st))
    (len : ∀ vs H Q E, sp vs H Q E → vs.length = ps.length)
    (body : ∀ (cdv : Value) (A : Around) (outer : List Env) (s : Shared) (H : Hp) (vs : List V) (Q : VK) (E : XK),
      Room k (A.deeper (envOfC qual (defScope st) s.heap.objs.size f cdv)) → A.guards = some [] → sp vs H Q E →
      ∃ t, PSs (cxOf CX0 P w K mg base N qual (defScope st) f cdv A outer s H E).nox (defBody st) t ∧
        t { nx := fun _ H' => Q .non H', rt := Q } (start N vs) H) :
    FnG P w K mg base (k + 1) f fd ps sp := by
  obtain ⟨oc, od, kV, doc, pm, an, cdv, ct, osl, rfl, lk, hcd⟩ := F.ex
  constructor
  · exact len
  intro A outer s H args us vs Q E hr hg e0 hb r hsp
  have l0 := len _ _ _ _ hsp
  have kin : K.In s.heap :=
    e0.mod.kin.keeps fun b o e => (e0.bs b o e).1
  have nolim : s.heap.NoLimit :=
    e0.mod.nolimit.keeps fun b o e => (e0.bs b o e).1
  have kinds : ∀ y ∈ ps.zip us, (defScope st).names.lookup y.1 = some .local ∨
      ((defScope st).names.lookup y.1 = some .cell ∧
        ((cellsFrom (s.heap.objs.size + 1) (defScope st).names []).lookup y.1).isSome = true) := by
    rintro ⟨n, v⟩ hy
    cases S.par n (List.of_mem_zip hy).1 with
    | inl q => exact Or.inl q
    | inr q => exact Or.inr ⟨q, PySem.W.cellsFrom_some _ _ _ (Or.inl q)⟩
  apply codeAny_call_function hr.depth (kin _ _ lk) rfl S.co S.gen rfl (PySem.W.codeRec_of kin hcd)
    (hb _ _ _ _ ?_)
  apply wpAny_newFunctionEnv_cells S.kind kinds
  intro env he s1 x
  subst he
  refine And.intro (nolim.keeps x.toInCall.keep) (codeAny_func ?_)
  obtain ⟨t, ht, hq⟩ := body cdv A outer s H vs Q E (hr.deeper _) hg hsp
  have J : Inv (cxOf CX0 P w K mg base N qual (defScope st) f cdv A outer s H E) [] (start N vs) H s1 :=
    inv_start S hr.hd e0 l0 r x
  apply wpAny_mono (ht.nox.run [] s1 (start N vs) H _ J hq)
  · intro fl s' hs
    have fin : ∀ {σ' : L2.St} {H' : Hp} {v : V} {u : Value},
        Inv (cxOf CX0 P w K mg base N qual (defScope st) f cdv A outer s H E) [] σ' H' s' →
        RelV v u → Q v H' → CE outer P w H s Q u s' := by
      intro σ' H' v u J' rv q
      exact ⟨v, H', J'.os, J'.bare, J'.base, J'.hok, rv, q⟩
    match fl, hs with
    | .ret u, hs =>
      obtain ⟨v, σ', H', J', rv, q⟩ := hs
      exact fin J' rv q
    | .next, hs =>
      obtain ⟨σ', H', J', q⟩ := hs
      exact fin (v := V.non) (u := Value.none) J' rfl q
    | .brk, hs =>
      obtain ⟨_, _, _, q⟩ := hs
      exact q.elim
    | .cont, hs =>
      obtain ⟨_, _, _, q⟩ := hs
      exact q.elim
  · intro e s' hs
    exact hs

/-- a law's call, from such a promise -/
theorem callG {mb : Str → Option Value} {k : Nat} {fa a : Addr} {fd : FuncData} {x : Str} {sp : Sp}
    {s₁ : Shared} {vs : List Value} {ns : List Int}
    (KX : K.In s₁.heap) (gl : s₁.heap.Ns mainGlobals mg) (bn : s₁.heap.Ns builtinsNs mb)
    (bb : ∀ x : Str, x ≠ "__name__" → mb x = bootBuiltins x)
    (lim : s₁.heap.NoLimit) (gens : s₁.gens = #[])
    (ha : s₁.heap.get? a = some { cls := .type "list", data := .seq vs.toArray })
    (hi : IntsAre vs ns) (hl : ns.length ≤ sizeLine) (hr : Room k callerA)
    (F : ∀ base : Heap, K.In base → base.Ns mainGlobals mg → FnG P w K mg base k fa fd [x] sp)
    (bind : ∀ (s : Shared) (u : Value), BindsTo s fd ⟨[u], []⟩ [(x, u)])
    (hsp : ∀ H : Hp, SqL K H a (ns.map V.int) → sp [.ref a] H (fun v _ => v = .bl true) fun _ _ _ => False) :
    codeAny (model P w) callerA (.call (.ref fa) ⟨[.ref a], []⟩)
      (fun r s' => r = .ok (.ret (.bool true)) ∧ OldK s₁.heap s'.heap ∧ s'.os = s₁.os ∧ AllBare s'.gens) s₁ := by
  have rv := vals_ints hi
  have lv := hi.length
  have main : ∀ H : Hp, Only H → SqL K H a (ns.map V.int) → HOk P w H s₁.heap →
      (∀ b, H b ≠ none → b = a) → (H a ≠ none → K.lookup a = none) →
      codeAny (model P w) callerA (.call (.ref fa) ⟨[.ref a], []⟩)
        (fun r s' => r = .ok (.ret (.bool true)) ∧ OldK s₁.heap s'.heap ∧ s'.os = s₁.os ∧ AllBare s'.gens) s₁ := by
    intro H only hS ok one away
    have offA : ∀ {b : Addr} {u : HO}, H b = some u → b = a := fun {b u} q =>
      one b (by rw [q]; intro z; cases z)
    have dictFree : ∀ {b : Addr} {o : Obj} {es : Array DictEntry} {ep : Nat},
        s₁.heap.get? b = some o → o.data = .dict es ep → H b = none := by
      intro b o es ep e d
      match q : H b with
      | none => rfl
      | some u =>
        have z := offA q
        rw [z, ha] at e
        have e' := Option.some.inj e
        rw [← e'] at d
        have d' : Data.seq vs.toArray _ = Data.dict es ep := d
        exact Data.noConfusion d'
    have nsHid : ∀ {b : Addr} {m : Str → Option Value}, s₁.heap.Ns b m → (hidT s₁.heap H).Ns b m := by
      rintro b m ⟨o, es, ep, e, d, r⟩
      exact ⟨o, es, ep, hidT_get e (dictFree e d), d, r⟩
    have kinHid : K.In (hidT s₁.heap H) := by
      intro b o e
      apply hidT_get (KX b o e)
      match q : H b with
      | none => rfl
      | some u =>
        have z := offA q
        rw [z] at e
        have z2 := away (by rw [← z, q]; intro y; cases y)
        rw [z2] at e
        cases e
    have md : Mod K mg (hidT s₁.heap H) := by
      refine ⟨kinHid, nsHid gl, ⟨mb, nsHid bn, bb⟩, ?_⟩
      obtain ⟨mc, h1, h2⟩ := lim
      exact ⟨mc, nsHid h1, h2⟩
    have e0 : Env0 P w K mg (hidT s₁.heap H) callerA [] s₁ H := by
      refine ⟨rfl, md, fun b o e => of_hidT e, Nat.le_of_eq (hidT_size _ _), trivial, ?_, ok, .of_eq gens⟩
      intro b hb
      exact absurd (show b ∈ ([] : List Addr) from hb) List.not_mem_nil
    have run := (F _ kinHid (nsHid gl)).run callerA [] s₁ H ⟨[.ref a], []⟩ [.ref a] [.ref a] _ _ hr rfl e0
      (bind s₁ (.ref a)) (.cons rfl .nil) (hsp H hS)
    apply codeAny_mono run
    intro r s' h
    match r, h with
    | .error e, h => exact False.elim h
    | .ok .next, h => exact False.elim h
    | .ok .brk, h => exact False.elim h
    | .ok .cont, h => exact False.elim h
    | .ok (.ret u), h =>
      obtain ⟨v, H', os, bare, un, ok', r', q⟩ := h
      have q' : v = .bl true := q
      subst q'
      have r2 : u = Value.bool true := r'
      subst r2
      refine ⟨rfl, OldK.of_keep ?_, os, bare⟩
      intro b o e
      match q : H b with
      | none => exact un.keep b o e q (fun z => absurd (show b ∈ ([] : List Addr) from z) List.not_mem_nil) List.not_mem_nil
      | some u =>
        cases only b with
        | inl z =>
          rw [q] at z
          cases z
        | inr z =>
          obtain ⟨ob, xs, z⟩ := z
          obtain ⟨e1, _⟩ := ok b _ z
          obtain ⟨e2, _⟩ := ok' b _ (un.frzs b ob _ z)
          rw [e] at e1
          rw [Option.some.inj e1]
          exact e2
  match hk : K.lookup a with
  | some o =>
    have e := KX a o hk
    rw [ha] at e
    have e' := Option.some.inj e
    subst e'
    apply main (fun _ => none)
    · intro b
      exact Or.inl rfl
    · exact Or.inr ⟨_, vs.toArray, _, hk, rfl, rfl, rfl, by rw [List.size_toArray, lv]; exact hl, by simpa using rv⟩
    · intro b u z
      have z' : (none : Option HO) = some u := z
      cases z'
    · intro b z
      exact absurd rfl z
    · intro z
      exact absurd rfl z
  | none =>
    have yes : ∀ {b : Addr}, b = a → (fun b => if b = a then some (HO.frz { cls := .type "list", data := .seq vs.toArray } (.lst (ns.map V.int))) else none : Hp) b
        = some (HO.frz { cls := .type "list", data := .seq vs.toArray } (.lst (ns.map V.int))) := fun h => if_pos h
    have no : ∀ {b : Addr}, ¬ b = a → (fun b => if b = a then some (HO.frz { cls := .type "list", data := .seq vs.toArray } (.lst (ns.map V.int))) else none : Hp) b = none := fun h => if_neg h
    apply main (fun b => if b = a then some (HO.frz { cls := .type "list", data := .seq vs.toArray } (.lst (ns.map V.int))) else none)
    · intro b
      by_cases hb : b = a
      · exact Or.inr ⟨_, _, yes hb⟩
      · exact Or.inl (no hb)
    · exact Or.inl (Or.inr ⟨_, yes rfl⟩)
    · intro b u z
      by_cases hb : b = a
      · have z' := (yes hb).symm.trans z
        have z2 := Option.some.inj z'
        subst z2
        subst hb
        exact ⟨ha, by rw [List.length_map]; exact hl, vs, _, rv, ha⟩
      · have z' := (no hb).symm.trans z
        cases z'
    · intro b z
      by_cases hb : b = a
      · exact hb
      · exact absurd (no hb) z
    · intro _
      exact hk
end

/-- the goal that the head leaves, from such a promise -/
theorem walkG {l : PySem.W.OpenLaw} {n k : Nat} {q : Program} {loose : List Str}
    {XP : (Str → Option Value) → Heap → Prop} {YP : World → Heap → Prop} {d : DefRec}
    {K : Params → PySem.W.Frag} {sp : PySem.W.Frag → Sp} {x : Str}
    (hn : l.most = some n) (hn2 : n ≤ sizeLine) (hdf : d.params.defaults = []) (hr : Room k callerA)
    (hY : ∀ (w : World) (h : Heap), YP w h → (K w.params).In h)
    (F : ∀ (w : World) (mg : Str → Option Value) (fa : Addr) (h : Heap), (K w.params).In h → h.Ns mainGlobals mg →
      mg d.name = some (.ref fa) →
      ∃ fd : FuncData, (∀ (s : Shared) (u : Value), BindsTo s fd ⟨[u], []⟩ [(x, u)]) ∧
        ∀ base : Heap, (K w.params).In base → base.Ns mainGlobals mg →
          FnG l.prog w (K w.params) mg base k fa fd [x] (sp (K w.params)))
    (hsp : ∀ (K : PySem.W.Frag) (H : Hp) (a : Addr) (ns : List Int), ns.length ≤ n → SqL K H a (ns.map V.int) →
      sp K [.ref a] H (fun v _ => v = .bl true) fun _ _ _ => False) :
    PySem.W.WalkO q loose XP YP l.row.toRowW d [] (fun f vs => PySem.call f vs) := by
  apply Att.attach_call hn hdf
  intro w s₀ s₁ mg mb fa o pm cd doc a vs ns G Y ho hd hcd hmg hobj hints hlen hg
  have kx := hY w _ Y
  obtain ⟨fd, hb, hF⟩ := F w mg fa _ kx G.T.g hmg
  exact callG kx G.T.g G.T.b G.T.builtins G.T.nolimit hg hobj hints (Nat.le_trans hlen hn2) hr hF hb
    (fun H hS => hsp (K w.params) H a ns hlen hS)

section
variable {X : Cx}
/-- repr of data: what Python shows of it -/
theorem call_repr_D (hg : X.A.guards = some []) (hu : X.A.units + 64 < cLine) : CallR X (.builtin "repr")
    (fun xs H Q => ∃ v d, xs = [v] ∧ isDisplay d = true ∧ Dp X.K H v d ∧ d.showable = true ∧ d.hasDict = false ∧ d.depth < 40 ∧ d.shown.length ≤ sizeLine ∧ Q (.str d.shown) H) := by
  intro pins s σ H xs us Q I r h
  obtain ⟨v, d, rfl, hdsp, hD, hsh, hnd, hdp, hsz, q⟩ := h
  obtain ⟨u, rfl, ru⟩ := vals1 r
  obtain ⟨as, rd⟩ := Dp.reads I d v u hD ru
  obtain ⟨a, rfl⟩ := isRef_of_reads rd hdsp
  refine repr_of_reads' rd hsh (PyData.noDict_hsm hnd) hg (by omega) (fun _ _ e => e) (fun h' u tk hk => ?_) hsz
  exact ⟨.str d.shown, H, I.kept hk, ⟨_, rfl⟩, q⟩

/-- f(k = v, ..), no value without a name -/
theorem pe_callKw {CX : CXT} {k : Nat} {f : Addr} {fd : FuncData} {ps ks : List Str} {sp : Sp} {E : XK} {x : Str} {p pos : Pos}
    {kws : List Keyword} {tk : TA} {g : List Value → List Value → List Value} {gV : List V → List V → List V}
    (F : FnOk X.prog X.w X.K X.mg X.base CX k f fd ps sp) (hr : Room k X.A) (hg : Gl X x) (hm : X.mg x = some (.ref f))
    (hk : PySem.W.keepIn X.K (.ref f) = true) (hb : KBinds X.K fd ps ks g gV) (hx : Passes CX X E) (hkw : PK X kws tk)
    (hall : (backToKw pos (keywordEach kws X.env)).all (·.1.isSome) = true := by rfl)
    (hks : (backToKw pos (keywordEach kws X.env)).filterMap (·.1) = ks := by rfl)
    (hdb : (x == ("__debug__" : Str)) = false := by decide)
    (hpl : ((backTo pos (starEach [] X.env)).any (·.1) || (backToKw pos (keywordEach kws X.env)).any (·.1.isNone)) = false := by rfl) :
    PE X (.Call (.Name x p) [] kws pos) (tCallK sp gV E tNil tk) := by
  constructor
  intro pins s σ H Q I h
  apply wpAny_Call_Name_kw (ld_glob I hg hm ?_ hdb)
  apply PySem.W.callWith_KW0 (h₀ := X.base) I.ok.mod.kin hk hall ?_ hpl
  apply thn (hkw.run pos pins s σ H _ I h)
  rintro ws s2 ⟨zs, H2, I2, rz, q2⟩
  refine ⟨I2.kIn, ?_⟩
  rw [hks]
  exact run_fnk (us := []) (vs := []) F hr hb hx I2 .nil rz q2
end
end Zc
end

section
set_option maxHeartbeats 1000000
/-! The deal from which every law of this program draws: what it holds, and that a draw is some number below its bound. -/
namespace Zc
open PySem PySem.Spec PyProof.Rows L2

/-- a def of the text: where it stands, by what name, how its arguments bind -/
structure At (K : PySem.W.Frag) (mg : Str → Option Value) (x : Str) (st : Stmt) (ps : List Str) (f : Addr) (fd : FuncData) : Prop where
  F : Fun K x x st f fd
  g : mg x = some (.ref f)
  b : Binds K fd ps []

/-- a deal at d, its list at l -/
def Deal (H : Hp) (d l : Addr) : Prop := ∃ (xs : List Int) (b : Int), d ≠ l ∧ H d = some (.lst [.ref l, .int b]) ∧
  H l = some (.lst (xs.map V.int)) ∧ xs.length ≤ 48 ∧ (∀ x ∈ xs, 0 ≤ x) ∧ 0 ≤ b ∧ b < 2147483647
/-- all that was tracked beside the deal is as it was -/
def But (d l : Addr) (H H' : Hp) : Prop := ∀ b o, b ≠ d → b ≠ l → H b = some o → H' b = some o
theorem But.refl (d l : Addr) (H : Hp) : But d l H H := fun _ _ _ _ h => h
theorem But.trans {d l : Addr} {H H1 H2 : Hp} (a : But d l H H1) (b : But d l H1 H2) : But d l H H2 :=
  fun c o n1 n2 h => b c o n1 n2 (a c o n1 n2 h)
theorem But.of {d l : Addr} {H H' : Hp} (a : Same H H') : But d l H H' := fun c o _ _ h => a c o h
theorem But.updD {d l : Addr} {H H' : Hp} {o : HO} (a : But d l H H') : But d l H (upd H' d o) := fun c u n1 n2 h => by
  rw [upd_ne n1]
  exact a c u n1 n2 h
theorem But.updL {d l : Addr} {H H' : Hp} {o : HO} (a : But d l H H') : But d l H (upd H' l o) := fun c u n1 n2 h => by
  rw [upd_ne n2]
  exact a c u n1 n2 h
theorem same_new {H : Hp} {p : Addr} {o : HO} (h : H p = none) : Same H (upd H p o) := fun b x e => by
  rw [upd_ne (ne_of_none e h)]
  exact e

/-! ### lists of ints as data -/
theorem dp_ints {K : PySem.W.Frag} {H : Hp} : ∀ ns : List Int, DpAll K H (ns.map V.int) (ns.map PyData.int)
  | [] => .nil
  | n :: r => .cons (.int n) (dp_ints r)
theorem can_ints : ∀ ns : List Int, PyData.canLayAll0 (ns.map PyData.int) = true
  | [] => by simp [PyData.canLayAll0]
  | n :: r => by simp [PyData.canLayAll0, PyData.canLay0, can_ints r]
theorem depth_ints : ∀ ns : List Int, PyData.depthAll (ns.map PyData.int) = 0
  | [] => by simp [PyData.depthAll]
  | n :: r => by simp [PyData.depthAll, PyData.depth, depth_ints r]
theorem shaped_ints (ns : List Int) : SeqAt.shaped (.list (ns.map PyData.int)) = true := by
  simp [SeqAt.shaped, PyData.canLay0, can_ints, PyData.depth, depth_ints]
theorem eqv_nil (ns : List Int) : PyData.eqv (.list (ns.map PyData.int)) (.list []) = ns.isEmpty := by
  cases ns <;> simp [PyData.eqv, PyData.eqvAll]
theorem shaped_nil : SeqAt.shaped (.list []) = true := by decide +kernel
theorem ne_nil_read {K : PySem.W.Frag} {H : Hp} {l p : Addr} {ns : List Int} {Q : VK} (h : SqL K H l (ns.map V.int)) (hp : SqL K H p [])
    (q : Q (.bl (!ns.isEmpty)) H) : rNeD K (.ref l) (.ref p) H Q := by
  refine ⟨.list (ns.map .int), .list [], .lst h (dp_ints ns), .lst hp .nil, shaped_ints ns, shaped_nil, ?_⟩
  rw [eqv_nil]
  exact q

theorem snoc_cases (xs : List Int) : xs = [] ∨ ∃ ys z, xs = ys ++ [z] := by
  cases xs with
  | nil => exact .inl rfl
  | cons x r => exact .inr ⟨_, _, (List.dropLast_concat_getLast (List.cons_ne_nil x r)).symm⟩
theorem snoc_map (ys : List Int) (z : Int) : (ys ++ [z]).map V.int = ys.map V.int ++ [V.int z] := by
  rw [List.map_append]
  rfl
theorem snoc_len (ys : List Int) (z : Int) : (ys ++ [z]).length = ys.length + 1 := by
  rw [List.length_append]
  rfl
theorem snoc_last (ys : List V) (z : V) : (ys ++ [z])[(ys ++ [z]).length - 1]? = some z := by
  rw [List.length_append]
  simp
theorem snoc_ne (ys : List Int) (z : Int) : (!(ys ++ [z]).isEmpty) = true := by
  cases ys <;> rfl
theorem iteTe {c : Bool} {A B : Prop} (e : c = true) (h : A) : if c = true then A else B := by
  rw [if_pos e]
  exact h
theorem iteFe {c : Bool} {A B : Prop} (e : c = false) (h : B) : if c = true then A else B := by
  rw [if_neg (by rw [e]; exact Bool.false_ne_true)]
  exact h
/-- the deal's list after a change of it -/
theorem Deal.list {H : Hp} {d l : Addr} {b : Int} {xs : List Int} (ndl : d ≠ l) (hd : H d = some (.lst [.ref l, .int b])) (hlen : xs.length ≤ 48)
    (hpos : ∀ x ∈ xs, 0 ≤ x) (b0 : 0 ≤ b) (b1 : b < 2147483647) : Deal (upd H l (.lst (xs.map V.int))) d l :=
  ⟨xs, b, ndl, by rw [upd_ne ndl]; exact hd, upd_same, hlen, hpos, b0, b1⟩
theorem Deal.num {H : Hp} {d l : Addr} {b : Int} {xs : List Int} (ndl : d ≠ l) (hl : H l = some (.lst (xs.map V.int))) (hlen : xs.length ≤ 48)
    (hpos : ∀ x ∈ xs, 0 ≤ x) (b0 : 0 ≤ b) (b1 : b < 2147483647) : Deal (upd H d (.lst [.ref l, .int b])) d l :=
  ⟨xs, b, ndl, upd_same, by rw [upd_ne (fun e => ndl e.symm)]; exact hl, hlen, hpos, b0, b1⟩

/-! ### the promises -/
def spAny : Sp := fun vs H Q _ => ∃ (d l : Addr) (n : Int), vs = [.ref d, .int n] ∧ Deal H d l ∧ 0 < n ∧ n < 2 ^ 64 ∧
  ∀ (r : Int) (H' : Hp), 0 ≤ r → r < n → Deal H' d l → But d l H H' → Q (.int r) H'
def spDraw (K : PySem.W.Frag) : Sp := fun vs H Q _ => ∃ (a : Addr) (ns : List Int) (z : Int), vs = [.ref a, .int z] ∧ SqL K H a (ns.map V.int) ∧
  ns.length ≤ 63 ∧ 0 ≤ z ∧ z ≤ 100 ∧ ∀ (d l : Addr) (H' : Hp), H d = none → H l = none → Deal H' d l → Same H H' → Q (.ref d) H'
def spOf (K : PySem.W.Frag) : Sp := fun vs H Q _ => ∃ (d l a : Addr) (xs : List V), vs = [.ref d, .ref a] ∧ Deal H d l ∧
  (∀ H', But d l H H' → SqL K H' a xs) ∧ 0 < xs.length ∧ xs.length ≤ 1000 ∧
  ∀ (i : Nat) (x : V) (H' : Hp), xs[i]? = some x → Deal H' d l → But d l H H' → Q x H'
theorem map_at {ns : List Int} {i : Nat} {x : V} (h : (ns.map V.int)[i]? = some x) : ∃ n, ns[i]? = some n ∧ x = .int n := by
  rw [List.getElem?_map] at h
  cases e : ns[i]? with
  | none =>
    rw [e] at h
    cases h
  | some n =>
    rw [e] at h
    exact ⟨n, rfl, (Option.some.inj h).symm⟩
theorem cut_ints (ns : List Int) (hi : Int) : ∃ ms : List Int, cutV (ns.map V.int) none (some hi) = ms.map V.int ∧ ms.length ≤ ns.length := by
  refine ⟨(ns.drop (HT.sIx ns.length 0 none)).take (HT.sIx ns.length ns.length (some hi) - HT.sIx ns.length 0 none), ?_, ?_⟩
  · unfold cutV
    rw [List.length_map, List.map_take, List.map_drop]
  · rw [List.length_take, List.length_drop]
    omega
theorem cut48 (ns : List Int) : ∃ ms : List Int, cutV (ns.map V.int) none (some 48) = ms.map V.int ∧ ms.length ≤ 48 := by
  refine ⟨ns.take 48, ?_, by rw [List.length_take]; omega⟩
  unfold cutV
  rw [HT.sIx_none, show HT.sIx (ns.map V.int).length (ns.map V.int).length (some 48) = min 48 (ns.map V.int).length from HT.sIx_nat _ _ 48, List.drop_zero, Nat.sub_zero, List.length_map, List.map_take]
  by_cases h : 48 ≤ ns.length
  · rw [Nat.min_eq_left h]
  · rw [Nat.min_eq_right (by omega), List.take_of_length_le (by rw [List.length_map]; omega), List.take_of_length_le (by rw [List.length_map]; omega)]
/-! ### calls by keywords alone, the last parameter's first -/
def revK {α : Type} : List α → List α → List α
  | [], ws => ws.reverse
  | _ :: _, _ => []
theorem kb_rev {K : PySem.W.Frag} {x qual : Str} {st : Stmt} {f : Addr} {fd : FuncData} {ps ks : List Str} (F : Fun K x qual st f fd) (hp : ps ≠ []) (hk : ks.length = ps.length)
    (h : ∀ (kV doc pm : Value) (an : Option Addr) (cdv ct : Value) (ws : List Value), ws.length = ks.length →
      bindArgs (PySem.W.fnOf x qual (defArgs st) (defBody st) (defScope st) .none kV doc pm an cdv ct) ⟨[], ks.zip ws⟩ = pure (ps.zip ws.reverse)) :
    KBinds K fd ps ks revK revK := by
  obtain ⟨oc, od, kV, doc, pm, an, cdv, ct, osl, rfl, lk, hcd⟩ := F.ex
  constructor
  · intro s us ws _ hl
    cases us with
    | cons u r =>
      exact absurd (List.eq_nil_of_length_eq_zero hl.symm) hp
    | nil =>
      have hl' : ws.reverse.length = ps.length := hl
      rw [List.length_reverse] at hl'
      exact .of_eq (h kV doc pm an cdv ct ws (hl'.trans hk.symm))
  · intro vs us zs ws r1 r2
    cases r1 with
    | nil => exact r2.reverse
    | cons _ _ => exact .nil
end Zc
end

section
set_option maxHeartbeats 2000000
/-! enumerate of a text: its signs, each in a new pair with its place. -/
namespace Zc
open PySem PySem.Spec PyProof.Rows L2
def Its2 (z : Str) : It :=
  ⟨fun i _ => i < z.cps.size,
   fun i H v H' => ∃ T c, v = .ref T ∧ H T = none ∧ z.cps[i]? = some c ∧ H' = upd H T (.tup [.int (i : Nat), .str ⟨#[c]⟩]),
   fun i _ => z.cps.size ≤ i⟩
theorem draws_of {prog : Program} {w : World} {A : Around} (hh : A.handled = none) (it : Addr) (z : Str) (t : Tok) :
    Draws prog w A it [it] z.cps.size (fun i v => ∃ c u, z.cps[i]? = some c ∧ v = .str ⟨#[c]⟩ u) (fun i h => h.IsStrIter it (strIterType z) z t i) := by
  cases ha : z.cps.all (· < 128) with
  | true =>
    have e : strIterType z = "str_ascii_iterator" := by simp [strIterType, ha]
    rw [e]
    exact Draws.strAscii hh it z t
  | false =>
    have e : strIterType z = "str_iterator" := by simp [strIterType, ha]
    rw [e]
    exact Draws.strWide hh it z t
theorem turn_enumS {P : Program} {w : World} {K : PySem.W.Frag} {elts : List Expr} {kk : Nat} {tpos : Pos} (z : Str) (t : Tok) (e it : Addr) (hne : e ≠ it) :
    Turn P w K (.Tuple elts kk tpos) (Its2 z) [e, it] e (fun i h => (∃ old, IsEnum h e it ((i : Nat) : Int) old) ∧ h.IsStrIter it (strIterType z) z t i) where
  mem := List.mem_cons_self
  obj := by
    rintro i h ⟨⟨old, he⟩, ⟨o, ho, _, hd⟩⟩ b hb
    rcases List.mem_cons.mp hb with rfl | hb
    · refine ⟨_, he, ?_⟩
      intro v q
      cases q
    · rw [List.mem_singleton.mp hb]
      refine ⟨o, ho, ?_⟩
      intro v q
      rw [hd] at q
      cases q
  keep := by
    rintro i h h' ⟨⟨old, he⟩, ⟨o, ho, r⟩⟩ k
    exact ⟨⟨old, k e List.mem_cons_self _ he⟩, ⟨o, k it (by simp) o ho, r⟩⟩
  item := by
    intro X hP hw hK hc i pins s σ H E I hf st hg
    subst hP hw hK
    obtain ⟨⟨old, he⟩, hit⟩ := st
    have hel : e < s.heap.objs.size := Heap.lt_size he
    have hil : it < s.heap.objs.size := by
      obtain ⟨_, q, _⟩ := hit
      exact Heap.lt_size q
    have hh : X.A.in1.handled = none := I.ok.hd hc
    refine wpAny_pyNext_enum_itemD (draws_of hh it z t) he hit hg hne (fun q => hne (List.mem_singleton.mp q)) ?_
    intro x h' tk hx ho hit' hT hsz hk
    obtain ⟨c, u, hcx, rfl⟩ := hx
    refine ⟨_, rfl, wpAny_letOwnedTupleGo_enum (s := { s with heap := h', toks := tk + 1 }) ho ?_⟩
    intro h'' he' sb
    have hT2 : h''.get? s.heap.objs.size = some { cls := .type "tuple", data := .seq #[.int i tk, .str ⟨#[c]⟩ u] } :=
      (sb.2 _ (Nat.ne_of_gt hel)).trans hT
    have fresh : ObjOk X.prog X.w (upd H s.heap.objs.size (.tup [.int (i : Nat), .str ⟨#[c]⟩])) h'' s.heap.objs.size (.tup [.int (i : Nat), .str ⟨#[c]⟩]) := by
      refine ⟨by show 2 ≤ sizeLine; decide, [.int i tk, .str ⟨#[c]⟩ u], ?_, ⟨_, hT2, rfl, _, rfl⟩⟩
      exact .cons ⟨_, rfl⟩ (.cons ⟨_, rfl⟩ .nil)
    have J : Inv X pins σ (upd H s.heap.objs.size (.tup [.int (i : Nat), .str ⟨#[c]⟩])) { s with heap := h'', toks := tk + 1 } := by
      refine I.turnedNew (ch := [e, it]) ?_ hf (Nat.le_refl _) fresh
      intro b ob hb q
      have b1 : b ≠ e := fun y => hb (by rw [y]; exact List.mem_cons_self)
      have b2 : b ≠ it := fun y => hb (by rw [y]; exact List.mem_cons_of_mem _ List.mem_cons_self)
      exact (sb.2 b b1).trans (hk b ob b1 b2 q)
    refine ⟨.ref s.heap.objs.size, _, J, rfl, ⟨_, c, rfl, I.hok.fresh (Nat.le_refl _), hcx, rfl⟩, ⟨⟨.str ⟨#[c]⟩ u, ?_⟩, ?_⟩, ?_⟩
    · rw [show ((i + 1 : Nat) : Int) = (i : Int) + 1 by omega]
      exact he'
    · obtain ⟨o, q, r⟩ := hit'
      exact ⟨o, (sb.2 it (Ne.symm hne)).trans q, r⟩
    · intro b hb
      have lt : b < s.heap.objs.size := by
        rcases List.mem_cons.mp hb with y | y
        · rw [y]
          exact hel
        · rw [List.mem_singleton.mp y]
          exact hil
      rw [upd_ne (Nat.ne_of_lt lt)]
      exact (hf b hb).1
  done := by
    intro X hP hw hK hc i pins s σ H E I hf st hg
    subst hP hw hK
    obtain ⟨⟨old, he⟩, hit⟩ := st
    have hh : X.A.in1.handled = none := I.ok.hd hc
    obtain ⟨f0, f1, f2, f3, f4, f5⟩ := hf it (by simp)
    have D := draws_of (prog := X.prog) (w := X.w) hh it z t
    have D2 : Draws X.prog X.w X.A.in1 it [it] z.cps.size (fun i v => ∃ c u, z.cps[i]? = some c ∧ v = .str ⟨#[c]⟩ u) (fun j h => h.IsStrIter it (strIterType z) z t i ∧ j = z.cps.size ∨ h.IsStrIter it (strIterType z) z t j) := by
      refine ⟨?_, ?_, ?_, ?_⟩
      · rintro j h (⟨q, _⟩ | q)
        · exact D.live _ _ q
        · exact D.live _ _ q
      · rintro j h h' (⟨q, r⟩ | q) k
        · exact .inl ⟨D.frame _ _ _ q k, r⟩
        · exact .inr (D.frame _ _ _ q k)
      · rintro j s Q E hj (⟨_, r⟩ | q) hQ
        · omega
        · exact D.item j s Q E hj q fun x h' tk a b c => hQ x h' tk a (.inr b) c
      · rintro s Q E (⟨q, _⟩ | q) hE
        · have hx : z.cps[i]? = none := Array.getElem?_eq_none hg
          cases ha : z.cps.all (· < 128) with
          | true =>
            rw [show strIterType z = "str_ascii_iterator" by simp [strIterType, ha]] at q
            exact wpAny_nextOf_ascii_end hh q hx hE
          | false =>
            rw [show strIterType z = "str_iterator" by simp [strIterType, ha]] at q
            exact wpAny_nextOf_wide_end hh q hx hE
        · exact D.done s Q E q hE
    exact wpAny_pyNext_enum_endD D2 he (.inl ⟨hit, rfl⟩) fun h' eb => ⟨rfl, I.turned (t' := s.toks) (fun b o hb q => eb b o hb q) f0 f1 f3 f4 f5⟩
  self := by
    rintro A i s Q E ⟨⟨_, he⟩, _⟩ h
    exact wpAny_pyIter_enum he h
def iEnumS (ta : TA) : TI := fun σ H R => ta σ H fun vs H1 => ∃ z, vs = [.str z] ∧ R (Its2 z) H1
theorem pi_enumS {X : Cx} {e : Expr} {ta : TA} {p pos tpos : Pos} {elts : List Expr} {kk : Nat} (hg : Gl X "enumerate") (hm : X.mg "enumerate" = none) (ha : PA X [e] ta)
    (hs : starEach [e] X.env = [(false, eval e X.env)] := by rfl) : PI X (.Tuple elts kk tpos) (.Call (.Name "enumerate" p) [e] [] pos) (iEnumS ta) := by
  constructor
  intro pins s σ H R I h
  refine Call_ (ld_blt I hg hm boot_enumerate (PyProof.Rows.callWith_type1
    (thn (ha.run pos pins s σ H _ I h) ?_) hs rfl))
  rintro us s1 ⟨vs, H1, I1, r1, z, rfl, q⟩
  obtain ⟨u, rfl, t, rfl⟩ := vals1 r1
  refine call_enumerate_str fun h' he hit hsz hk => wpAny_pyIter_enum he ?_
  have I2 : Inv X pins σ H1 { s1 with heap := h' } := I1.kept (t' := s1.toks) hk
  refine ⟨s1.heap.objs.size + 1, [s1.heap.objs.size + 1, s1.heap.objs.size], _, _, H1, rfl, I2, turn_enumS z t (s1.heap.objs.size + 1) s1.heap.objs.size (Nat.succ_ne_self _), ⟨⟨.none, he⟩, hit⟩, ?_, q⟩
  intro b hb
  have le : s1.heap.objs.size ≤ b := by
    rcases List.mem_cons.mp hb with y | y
    · rw [y]
      exact Nat.le_succ _
    · rw [List.mem_singleton.mp y]
      exact Nat.le_refl _
  exact I1.fpOk le (I1.hok.fresh le)
theorem walk_enumS {z : Str} : Walk (Its2 z) z.cps.size (fun _ => True)
    (fun i H v H' => ∃ T c, v = .ref T ∧ H T = none ∧ z.cps[i]? = some c ∧ H' = upd H T (.tup [.int (i : Nat), .str ⟨#[c]⟩])) :=
  ⟨fun _ _ hi _ => hi, fun _ _ => Nat.le_refl _, fun _ _ _ _ _ _ y => y⟩
end Zc
end

section
set_option maxHeartbeats 1000000
/-! Data of any depth: kept from heap to heap, shown, compared. -/
namespace Zc
open PySem PySem.Spec PyProof.Rows L2
section
variable {K : PySem.W.Frag} {H H' : Hp}
theorem Same.seqT {a : Addr} {xs : List V} (e : Same H H') (h : SqT K H a xs) : SqT K H' a xs := by
  rcases h with (h | ⟨o, h⟩) | h
  · exact .inl (.inl (e _ _ h))
  · exact .inl (.inr ⟨o, e _ _ h⟩)
  · exact .inr h
mutual
theorem dp_same (e : Same H H') : ∀ (d : PyData) (v : V), Dp K H v d → Dp K H' v d
  | .none, _, h => by cases h; exact .non
  | .bool b, _, h => by cases h; exact .bl b
  | .int i, _, h => by cases h; exact .int i
  | .str x, _, h => by cases h; exact .str x
  | .list ds, _, h => by
    cases h with
    | lst hs ha => exact .lst (e.seq hs) (dpAll_same e ds _ ha)
  | .tuple ds, _, h => by
    cases h with
    | tup hs ha => exact .tup (Same.seqT e hs) (dpAll_same e ds _ ha)
  | .dict _, _, h => by cases h
theorem dpAll_same (e : Same H H') : ∀ (ds : List PyData) (vs : List V), DpAll K H vs ds → DpAll K H' vs ds
  | [], _, h => by cases h; exact .nil
  | d :: ds, _, h => by
    cases h with
    | cons h1 h2 => exact .cons (dp_same e d _ h1) (dpAll_same e ds _ h2)
end
theorem Dp.keep {d : PyData} {v : V} (h : Dp K H v d) (e : Same H H') : Dp K H' v d := dp_same e d v h
theorem DpAll.keep {ds : List PyData} {vs : List V} (h : DpAll K H vs ds) (e : Same H H') : DpAll K H' vs ds := dpAll_same e ds vs h
theorem DpAll.len : ∀ {ds : List PyData} {vs : List V}, DpAll K H vs ds → vs.length = ds.length
  | [], _, h => by cases h; rfl
  | d :: ds, _, h => by
    cases h with
    | cons h1 h2 => rw [List.length_cons, List.length_cons, DpAll.len h2]
theorem DpAll.get : ∀ {ds : List PyData} {vs : List V} {i : Nat} {x : V}, DpAll K H vs ds → vs[i]? = some x → ∃ d, ds[i]? = some d ∧ Dp K H x d
  | [], _, i, x, h, e => by cases h; cases e
  | d :: ds, _, 0, x, h, e => by
    cases h with
    | cons h1 h2 =>
      cases e
      exact ⟨d, rfl, h1⟩
  | d :: ds, _, i + 1, x, h, e => by
    cases h with
    | cons h1 h2 => exact DpAll.get (i := i) h2 e
theorem DpAll.at : ∀ {ds : List PyData} {vs : List V} {i : Nat} {d : PyData}, DpAll K H vs ds → ds[i]? = some d → ∃ x, vs[i]? = some x ∧ Dp K H x d
  | [], _, i, x, h, e => by cases e
  | d :: ds, _, 0, x, h, e => by
    cases h with
    | cons h1 h2 =>
      cases e
      exact ⟨_, rfl, h1⟩
  | d :: ds, _, i + 1, x, h, e => by
    cases h with
    | cons h1 h2 => exact DpAll.at (i := i) h2 e
theorem DpAll.app : ∀ {ds es : List PyData} {vs us : List V}, DpAll K H vs ds → DpAll K H us es → DpAll K H (vs ++ us) (ds ++ es)
  | [], es, _, us, h, g => by cases h; exact g
  | d :: ds, es, _, us, h, g => by
    cases h with
    | cons h1 h2 => exact .cons h1 (DpAll.app h2 g)
theorem DpAll.snoc {ds : List PyData} {vs : List V} {d : PyData} {v : V} (h : DpAll K H vs ds) (g : Dp K H v d) : DpAll K H (vs ++ [v]) (ds ++ [d]) := DpAll.app h (.cons g .nil)
theorem DpAll.dropLast : ∀ {ds : List PyData} {vs : List V}, DpAll K H vs ds → DpAll K H vs.dropLast ds.dropLast
  | [], _, h => by cases h; exact .nil
  | [d], _, h => by
    cases h with
    | cons h1 h2 =>
      cases h2
      exact .nil
  | d :: e :: ds, _, h => by
    cases h with
    | cons h1 h2 =>
      cases h2 with
      | cons h3 h4 => exact .cons h1 (DpAll.dropLast (.cons h3 h4))
theorem DpAll.take : ∀ {ds : List PyData} {vs : List V} (k : Nat), DpAll K H vs ds → DpAll K H (vs.take k) (ds.take k)
  | _, _, 0, h => by
    rw [List.take_zero, List.take_zero]
    exact .nil
  | [], _, k + 1, h => by cases h; exact .nil
  | d :: ds, _, k + 1, h => by
    cases h with
    | cons h1 h2 => exact .cons h1 (DpAll.take k h2)
theorem DpAll.drop : ∀ {ds : List PyData} {vs : List V} (k : Nat), DpAll K H vs ds → DpAll K H (vs.drop k) (ds.drop k)
  | _, _, 0, h => h
  | [], _, k + 1, h => by cases h; exact .nil
  | d :: ds, _, k + 1, h => by
    cases h with
    | cons h1 h2 => exact DpAll.drop k h2
theorem dp_strs {α : Type} (g : α → Str) : ∀ ss : List α, DpAll K H (ss.map fun a => V.str (g a)) (ss.map fun a => PyData.str (g a))
  | [] => .nil
  | s :: r => .cons (.str _) (dp_strs g r)
theorem dp_intsG {α : Type} (g : α → Int) : ∀ ss : List α, DpAll K H (ss.map fun a => V.int (g a)) (ss.map fun a => PyData.int (g a))
  | [] => .nil
  | s :: r => .cons (.int _) (dp_intsG g r)
theorem strs_of {α : Type} (g : α → Str) : ∀ (ss : List α) (vs : List V), DpAll K H vs (ss.map fun a => PyData.str (g a)) → vs = ss.map fun a => V.str (g a)
  | [], _, h => by cases h; rfl
  | s :: r, _, h => by
    cases h with
    | cons h1 h2 =>
      cases h1
      rw [strs_of g r _ h2]
      rfl
theorem ints_of {α : Type} (g : α → Int) : ∀ (ss : List α) (vs : List V), DpAll K H vs (ss.map fun a => PyData.int (g a)) → vs = ss.map fun a => V.int (g a)
  | [], _, h => by cases h; rfl
  | s :: r, _, h => by
    cases h with
    | cons h1 h2 =>
      cases h1
      rw [ints_of g r _ h2]
      rfl
end

/-! ### a heap without some addresses -/
open Classical in
noncomputable def cut (S : Addr → Prop) (H : Hp) : Hp := fun b => if S b then none else H b
theorem cut_in {S : Addr → Prop} {H : Hp} {b : Addr} {o : HO} (h : cut S H b = some o) : ¬ S b ∧ H b = some o := by
  unfold cut at h
  split at h
  · cases h
  · rename_i n
    exact ⟨n, h⟩
theorem cut_of {S : Addr → Prop} {H : Hp} {b : Addr} {o : HO} (n : ¬ S b) (h : H b = some o) : cut S H b = some o := by
  unfold cut
  rw [if_neg n]
  exact h
theorem same_cut {S S' : Addr → Prop} {H H' : Hp} (h : ∀ b o, ¬ S b → H b = some o → ¬ S' b ∧ H' b = some o) : Same (cut S H) (cut S' H') := fun b o e => by
  obtain ⟨n, e'⟩ := cut_in e
  obtain ⟨n', e2⟩ := h b o n e'
  exact cut_of n' e2
theorem cut_same {S : Addr → Prop} {H H' : Hp} (s : Same H H') : Same (cut S H) (cut S H') := same_cut fun b o n e => ⟨n, s b o e⟩
theorem cut_less {S S' : Addr → Prop} {H : Hp} (s : ∀ b, S' b → S b) : Same (cut S H) (cut S' H) := same_cut fun b o n e => ⟨fun x => n (s b x), e⟩
theorem cut_full {S : Addr → Prop} {H : Hp} : Same (cut S H) H := fun b o e => (cut_in e).2
/-- the deal's two addresses -/
def dl (d l : Addr) : Addr → Prop := fun b => b = d ∨ b = l
theorem cut_but {d l : Addr} {H H' : Hp} (h : But d l H H') : Same (cut (dl d l) H) (cut (dl d l) H') :=
  same_cut fun b o n e => ⟨n, h b o (fun x => n (.inl x)) (fun x => n (.inr x)) e⟩
/-- one more address left out, that was free when the heap was H -/
def orA (S : Addr → Prop) (a : Addr) : Addr → Prop := fun b => S b ∨ b = a
theorem cut_or {S : Addr → Prop} {H H' : Hp} {a : Addr} (n : H a = none) (s : Same H H') : Same (cut S H) (cut (orA S a) H') :=
  same_cut fun b o m e => by
    refine ⟨fun x => ?_, s b o e⟩
    rcases x with x | x
    · exact m x
    · rw [x, n] at e
      cases e
theorem cut_upd {S : Addr → Prop} {H : Hp} {a : Addr} {o : HO} (h : S a) : Same (cut S H) (cut S (upd H a o)) :=
  same_cut fun b u n e => ⟨n, by rw [upd_ne (fun x => n (by rw [x]; exact h))]; exact e⟩
theorem cut_at {S : Addr → Prop} {H : Hp} {a : Addr} {o : HO} (h : ¬ S a) : cut S (upd H a o) a = some o := cut_of h upd_same

/-! ### how long data are when they are shown; what can be compared -/
mutual
def bulk : PyData → Nat
  | .none => 4
  | .bool _ => 5
  | .int _ => 66
  | .str x => 10 * x.length + 2
  | .list xs => bulkAll xs + 3
  | .tuple xs => bulkAll xs + 3
  | .dict _ => 0
def bulkAll : List PyData → Nat
  | [] => 0
  | x :: xs => bulk x + 2 + bulkAll xs
end
mutual
def plainD : PyData → Bool
  | .none => true
  | .bool _ => true
  | .int i => decide (i.natAbs < 2 ^ 64)
  | .str x => PyData.strOk x
  | .list xs => plainAll xs
  | .tuple xs => plainAll xs
  | .dict _ => false
def plainAll : List PyData → Bool
  | [] => true
  | x :: xs => plainD x && plainAll xs
end
mutual
theorem plain_lay : ∀ d : PyData, plainD d = true → d.canLay0 = true ∧ d.hasDict = false ∧ d.showable = true
  | .none, _ => by simp [PyData.canLay0, PyData.hasDict, PyData.showable]
  | .bool _, _ => by simp [PyData.canLay0, PyData.hasDict, PyData.showable]
  | .int i, h => by
    have h' : i.natAbs < 2 ^ 64 := by simpa [plainD] using h
    have : i.natAbs.log2 < 64 := PySem.Flt.log2_lt_of (by decide) h'
    simp only [PyData.canLay0, PyData.hasDict, PyData.showable, true_and, decide_eq_true_eq]
    omega
  | .str x, h => by
    have h' : PyData.strOk x = true := by simpa [plainD] using h
    simp [PyData.canLay0, PyData.hasDict, PyData.showable, h']
  | .list xs, h => by
    have h' : plainAll xs = true := by simpa [plainD] using h
    simpa [PyData.canLay0, PyData.hasDict, PyData.showable] using plainAll_lay xs h'
  | .tuple xs, h => by
    have h' : plainAll xs = true := by simpa [plainD] using h
    simpa [PyData.canLay0, PyData.hasDict, PyData.showable] using plainAll_lay xs h'
  | .dict _, h => by simp [plainD] at h
theorem plainAll_lay : ∀ ds : List PyData, plainAll ds = true → PyData.canLayAll0 ds = true ∧ PyData.hasDictAll ds = false ∧ PyData.showableAll ds = true
  | [], _ => by simp [PyData.canLayAll0, PyData.hasDictAll, PyData.showableAll]
  | d :: ds, h => by
    have h' : plainD d = true ∧ plainAll ds = true := by simpa [plainAll] using h
    obtain ⟨a, b, c⟩ := plain_lay d h'.1
    obtain ⟨a', b', c'⟩ := plainAll_lay ds h'.2
    simp [PyData.canLayAll0, PyData.hasDictAll, PyData.showableAll, a, b, c, a', b', c']
end
theorem piled_tuple (ts : List Str) : (tupleText ts).length ≤ piled ts + 3 := by
  unfold tupleText
  rw [strLen_append, strLen_append]
  have e1 : (("(" : String) : Str).length = 1 := rfl
  have e2 : ((if ts.length == 1 then ",)" else ")" : String) : Str).length ≤ 2 := by
    split
    · exact Nat.le_refl 2
    · exact Nat.le_succ 1
  have e3 : (Str.join ", " ts).length ≤ piled ts := by
    cases ts with
    | nil => exact Nat.zero_le _
    | cons t r =>
      have := join_length_add (t :: r) (by simp)
      omega
  omega
theorem piled_list (ts : List Str) : (listText ts).length ≤ piled ts + 3 := by
  cases ts with
  | nil => show 2 ≤ 0 + 3; decide
  | cons t r =>
    have h := textFrom_length_pos r 1 (("[" : Str) ++ (if (0 : Nat) > 0 then ", " else "" : String) ++ t) (Nat.succ_pos 0)
    have e : ((("[" : Str) ++ (if (0 : Nat) > 0 then ", " else "" : String) ++ t)).length = 1 + t.length := by
      rw [strLen_append, strLen_append]; rfl
    have hX : (listText (t :: r)).length = (textFrom 0 "[" (t :: r)).length + 1 := by
      show (textFrom 0 "[" (t :: r) ++ "]").length = _
      rw [strLen_append]
      rfl
    have hY : textFrom 0 "[" (t :: r) = textFrom 1 (("[" : Str) ++ (if (0 : Nat) > 0 then ", " else "" : String) ++ t) r := rfl
    rw [hX, hY, h, e, piled_cons]
    omega
mutual
theorem bulk_shown : ∀ d : PyData, plainD d = true → d.shown.length ≤ bulk d
  | .none, _ => by simp only [PyData.shown, bulk]; decide
  | .bool b, _ => by cases b <;> (simp only [PyData.shown, bulk]; decide)
  | .int i, h => by
    have h' : i.natAbs < 2 ^ 64 := by simpa [plainD] using h
    have h2 : i.natAbs.log2 < 64 := PySem.Flt.log2_lt_of (by decide) h'
    have h3 := int_text_length_le (a := i) (k := 64) (by decide) h2
    simp only [PyData.shown, bulk]
    show (Str.ofString (toString i)).length ≤ 66
    rw [PySem.ofString_length]
    omega
  | .str x, h => by
    have h' : PyData.strOk x = true := by simpa [plainD] using h
    simp only [PyData.shown, bulk]
    refine PySem.StrLaws.reprText_len x fun c hc => ?_
    unfold PyData.strOk at h'
    rw [← Array.all_toList, List.all_eq_true] at h'
    have h2 : c < 1114112 := of_decide_eq_true (h' c hc)
    have h3 : (16 : Nat) ^ 8 = 4294967296 := rfl
    omega
  | .list xs, h => by
    have h' : plainAll xs = true := by simpa [plainD] using h
    simp only [PyData.shown, bulk]
    exact Nat.le_trans (piled_list _) (Nat.add_le_add_right (bulkAll_shown xs h') 3)
  | .tuple xs, h => by
    have h' : plainAll xs = true := by simpa [plainD] using h
    simp only [PyData.shown, bulk]
    exact Nat.le_trans (piled_tuple _) (Nat.add_le_add_right (bulkAll_shown xs h') 3)
  | .dict _, h => by simp [plainD] at h
theorem bulkAll_shown : ∀ ds : List PyData, plainAll ds = true → piled (PyData.shownAll ds) ≤ bulkAll ds
  | [], _ => by simp [PyData.shownAll, bulkAll, piled]
  | d :: ds, h => by
    have h' : plainD d = true ∧ plainAll ds = true := by simpa [plainAll] using h
    have a := bulk_shown d h'.1
    have b := bulkAll_shown ds h'.2
    simp only [PyData.shownAll, bulkAll, piled_cons]
    omega
end
theorem plain_shaped {d : PyData} (h : plainD d = true) (hd : d.depth ≤ 64) : SeqAt.shaped d = true := by
  unfold SeqAt.shaped
  rw [(plain_lay d h).1, decide_eq_true hd]
  rfl
/-- repr of plain data -/
theorem repr_ans {K : PySem.W.Frag} {H : Hp} {Q : VK} {v : V} {d : PyData} (hD : Dp K H v d) (hdsp : isDisplay d = true) (hp : plainD d = true) (hd : d.depth < 40) (hb : bulk d ≤ sizeLine) (q : Q (.str d.shown) H) :
    ∃ v' d', [v] = [v'] ∧ isDisplay d' = true ∧ Dp K H v' d' ∧ d'.showable = true ∧ d'.hasDict = false ∧ d'.depth < 40 ∧ d'.shown.length ≤ sizeLine ∧ Q (.str d'.shown) H :=
  ⟨v, d, rfl, hdsp, hD, (plain_lay d hp).2.2, (plain_lay d hp).2.1, hd, Nat.le_trans (bulk_shown d hp) hb, q⟩
theorem ne_ans {K : PySem.W.Frag} {H : Hp} {Q : VK} {v u : V} {d e : PyData} (hD : Dp K H v d) (hE : Dp K H u e) (hp : plainD d = true) (hq : plainD e = true) (hd : d.depth ≤ 64) (he : e.depth ≤ 64) (q : Q (.bl (!PyData.eqv d e)) H) : rNeD K v u H Q :=
  ⟨d, e, hD, hE, plain_shaped hp hd, plain_shaped hq he, q⟩
theorem eq_ans {K : PySem.W.Frag} {H : Hp} {Q : VK} {v u : V} {d e : PyData} (hD : Dp K H v d) (hE : Dp K H u e) (hp : plainD d = true) (hq : plainD e = true) (hd : d.depth ≤ 64) (he : e.depth ≤ 64) (q : Q (.bl (PyData.eqv d e)) H) : rEqD K v u H Q :=
  ⟨d, e, hD, hE, plain_shaped hp hd, plain_shaped hq he, q⟩
theorem eqv_self {d : PyData} (h : plainD d = true) : PyData.eqv d d = true := SeqAt.eqv_refl d (plain_lay d h).1
/-! ### lists of texts, of ints -/
theorem plain_strs {α : Type} (g : α → Str) : ∀ ss : List α, (∀ s ∈ ss, PyData.strOk (g s) = true) → plainAll (ss.map fun a => PyData.str (g a)) = true
  | [], _ => by simp [plainAll]
  | s :: r, h => by
    have h1 := h s List.mem_cons_self
    have h2 := plain_strs g r fun x hx => h x (List.mem_cons_of_mem _ hx)
    simp [plainAll, plainD, h1, h2]
theorem plain_ints {α : Type} (g : α → Int) : ∀ ss : List α, (∀ s ∈ ss, (g s).natAbs < 2 ^ 64) → plainAll (ss.map fun a => PyData.int (g a)) = true
  | [], _ => by simp [plainAll]
  | s :: r, h => by
    have h1 := h s List.mem_cons_self
    have h2 := plain_ints g r fun x hx => h x (List.mem_cons_of_mem _ hx)
    simp only [List.map_cons, plainAll, plainD, decide_eq_true h1, h2, Bool.and_self]
theorem depth_flat : ∀ ds : List PyData, (∀ d ∈ ds, d.depth = 0) → PyData.depthAll ds = 0
  | [], _ => by simp [PyData.depthAll]
  | d :: r, h => by
    have h1 := h d List.mem_cons_self
    have h2 := depth_flat r fun x hx => h x (List.mem_cons_of_mem _ hx)
    simp [PyData.depthAll, h1, h2]
theorem depth_strs {α : Type} (g : α → Str) (ss : List α) : PyData.depthAll (ss.map fun a => PyData.str (g a)) = 0 :=
  depth_flat _ fun d hd => by
    obtain ⟨a, _, rfl⟩ := List.mem_map.mp hd
    simp [PyData.depth]
theorem depth_intsG {α : Type} (g : α → Int) (ss : List α) : PyData.depthAll (ss.map fun a => PyData.int (g a)) = 0 :=
  depth_flat _ fun d hd => by
    obtain ⟨a, _, rfl⟩ := List.mem_map.mp hd
    simp [PyData.depth]
theorem bulk_strs {α : Type} (g : α → Str) : ∀ ss : List α, bulkAll (ss.map fun a => PyData.str (g a)) = 10 * (ss.map fun a => (g a).length).sum + 4 * ss.length
  | [] => by simp [bulkAll]
  | s :: r => by
    simp only [List.map_cons, bulkAll, bulk, bulk_strs g r, List.sum_cons, List.length_cons]
    omega
theorem bulk_intsG {α : Type} (g : α → Int) : ∀ ss : List α, bulkAll (ss.map fun a => PyData.int (g a)) = 68 * ss.length
  | [] => by simp [bulkAll]
  | s :: r => by
    simp only [List.map_cons, bulkAll, bulk, bulk_intsG g r, List.length_cons]
    omega
theorem str_len_mk (l : List Nat) : (⟨l.toArray⟩ : Str).length = l.length := by simp [Str.length]
theorem strOk_mk {l : List Nat} (h : ∀ c ∈ l, c < 0x110000) : PyData.strOk ⟨l.toArray⟩ = true := by
  unfold PyData.strOk
  rw [← Array.all_toList, List.all_eq_true]
  intro c hc
  exact decide_eq_true (h c (by simpa using hc))
end Zc
end

section
set_option maxHeartbeats 1000000
/-! What data at a value look like. -/
namespace Zc
open PySem PySem.Spec PyProof.Rows L2
section
variable {K : PySem.W.Frag} {H H' : Hp}
theorem dp_int {v : V} {i : Int} (h : Dp K H v (.int i)) : v = .int i := by cases h; rfl
theorem dp_str {v : V} {x : Str} (h : Dp K H v (.str x)) : v = .str x := by cases h; rfl
theorem dp_bl {v : V} {x : Bool} (h : Dp K H v (.bool x)) : v = .bl x := by cases h; rfl
theorem dp_tup {v : V} {ds : List PyData} (h : Dp K H v (.tuple ds)) : ∃ t xs, v = .ref t ∧ SqT K H t xs ∧ DpAll K H xs ds := by
  cases h with
  | tup a b => exact ⟨_, _, rfl, a, b⟩
theorem dp_lst {v : V} {ds : List PyData} (h : Dp K H v (.list ds)) : ∃ t xs, v = .ref t ∧ SqL K H t xs ∧ DpAll K H xs ds := by
  cases h with
  | lst a b => exact ⟨_, _, rfl, a, b⟩
theorem dp_two {vs : List V} {d e : PyData} (h : DpAll K H vs [d, e]) : ∃ v u, vs = [v, u] ∧ Dp K H v d ∧ Dp K H u e := by
  cases h with
  | cons a b =>
    cases b with
    | cons c b =>
      cases b
      exact ⟨_, _, rfl, a, c⟩
theorem dp_pair {v : V} {d e : PyData} (h : Dp K H v (.tuple [d, e])) : ∃ t x y, v = .ref t ∧ SqT K H t [x, y] ∧ Dp K H x d ∧ Dp K H y e := by
  obtain ⟨t, xs, rfl, a, b⟩ := dp_tup h
  obtain ⟨x, y, rfl, c, d⟩ := dp_two b
  exact ⟨t, x, y, rfl, a, c, d⟩
theorem dp_map {α : Type} {f : α → PyData} {vs : List V} {ss : List α} {i : Nat} {x : V} (h : DpAll K H vs (ss.map f)) (e : vs[i]? = some x) : ∃ a, ss[i]? = some a ∧ Dp K H x (f a) := by
  obtain ⟨d, h1, h2⟩ := DpAll.get h e
  rw [List.getElem?_map] at h1
  cases q : ss[i]? with
  | none =>
    rw [q] at h1
    cases h1
  | some a =>
    rw [q] at h1
    cases h1
    exact ⟨a, rfl, h2⟩
theorem dp_snoc : ∀ {ds : List PyData} {vs : List V} {d : PyData}, DpAll K H vs (ds ++ [d]) → ∃ us v, vs = us ++ [v] ∧ DpAll K H us ds ∧ Dp K H v d
  | [], _, d, h => by
    cases h with
    | cons a b =>
      cases b
      exact ⟨[], _, rfl, .nil, a⟩
  | e :: ds, _, d, h => by
    cases h with
    | cons a b =>
      obtain ⟨us, v, rfl, h1, h2⟩ := dp_snoc b
      exact ⟨_ :: us, v, rfl, .cons a h1, h2⟩
theorem set_last {α : Type} (xs : List α) (x y : α) : (xs ++ [x]).set ((xs ++ [x]).length - 1) y = xs ++ [y] := by
  induction xs with
  | nil => rfl
  | cons a r ih =>
    cases r with
    | nil => rfl
    | cons b r =>
      have e : (a :: b :: r ++ [x]).length - 1 = ((b :: r ++ [x]).length - 1) + 1 := by simp
      rw [e]
      show a :: ((b :: r ++ [x]).set _ y) = _
      rw [ih]
      rfl
theorem ix_last {n : Nat} (h : 0 < n) : L2.ixN n (-1) = some (n - 1) := by
  unfold L2.ixN
  rw [if_neg (by omega), if_pos (by omega)]
  congr 1
  omega
theorem take_snoc {α β : Type} {f : α → β} {ss : List α} {i : Nat} {a : α} (h : ss[i]? = some a) : (ss.take (i + 1)).map f = (ss.take i).map f ++ [f a] := by
  rw [List.take_add_one, h, List.map_append]
  rfl
end
end Zc
end

section
set_option maxHeartbeats 1000000
/-! Rules whose readings speak of the written part, for places within a comprehension: the written part named. -/
namespace Zc
open PySem PySem.Spec PyProof.Rows L2
section
variable {X : Cx} (K : PySem.W.Frag)
theorem pi_listK (h : X.K = K) {tg l : Expr} {tl : TE} (hl : PE X l tl) : PI X tg l (iList K tl) := h ▸ pi_list hl
theorem pi_tupK (h : X.K = K) {tg l : Expr} {tl : TE} (hl : PE X l tl) : PI X tg l (iTup K tl) := h ▸ pi_tup hl
theorem sl_tupK (h : X.K = K) : SlR X (rSlT K) := h ▸ sl_tup
theorem sl_listK (h : X.K = K) : SlR X (rSlL K) := h ▸ sl_list
theorem ix_listK (h : X.K = K) : IxR X (rIxL K) := h ▸ ix_list
theorem ix_tupK (h : X.K = K) : IxR X (rIxT K) := h ▸ ix_tup
theorem op_in_seqK (h : X.K = K) : OpR X (compareOp .In) (rIn K false) := h ▸ op_in_seq
theorem op_notIn_seqK (h : X.K = K) : OpR X (compareOp .NotIn) (rIn K true) := h ▸ op_notIn_seq
theorem op_catTK (h : X.K = K) : OpR X (binaryOp .Add) (rCatT K) := h ▸ op_catT
theorem op_eqDK (h : X.K = K) (hu : X.A.units + 64 < cLine) : OpR X (compareOp .Eq) (rEqD K) := h ▸ op_eqD hu
theorem op_neDK (h : X.K = K) (hu : X.A.units + 64 < cLine) : OpR X (compareOp .NotEq) (rNeD K) := h ▸ op_neD hu
theorem call_len_seqK (h : X.K = K) : CallR X (.builtin "len") (fun xs H Q => ∃ p ys, xs = [.ref p] ∧ (SqL K H p ys ∨ SqT K H p ys) ∧ Q (.int ys.length) H) := h ▸ call_len_seq
theorem call_list_ofK (h : X.K = K) : CallR X (.type "list") (fun xs H Q => ∃ p ys, xs = [.ref p] ∧ (SqL K H p ys ∨ SqT K H p ys) ∧ ∀ l, H l = none → Q (.ref l) (upd H l (.lst ys))) := h ▸ call_list_of
theorem call_tuple_ofK (h : X.K = K) : CallR X (.type "tuple") (fun xs H Q => ∃ p ys, xs = [.ref p] ∧ ((SqL K H p ys ∧ ∀ l, H l = none → Q (.ref l) (upd H l (.tup ys))) ∨ (SqT K H p ys ∧ Q (.ref p) H))) := h ▸ call_tuple_of
theorem cr_sumK (h : X.K = K) (hc : X.calm = true) : CallR X (.builtin "sum") (rSum K) := h ▸ cr_sum hc
end
theorem blkOk_any {N : List Str} {sc scope : Scope} {own : List (Str × Nat)} (h : blkC N sc scope own = true) : BlkOk N sc scope own := blkOk_by h
end Zc
end

section
set_option maxHeartbeats 2000000
/-! any, all of a generator expression whose element is any expression. -/
namespace Zc
open PySem PySem.Spec PyProof.Rows L2 GenW
abbrev tabφ (P : Addr) : Heap → Prop := fun h => ∃ ps : Array Value, h.get? P = some { cls := .none, data := .fields ps } ∧ TriplesOk ps.toList
/-- a code object's table, known to be one -/
abbrev tabX (P : Addr) : HO := .ext (tabφ P)
theorem tabφ_stay {P : Addr} : ∀ h1 h2 : Heap, tabφ P h1 → (∀ o, h1.get? P = some o → h2.get? P = some o) → tabφ P h2 :=
  fun h1 h2 ⟨ps, e, t⟩ k => ⟨ps, k _ e, t⟩
section
variable {X : Cx} {pins : List (Addr × Obj)} {σ : L2.St} {H : Hp} {s : Shared}
theorem upd_self {P : Addr} {o : HO} (h : H P = some o) : upd H P o = H := by
  funext b
  by_cases hb : b = P
  · rw [hb, upd_same, h]
  · rw [upd_ne hb]
/-- the table may have grown -/
theorem inv_code {P : Addr} {ps : Array Value} {h' : Heap} {t' : Nat} (I : Inv X pins σ H s) (hP : H P = some (tabX P)) (k : ∀ b o, b ≠ P → s.heap.get? b = some o → h'.get? b = some o)
    (hm : h'.get? P = some { cls := .none, data := .fields ps }) (ht : TriplesOk ps.toList) : Inv X pins σ H { s with heap := h', toks := t' } := by
  have J := I.write (h' := h') (t' := t') (x := P) (e := P) (o := tabX P) (by rw [hP]; trivial) (.inl rfl) k ⟨_, hm⟩ ⟨⟨ps, hm, ht⟩, ⟨_, hm⟩, tabφ_stay⟩
  rw [upd_self hP] at J
  exact J
end
/-- the context of a generator expression's frame -/
abbrev gCx (X : Cx) (A : Around) (s : Shared) (H : Hp) (ge : Env) (fp : List Addr) (pn : List (Addr × Obj)) : Cx :=
  { X with A := A, s_0 := s, H_0 := H, env := ge, outer := X.stack, stack := ge :: X.stack, ex := fp, fn := fun _ => false, calm := true, pn := pn, xe := fun _ _ => False }
section
variable {X : Cx} {pins : List (Addr × Obj)} {σ : L2.St} {H : Hp} {s : Shared}
theorem free_has {scope : Scope} {own : List (Str × Nat)} (I : Inv X pins σ H s) (ok : BlkOk X.N X.env.scope scope own) {n : Str × NameKind} (hn : n ∈ scope.names) (hf : n.2 = .free) :
    ∃ cell, X.env.cells.lookup n.1 = some cell :=
  (ok.free n hn hf).elim (fun z => I.ok.has _ (.inl z)) (fun z => I.ok.has _ (.inr z))
/-- a captured cell is the maker's, and stands -/
theorem clo_old {scope : Scope} {own : List (Str × Nat)} (I : Inv X pins σ H s) (ok : BlkOk X.N X.env.scope scope own) {n : Str} {cell : Addr}
    (hm : (n, cell) ∈ cloFrom X.env.cells scope.names []) : X.env.cells.lookup n = some cell ∧ cell < s.heap.objs.size := by
  have h := cloFrom_mem hm
  simp only [List.not_mem_nil, false_or] at h
  obtain ⟨c0, e0⟩ := free_has I ok h.1 rfl
  have e1 : cell = c0 := by
    rw [h.2, e0]
    rfl
  rw [e1]
  exact ⟨e0, (I.cell n c0 e0).elim fun _ z => z.lt⟩
theorem clo_look {scope : Scope} {own : List (Str × Nat)} (I : Inv X pins σ H s) (ok : BlkOk X.N X.env.scope scope own) {n : Str} (hl : scope.names.lookup n = some .free) :
    ∃ cell, (cloFrom X.env.cells scope.names []).lookup n = some cell ∧ X.env.cells.lookup n = some cell := by
  obtain ⟨cell, e⟩ := mem_lookup (cloFrom_has (cells := X.env.cells) (acc := []) (PySem.mem_of_lookup hl))
  exact ⟨cell, e, (clo_old I ok (PySem.mem_of_lookup e)).1⟩
theorem gen_start {scope : Scope} {own : List (Str × Nat)} {fp : List Addr} {A : Around} {ge : Env} {pn : List (Addr × Obj)} {s' : Shared} {m : Str → Option Value}
    (I : Inv X pins σ H s) (ok : BlkOk X.N X.env.scope scope own) (hcell : ∀ y ∈ scope.names, y.2 ≠ .cell) (hN : X.N.Nodup) (hfp : ∀ b ∈ fp, FpOk X pins H b ∧ b < s.heap.objs.size)
    (e1 : ge.scope = scope) (e2 : ge.locals = s.heap.objs.size) (e3 : ge.globals = mainGlobals) (e4 : ge.builtins = builtinsNs) (e5 : ge.cells = cloFrom X.env.cells scope.names []) (e6 : ge.frame = some s.heap.objs.size)
    (hA : A.frames = some (ge :: X.stack)) (hh : A.handled = none) (kp : ∀ b o, s.heap.get? b = some o → s'.heap.get? b = some o) (hos : s'.os = s.os) (hg : AllBare s'.gens)
    (hn : s'.heap.Ns s.heap.objs.size m) (hpn : ∀ p ∈ pn, s'.heap.get? p.1 = some p.2 ∧ s.heap.objs.size < p.1 ∧ ∀ v, p.2.data ≠ .cell v) :
    Inv (gCx X A s H ge fp pn) [] (wipe σ (own.map (·.2))) H s' := by
  have mem : ∀ {y c}, ge.cells.lookup y = some c → X.env.cells.lookup y = some c ∧ c < s.heap.objs.size := fun {y c} e => by
    rw [e5] at e
    exact clo_old I ok (PySem.mem_of_lookup e)
  have look : ∀ {n}, scope.names.lookup n = some .free → ∃ cell, ge.cells.lookup n = some cell ∧ X.env.cells.lookup n = some cell := fun {n} hl => by
    rw [e5]
    exact clo_look I ok hl
  have kind_of : ∀ {y k}, ge.kindOf y = some k → scope.names.lookup y = some k := fun {y k} h => by
    unfold Env.kindOf at h
    rw [e1] at h
    exact h
  have okB : (gCx X A s H ge fp pn).Ok := by
    refine ⟨I.ok.mod, by show ge.scope.kind = _; rw [e1]; exact ok.kind, e3, e4, by show s.heap.objs.size ≤ ge.locals; rw [e2]; exact Nat.le_refl _,
      fun y z c h1 h2 => I.ok.inj y z c (mem h1).1 (mem h2).1, fun y hy => ?_, fun y c z e => ?_, fun _ => hh, hA, .inr ⟨rfl, ?_⟩, fun b hb => ⟨?_, fun y c e z => ?_⟩, I.bs, Nat.le_trans I.ok.bsz I.sz, fun b o e hb => ?_, fun b hb z => ?_, I.stack, I.stkFree⟩
    · rcases hy with hy | hy
      · exact absurd rfl (hcell _ (PySem.mem_of_lookup (kind_of hy)))
      · obtain ⟨c, h, _⟩ := look (kind_of hy)
        exact ⟨c, h⟩
    · exact absurd (show false = true from z) Bool.false_ne_true
    · show ge.frame = some ge.locals
      rw [e6, e2]
    · show b ≠ ge.locals
      rw [e2]
      exact Nat.ne_of_lt (hfp b hb).2
    · exact (hfp b hb).1.2.2.2.2.1 y c (mem e).1 z
    · refine (hfp b hb).1.2.2.2.1.elim (I.ok.noex b o e) fun z => ?_
      exact Nat.lt_irrefl b (Nat.lt_of_lt_of_le (Nat.lt_of_lt_of_le (Heap.lt_size e) I.ok.bsz) z)
    · exact (List.mem_cons.mp (I.stkSub b z)).elim (hfp b hb).1.2.1 (hfp b hb).1.2.2.1
  refine ⟨okB, hos, hg, Un.kept kp, ⟨m, by show s'.heap.Ns ge.locals m; rw [e2]; exact hn, fun i y av q1 q2 q3 => ?_⟩, fun y c e => ?_, ?_, fun y c e => ?_, fun p hp => ?_, I.hok.kept kp, by rw [wipe_length]; exact I.len⟩
  · obtain ⟨q2, hne⟩ := wipe_some q2
    -- a name that still has a value here is a captured one
    have capt : scope.names.lookup y = some .free := by
      have vis : Vis scope y := by rw [← e1]; exact q3
      have notOwn : ∀ kd : NameKind, (kd = .local ∨ kd = .cell) → scope.names.lookup y ≠ some kd := fun kd hkd e => by
        rcases ok.own _ (PySem.mem_of_lookup e) hkd with inOwn | notN
        · obtain ⟨⟨n0, i0⟩, hp0, hn0⟩ := List.mem_map.mp inOwn
          have hn1 : n0 = y := hn0
          subst hn1
          exact hne (List.mem_map.mpr ⟨_, hp0, nodup_ix hN (ok.ix _ hp0) q1⟩)
        · exact notN (List.mem_of_getElem? q1)
      rcases vis with v | v | v
      · exact (notOwn _ (.inl rfl) v).elim
      · exact (notOwn _ (.inr rfl) v).elim
      · exact v
    obtain ⟨cell, hc1, hc2⟩ := look capt
    obtain ⟨m', _, hl⟩ := I.loc
    have seen := ok.free _ (PySem.mem_of_lookup capt) rfl
    obtain ⟨u, hu, lk⟩ := hl i y av q1 q2 (seen.elim (fun z => .inr (.inl z)) fun z => .inr (.inr z))
    refine ⟨u, hu, .inr ⟨.inr (by show ge.scope.names.lookup y = _; rw [e1]; exact capt), cell, hc1, ?_⟩⟩
    rcases lk with ⟨kl, _⟩ | ⟨_, c2, h2, isc⟩
    · have kl2 : X.env.scope.names.lookup y = some .local := kl
      rcases seen with z | z
      · rw [show X.env.scope.names.lookup y = some .cell from z] at kl2
        cases kl2
      · rw [show X.env.scope.names.lookup y = some .free from z] at kl2
        cases kl2
    · rw [hc2] at h2
      cases h2
      exact isc.keeps kp
  · obtain ⟨w, z⟩ := I.cell y c (mem e).1
    exact ⟨w, z.keeps kp⟩
  · show H ge.locals = none
    rw [e2]
    exact I.hok.fresh (Nat.le_refl _)
  · exact I.freeC y c (mem e).1
  · rw [List.append_nil] at hp
    obtain ⟨h1, h2, h3⟩ := hpn p hp
    refine ⟨h1, I.hok.fresh (Nat.le_of_lt h2), ?_, fun z => ?_, h3⟩
    · show p.1 ≠ ge.locals
      rw [e2]
      exact Nat.ne_of_gt h2
    · rcases List.mem_cons.mp (I.stkSub _ z) with z | z
      · have := I.lt
        rw [← z] at this
        exact absurd (Nat.lt_trans this h2) (Nat.lt_irrefl _)
      · exact I.nofs (Nat.le_of_lt h2) z
end

/-- a generator's frame over the around of its waking -/
theorem over_gen {A : Around} {elt tg iter : Expr} {ifs : List Expr} {scope : Scope} {pos : Pos} {it acc : Value} {ge : Env} {fs : List Env} (hf : A.frames = some fs) :
    (A.over (.compLoop (.GeneratorExp elt [⟨tg, iter, ifs, 0⟩] scope pos) 0 it acc ge) []).frames = some (ge :: fs) := by
  obtain ⟨hd, d, fr, gs, u⟩ := A
  have : fr = some fs := hf
  subst this
  rfl
theorem room_gen {A : Around} {k : Nat} {elt tg iter : Expr} {ifs : List Expr} {scope : Scope} {pos : Pos} {it acc : Value} {ge : Env} (hr : Room (k + 1) A) :
    Room k (A.over (.compLoop (.GeneratorExp elt [⟨tg, iter, ifs, 0⟩] scope pos) 0 it acc ge) []) := by
  refine ⟨hr.hd, ?_, ?_⟩
  · have := hr.dp
    have e : (A.over (.compLoop (.GeneratorExp elt [⟨tg, iter, ifs, 0⟩] scope pos) 0 it acc ge) []).depth ≤ A.depth + 1 := by
      obtain ⟨hd, d, fr, gs, u⟩ := A
      exact Nat.le_refl _
    omega
  · have := hr.un
    have e : (A.over (.compLoop (.GeneratorExp elt [⟨tg, iter, ifs, 0⟩] scope pos) 0 it acc ge) []).units ≤ A.units + 3 := by
      obtain ⟨hd, d, fr, gs, u⟩ := A
      exact Nat.le_refl _
    omega
section
variable {X : Cx} {G : Cx}
/-- what has been handed out: a truth; where it is not go (the one with which the walk goes on), it is the end -/
def YA (G : Cx) (go : Bool) (Q : VK) : Protocol := fun n s₀ v s kap =>
  ∃ b σ H, v = .bool b ∧ Inv G [] σ H s ∧ (if b = go then ∀ s' : Shared, s'.heap = s.heap → s'.os = s.os → AllBare s'.gens → kap (.send .none) s' else Q (.bl (!go)) H)
def RA (G : Cx) (go : Bool) (Q : VK) : Nat → Shared → Shared → Prop := fun _ _ s => ∃ σ H, Inv G [] σ H s ∧ Q (.bl go) H
abbrev REA (G : Cx) (go : Bool) (Q : VK) : GenEnd := fun n s₀ r s => r = .ok .next ∧ RA G go Q n s₀ s
theorem inv_gens {pins : List (Addr × Obj)} {σ : L2.St} {H : Hp} {s s' : Shared} (I : Inv G pins σ H s) (h : s'.heap = s.heap) (o : s'.os = s.os) (b : AllBare s'.gens) : Inv G pins σ H s' := by
  obtain ⟨h', g', d', t', o'⟩ := s'
  have e1 : h' = s.heap := h
  have e2 : o' = s.os := o
  subst e1 e2
  exact I.call (g' := g') (t' := t') (d' := d') Un.refl I.hok b (ch := []) (fun b hb => absurd hb List.not_mem_nil)
/-- the reading: go is True for all, False for any -/
def gWalk (go : Bool) (J : It) (g : TG) (tt : TT) (te : TE) (vs : List Nat) (σ : L2.St) (Q : VK) (W : Nat → Nat → Hp → Prop) : Prop :=
  ∀ i m H, W i m H → (J.stop i H ∧ Q (.bl go) H) ∨ (J.go i H ∧ ∃ Nx : Hp → Prop, (∀ H', Nx H' → ∃ m', m' < m ∧ W (i + 1) m' H') ∧ ∀ x H', J.yld i H x H' → g x (wipe σ vs) H' fun σ2 H2 => wipe σ2 vs = wipe σ vs ∧ tt σ2 H2 fun b H3 =>
    if b = true then te σ2 H3 fun y H4 => ∃ c, y = .bl c ∧ if c = go then Nx H4 else Q (.bl (!go)) H4 else Nx H3)
theorem seg_genA {A : Around} {elt tg iter : Expr} {ifs : List Expr} {scope : Scope} {pos : Pos} {it : Addr} {ge : Env} {fp : List Addr} {tn : Nat → Heap → Prop} {J : It} {go : Bool} {g : TG} {tt : TT} {te : TE} {vs : List Nat} {σ : L2.St} {Q : VK} {W : Nat → Nat → Hp → Prop}
    (hGA : G.A = A.over (.compLoop (.GeneratorExp elt [⟨tg, iter, ifs, 0⟩] scope pos) 0 (.ref it) .none ge) []) (hGe : G.env = ge) (hcal : G.calm = true) (hxe : G.xe = fun _ _ => False) (hex : G.ex = fp)
    (hco : ge.scope.isCoroutine = false) (hpn : ∀ b ∈ fp, ∀ p ∈ G.pn, p.1 ≠ b) (T : Turn G.prog G.w G.K tg J fp it tn) (pg : PG G tg g) (pt : PTs G ifs tt) (pe : PE G elt te) (turn : gWalk go J g tt te vs σ Q W) :
    ∀ (m n i : Nat) (s₀ s : Shared) (H : Hp), m < n → Inv G [] (wipe σ vs) H s → tn i s.heap → (∀ b ∈ fp, H b = none) → W i m H →
      Seg (model G.prog G.w) A (REA G go Q) (YA G go Q) n s₀ (.compLoop (.GeneratorExp elt [⟨tg, iter, ifs, 0⟩] scope pos) 0 (.ref it) .none ge)
        ((model G.prog G.w).den (.compLoop (.GeneratorExp elt [⟨tg, iter, ifs, 0⟩] scope pos) 0 (.ref it) .none ge)) [] s := by
  have stat : ∀ {σ' : L2.St} {H' : Hp} {s' : Shared}, Inv G [] σ' H' s' → (∀ b ∈ fp, H' b = none) → ∀ b ∈ fp, FpOk G [] H' b := fun {σ' H' s'} I' hn b hb => by
    have hb' : b ∈ G.ex := by rw [hex]; exact hb
    exact ⟨hn b hb, (I'.ok.exf b hb').1, I'.ok.exfs b hb', .inl hb', fun x c e => (I'.ok.exf b hb').2 x c e, fun p hp => hpn b hb p (by rwa [List.append_nil] at hp)⟩
  intro m
  induction m using Nat.strongRecOn with
  | ind m ih =>
    intro n i s₀ s H hmn I st nf w
    show Seg _ A _ _ _ s₀ _ ((compTurn (.GeneratorExp elt [⟨tg, iter, ifs, 0⟩] scope pos) 0 (.ref it) .none ge).onRaise (leaving ge)) [] s
    rw [compTurn_gen, Sem.onRaise_eq_wrap]
    refine seg_bind_wrap (wpAny_standAt ?_)
    refine seg_bind_wrap ?_
    rw [← hGA]
    rcases turn i m H w with ⟨stop, q⟩ | ⟨goes, Nx, hNx, step⟩
    · have td := T.done G rfl rfl rfl hcal i [] s _ H (fun _ _ => False) I (stat I nf) st stop
      refine thnF td fun r s6 ⟨hr, I6⟩ => ?_
      subst hr
      exact seg_end (.ok .next) ⟨rfl, _, _, I6, q⟩
    · have ti := T.item G rfl rfl rfl hcal i [] s _ H (fun _ _ => False) I (stat I nf) st goes
      refine thnF ti fun r s6 ⟨u, hr, h6⟩ => ?_
      subst hr
      refine seg_bind_wrap ?_
      rw [← hGA]
      refine thnF h6 fun _ s7 ⟨x, H7, I7, r7, y7, st7, n7⟩ => ?_
      have I7' := I7.pinned (stat I7 n7) (T.obj _ _ st7)
      refine seg_bind_wrap ?_
      rw [← hGA]
      have pg' := pg.run _ s7 _ H7 x u _ I7' r7 (step x H7 y7)
      rw [hxe, hGe] at pg'
      refine thnF pg' fun _ s8 ⟨σ8, H8, I8, hw8, q8⟩ => ?_
      refine seg_bind_wrap ?_
      rw [← hGA]
      have pt' := pt.run _ s8 σ8 H8 _ I8 q8
      rw [hxe, hGe] at pt'
      refine thnF pt' fun b s9 ⟨H9, I9, q9⟩ => ?_
      -- the turn's end
      have back : ∀ {s' : Shared} {H' : Hp}, Inv G ([] ++ pinsAt fp s7.heap) σ8 H' s' → Inv G [] (wipe σ vs) H' s' ∧ tn (i + 1) s'.heap ∧ ∀ b ∈ fp, H' b = none := fun {s' H'} I' => by
        have held : ∀ (q : Addr) (ob : Obj), q ∈ fp → s7.heap.get? q = some ob → s'.heap.get? q = some ob ∧ H' q = none := fun q ob hq eq =>
          have z := I'.pin (q, ob) (List.mem_append_right _ (List.mem_append_right _ (mem_pinsAt hq eq)))
          ⟨z.1, z.2.1⟩
        have hl : (wipe σ vs).length = σ8.length := by rw [← hw8, wipe_length]
        refine ⟨(I'.unpinned (pins := [])).weak hl (fun j v e => ?_), T.keep _ _ _ st7 fun q hq ob eq => (held q ob hq eq).1, fun q hq => ?_⟩
        · rw [← hw8] at e
          exact (wipe_some e).1
        · exact (T.obj _ _ st7 q hq).elim fun ob eq => (held q ob hq eq.1).2
      cases b with
      | false =>
        simp only [Bool.false_eq_true, if_false] at q9 ⊢
        obtain ⟨m', hm, w'⟩ := hNx _ q9
        obtain ⟨I', st', nf'⟩ := back I9
        exact seg_again rfl (ih m' hm n (i + 1) s₀ s9 H9 (Nat.lt_trans hm hmn) I' st' nf' w')
      | true =>
        simp only [if_true] at q9 ⊢
        have hy : ∀ v, yieldOut ge v = yieldValue v := fun v => by simp only [yieldOut, hco, Bool.false_eq_true, if_false]
        simp only [hy]
        rw [Sem.bind_eq_wrap', Sem.bind_eq_wrap', Sem.wrap_wrap, Sem.wrap_wrap]
        refine seg_wrap ?_
        rw [← hGA]
        have pe' := pe.run _ s9 σ8 H9 _ I9 q9
        rw [hxe, hGe] at pe'
        refine thnF pe' fun z s10 ⟨yv, H10, I10, r10, c, ec, q10⟩ => ?_
        subst ec
        have ez : z = Value.bool c := r10
        subst ez
        obtain ⟨n, rfl⟩ : ∃ k, n = k + 1 := ⟨n - 1, by omega⟩
        obtain ⟨I', st', nf'⟩ := back I10
        refine seg_at (seg_yield rfl rfl rfl ⟨c, _, H10, rfl, I', ?_⟩)
        by_cases hc : c = go
        · rw [if_pos hc] at q10 ⊢
          intro s' hs ho hb
          obtain ⟨m', hm, w'⟩ := hNx _ q10
          exact seg_again rfl (ih m' hm n (i + 1) s' s' H10 (by omega) (inv_gens I' hs ho hb) (by rw [hs]; exact st') nf' w')
        · rw [if_neg hc] at q10 ⊢
          exact q10

theorem seg_startA {A : Around} {elt tg iter : Expr} {ifs : List Expr} {scope : Scope} {pos : Pos} {it : Addr} {ge : Env} {fp : List Addr} {tn : Nat → Heap → Prop} {J : It} {R : GenEnd} {Y : Protocol} {n : Nat} {s₀ s : Shared} (T : Turn G.prog G.w G.K tg J fp it tn) (st : tn 0 s.heap)
    (loop : Seg (model G.prog G.w) A R Y n s₀ (.compLoop (.GeneratorExp elt [⟨tg, iter, ifs, 0⟩] scope pos) 0 (.ref it) .none ge)
        ((model G.prog G.w).den (.compLoop (.GeneratorExp elt [⟨tg, iter, ifs, 0⟩] scope pos) 0 (.ref it) .none ge)) [] s) :
    Seg (model G.prog G.w) A R Y n s₀ (.compStart (.GeneratorExp elt [⟨tg, iter, ifs, 0⟩] scope pos) 0 (.ref it) .none ge)
        ((model G.prog G.w).den (.compStart (.GeneratorExp elt [⟨tg, iter, ifs, 0⟩] scope pos) 0 (.ref it) .none ge)) [] s := by
  show Seg _ A _ _ _ s₀ _ ((compStart (.GeneratorExp elt [⟨tg, iter, ifs, 0⟩] scope pos) 0 (.ref it) .none ge).onRaise (leaving ge)) [] s
  unfold compStart
  rw [Sem.onRaise_eq_wrap]
  show Seg _ A _ _ _ s₀ _ ((ask >>= _).wrap _ _ _ _) [] s
  refine seg_bind_wrap (wpAny_askSetting ?_)
  split
  · exact seg_again rfl loop
  · first
      | exact seg_bind_wrap (wpAny_rule (seg_bind_wrap (wpAny_standAt (seg_bind_wrap (T.self _ 0 s _ _ st (seg_again rfl loop))))))
      | (refine seg_bind_wrap (wpAny_rule ?_); show Seg _ A _ _ _ s₀ _ ((standAt iter.pos >>= _).wrap _ _ _ _) [] s; exact seg_bind_wrap (wpAny_standAt (seg_bind_wrap (T.self _ 0 s _ _ st (seg_again rfl loop)))))
/-- the loop of all() -/
theorem all_loopA {A : Around} {R : Result → Shared → Prop} {a : Addr} {g : Nat} {Q : VK} (hh : A.handled = none) (hd : A.depth < recursionLimit)
    (hgen : ∀ σ' H' s1, Inv G [] σ' H' s1 → s1.heap.IsGen a g) (fin : ∀ b σ' H' s1 s', Inv G [] σ' H' s1 → Q (.bl b) H' → s'.os = s1.os → AllBare s'.gens → (∀ b o, s1.heap.get? b = some o → s'.heap.get? b = some o) → R (.ok (.ret (.bool b))) s') :
    ∀ (n : Nat) (s : Shared), s.heap.IsGen a g → s.heap.NoLimit → (∃ gs, s.gens[g]? = some gs ∧ gs.Goes (model G.prog G.w) A.in1.in1 (REA G true Q) (YA G true Q) n (.send .none) (s.setGen g .running)) →
      codeAny (model G.prog G.w) A (.builtin "all.loop" ⟨[.ref a], []⟩) R s := by
  intro n
  induction n with
  | zero =>
    intro s hg hl ⟨gs, hgs, hgo⟩
    refine codeAny_builtin F.entry_all_loop ?_
    rw [Around.under_plainId F.plain_all_loop _]
    show wpAny _ A.in1 (pyNext (.ref a) >>= _) _ _ s
    refine wpAny_bind (wpAny_pyNext_genexpQ (P := RA G true Q) (A := A.in1) hh hl hd hg hgs hgo (fun v s₁ gs' hb hv => ?_) (fun s₁ hp h' hk => ?_))
    · obtain ⟨b, σ', H', rfl, I1, hk⟩ := hv
      refine wpAny_bind (wpAny_holding (wpAny_truthy_bool ?_))
      refine wpAny_bind (wpAny_letGo ?_)
      cases b with
      | true => exact (hk s₁ rfl rfl I1.bare).elim
      | false =>
        simp only [Bool.false_eq_true, if_false] at hk ⊢
        refine wpAny_bind (wpAny_rule (wpAny_pure ?_))
        exact fin false σ' H' s₁ _ I1 hk rfl (allBare_setGen I1.bare hb) fun _ _ e => e
    · obtain ⟨σ', H', I1, q⟩ := hp
      refine wpAny_bind (wpAny_rule (wpAny_pure ?_))
      exact fin true σ' H' s₁ _ I1 q rfl (allBare_setGen I1.bare rfl) hk
  | succ n ih =>
    intro s hg hl ⟨gs, hgs, hgo⟩
    have hgl : g + 1 ≤ s.gens.size := (Array.getElem?_eq_some_iff.mp hgs).1
    refine codeAny_builtin F.entry_all_loop ?_
    rw [Around.under_plainId F.plain_all_loop _]
    show wpAny _ A.in1 (pyNext (.ref a) >>= _) _ _ s
    refine wpAny_bind (wpAny_gsz (n := g + 1) hgl (wpAny_pyNext_genexpQ (P := RA G true Q) (A := A.in1) hh hl hd hg hgs hgo (fun v s₁ gs' hb hv => ?_) (fun s₁ hp h' hk => ?_)))
    · intro hsz
      rw [setGen_size] at hsz
      obtain ⟨b, σ', H', rfl, I1, hk⟩ := hv
      refine wpAny_bind (wpAny_holding (wpAny_truthy_bool ?_))
      refine wpAny_bind (wpAny_letGo ?_)
      cases b with
      | true =>
        simp only [if_true] at hk ⊢
        have hb1 := allBare_setGen I1.bare hb (g := g)
        exact wpAny_pure ⟨plainId_quiet F.plain_all_loop _, ih (s₁.setGen g gs') (show (s₁.setGen g gs').heap.IsGen a g from hgen σ' H' s₁ I1) (show (s₁.setGen g gs').heap.NoLimit from I1.nolimit) ⟨gs', setGen_at hsz, hk _ rfl rfl (allBare_setGen hb1 rfl)⟩⟩
      | false =>
        simp only [Bool.false_eq_true, if_false] at hk ⊢
        refine wpAny_bind (wpAny_rule (wpAny_pure ?_))
        exact fin false σ' H' s₁ _ I1 hk rfl (allBare_setGen I1.bare hb) fun _ _ e => e
    · intro _
      obtain ⟨σ', H', I1, q⟩ := hp
      refine wpAny_bind (wpAny_rule (wpAny_pure ?_))
      exact fin true σ' H' s₁ _ I1 q rfl (allBare_setGen I1.bare rfl) hk
/-- the loop of any() -/
theorem any_loopA {A : Around} {R : Result → Shared → Prop} {a : Addr} {g : Nat} {Q : VK} (hh : A.handled = none) (hd : A.depth < recursionLimit)
    (hgen : ∀ σ' H' s1, Inv G [] σ' H' s1 → s1.heap.IsGen a g) (fin : ∀ b σ' H' s1 s', Inv G [] σ' H' s1 → Q (.bl b) H' → s'.os = s1.os → AllBare s'.gens → (∀ b o, s1.heap.get? b = some o → s'.heap.get? b = some o) → R (.ok (.ret (.bool b))) s') :
    ∀ (n : Nat) (s : Shared), s.heap.IsGen a g → s.heap.NoLimit → (∃ gs, s.gens[g]? = some gs ∧ gs.Goes (model G.prog G.w) A.in1.in1 (REA G false Q) (YA G false Q) n (.send .none) (s.setGen g .running)) →
      codeAny (model G.prog G.w) A (.builtin "any.loop" ⟨[.ref a], []⟩) R s := by
  intro n
  induction n with
  | zero =>
    intro s hg hl ⟨gs, hgs, hgo⟩
    refine codeAny_builtin F.entry_any_loop ?_
    rw [Around.under_plainId F.plain_any_loop _]
    show wpAny _ A.in1 (pyNext (.ref a) >>= _) _ _ s
    refine wpAny_bind (wpAny_pyNext_genexpQ (P := RA G false Q) (A := A.in1) hh hl hd hg hgs hgo (fun v s₁ gs' hb hv => ?_) (fun s₁ hp h' hk => ?_))
    · obtain ⟨b, σ', H', rfl, I1, hk⟩ := hv
      refine wpAny_bind (wpAny_holding (wpAny_truthy_bool ?_))
      refine wpAny_bind (wpAny_letGo ?_)
      cases b with
      | false => exact (hk s₁ rfl rfl I1.bare).elim
      | true =>
        simp only [Bool.true_eq_false, if_false, if_true] at hk ⊢
        refine wpAny_bind (wpAny_rule (wpAny_pure ?_))
        exact fin true σ' H' s₁ _ I1 hk rfl (allBare_setGen I1.bare hb) fun _ _ e => e
    · obtain ⟨σ', H', I1, q⟩ := hp
      refine wpAny_bind (wpAny_rule (wpAny_pure ?_))
      exact fin false σ' H' s₁ _ I1 q rfl (allBare_setGen I1.bare rfl) hk
  | succ n ih =>
    intro s hg hl ⟨gs, hgs, hgo⟩
    have hgl : g + 1 ≤ s.gens.size := (Array.getElem?_eq_some_iff.mp hgs).1
    refine codeAny_builtin F.entry_any_loop ?_
    rw [Around.under_plainId F.plain_any_loop _]
    show wpAny _ A.in1 (pyNext (.ref a) >>= _) _ _ s
    refine wpAny_bind (wpAny_gsz (n := g + 1) hgl (wpAny_pyNext_genexpQ (P := RA G false Q) (A := A.in1) hh hl hd hg hgs hgo (fun v s₁ gs' hb hv => ?_) (fun s₁ hp h' hk => ?_)))
    · intro hsz
      rw [setGen_size] at hsz
      obtain ⟨b, σ', H', rfl, I1, hk⟩ := hv
      refine wpAny_bind (wpAny_holding (wpAny_truthy_bool ?_))
      refine wpAny_bind (wpAny_letGo ?_)
      cases b with
      | false =>
        simp only [if_true] at hk
        simp only [Bool.false_eq_true, if_false]
        have hb1 := allBare_setGen I1.bare hb (g := g)
        exact wpAny_pure ⟨plainId_quiet F.plain_any_loop _, ih (s₁.setGen g gs') (show (s₁.setGen g gs').heap.IsGen a g from hgen σ' H' s₁ I1) (show (s₁.setGen g gs').heap.NoLimit from I1.nolimit) ⟨gs', setGen_at hsz, hk _ rfl rfl (allBare_setGen hb1 rfl)⟩⟩
      | true =>
        simp only [Bool.true_eq_false, if_false, if_true] at hk ⊢
        refine wpAny_bind (wpAny_rule (wpAny_pure ?_))
        exact fin true σ' H' s₁ _ I1 hk rfl (allBare_setGen I1.bare hb) fun _ _ e => e
    · intro _
      obtain ⟨σ', H', I1, q⟩ := hp
      refine wpAny_bind (wpAny_rule (wpAny_pure ?_))
      exact fin false σ' H' s₁ _ I1 q rfl (allBare_setGen I1.bare rfl) hk
end
/-- the reading of any(..), all(..): go is False for any, True for all; P: the running def's table -/
def tGen (P : Addr) (go : Bool) (wi : TI) (g : TG) (tt : TT) (te : TE) (vs : List Nat) : TE := fun σ H Q => wi σ H fun J H1 => H1 P = some (tabX P) ∧ ∃ W : Nat → Nat → Hp → Prop, (∃ m, W 0 m H1) ∧ gWalk go J g tt te vs σ Q W
section
variable {X : Cx}
/-- what a generator expression's making leaves -/
def GReady (X : Cx) (pins : List (Addr × Obj)) (σ : L2.St) (go : Bool) (Q : VK) (u : Value) (s' : Shared) : Prop :=
  ∃ (G : Cx) (a : Addr) (gi n : Nat), G.prog = X.prog ∧ G.w = X.w ∧ u = .ref a ∧ (∀ σ' H' s1, Inv G [] σ' H' s1 → s1.heap.IsGen a gi) ∧ (∀ σ' H' s1, Inv G [] σ' H' s1 → Inv X pins σ H' s1) ∧ s'.heap.IsGen a gi ∧ s'.heap.NoLimit ∧
    ∃ gs, s'.gens[gi]? = some gs ∧ gs.Goes (model G.prog G.w) X.A.in1.in1 (REA G go Q) (YA G go Q) n (.send .none) (s'.setGen gi .running)
theorem gen_core {k : Nat} {c P : Addr} {elt tg iter : Expr} {ifs : List Expr} {scope : Scope} {own : List (Str × Nat)} {gpos : Pos} {wi : TI} {g : TG} {tt : TT} {te : TE} {go : Bool} {pins : List (Addr × Obj)} {s : Shared} {σ : L2.St} {H : Hp} {Q : VK}
    (hr : Room (k + 3) X.A) (hc : X.calm = true) (TB : GxR.TabB X.base X.mg c P) (hcode : X.env.code = .ref c) (hco : scope.isCoroutine = false) (hcell : ∀ y ∈ scope.names, y.2 ≠ .cell) (h0 : scope.names.lookup (".0" : Str) = some NameKind.local)
    (hN : X.N.Nodup) (ok : BlkOk X.N X.env.scope scope own) (hi : PI X tg iter wi)
    (hg : ∀ (A : Around) (s : Shared) (H : Hp) (C : Addr) (cl : List (Str × Addr)) (code : Value) (bi : Addr) (fp : List Addr) (pn : List (Addr × Obj)), Room k A → PG (gCx X A s H (genEnv scope cl C code bi X.env) fp pn) tg g)
    (ht : ∀ (A : Around) (s : Shared) (H : Hp) (C : Addr) (cl : List (Str × Addr)) (code : Value) (bi : Addr) (fp : List Addr) (pn : List (Addr × Obj)), Room k A → PTs (gCx X A s H (genEnv scope cl C code bi X.env) fp pn) ifs tt)
    (he : ∀ (A : Around) (s : Shared) (H : Hp) (C : Addr) (cl : List (Str × Addr)) (code : Value) (bi : Addr) (fp : List Addr) (pn : List (Addr × Obj)), Room k A → PE (gCx X A s H (genEnv scope cl C code bi X.env) fp pn) elt te)
    (hs : ∀ v, genFold iter X.env v = pure v) (I : Inv X pins σ H s) (h : tGen P go wi g tt te (own.map (·.2)) σ H Q) :
    wpAny (model X.prog X.w) X.A (eval (.GeneratorExp elt [⟨tg, iter, ifs, 0⟩] scope gpos) X.env) (GReady X pins σ go Q) X.xe s := by
  refine wpAny_GeneratorExp_make hco (closure_ok fun n hn hf => free_has I ok hn hf) hcell h0 ok.kind hr.depth ?_ hs
  refine thn (hi.run pins s σ H _ I h) fun xv s1 hx => thn hx fun itv s2 h2 => ?_
  obtain ⟨it, fp, tn, J, H2, rfl, I2, T, st2, f2, hP, W, ⟨m0, w0⟩, turn⟩ := h2
  refine ⟨I2.nolimit, ?_⟩
  obtain ⟨ps, hPs, hT⟩ : tabφ P s2.heap := (I2.hok P _ hP).1
  have cd : PySem.W.CodeHd s2.heap c P := TB.code.keeps I2.bk
  have cont : ∀ (code : Value) (h3 : Heap) (tk : Nat) (ps' : Array Value), (∀ b o, b ≠ P → s2.heap.get? b = some o → h3.get? b = some o) → h3.get? P = some { cls := .none, data := .fields ps' } → TriplesOk ps'.toList →
      wpAny (model X.prog X.w) X.A (builtinsFor X.env.globals X.env.builtins) (fun bi s₄ =>
        ∀ h', h'.Ns s₄.heap.objs.size (fun y => if y = ".0" then some (.ref it) else none) → Heap.SameBut s₄.heap.objs.size (s₄.heap.push { cls := .type "frame", data := .dict #[] }) h' →
          GReady X pins σ go Q (.ref h'.objs.size) { s₄ with
            gens := s₄.gens.push (.fresh (.compStart (.GeneratorExp elt [⟨tg, iter, ifs, 0⟩] scope gpos) 0 (.ref it) .none (genEnv scope (cloFrom X.env.cells scope.names []) s₄.heap.objs.size code bi X.env))),
            toks := s₄.toks + 1 + 1 + 1,
            heap := h'.push { cls := .type "generator", data := .fields #[.int s₄.gens.size 0, .str "<genexpr>" (s₄.toks + 1), .str (X.env.qual ++ "<genexpr>") (s₄.toks + 1 + 1)] } }) X.xe { s2 with heap := h3, toks := tk } := by
    intro code h3 tk ps' k3 hm3 ht3
    have I3 : Inv X pins σ H2 { s2 with heap := h3, toks := tk } := inv_code I2 hP k3 hm3 ht3
    obtain ⟨bm, ob, e1, e2, e3, e4, e5, e6, e7, e8⟩ := TB.bm
    refine wpAny_builtinsFor (m := X.mg) (by rw [I3.ok.glob]; exact I3.mod.glob.keeps I3.bk) e1 e2 (I3.bk _ _ e5) e6 e7 e8 ?_
    intro h' hn' hs'
    generalize hs3 : ({ s2 with heap := h3, toks := tk } : Shared) = s3 at I3 hn' hs' ⊢
    have h3e : s3.heap = h3 := by rw [← hs3]
    have nP : ∀ b ∈ fp, b ≠ P := fun b hb z => by
      have := (f2 b hb).1
      rw [z, hP] at this
      cases this
    have st3 : tn 0 s3.heap := T.keep _ _ _ st2 fun b hb o e => by rw [h3e]; exact k3 b o (nP b hb) e
    have f3 : ∀ b ∈ fp, FpOk X pins H2 b ∧ b < s3.heap.objs.size := fun b hb => by
      obtain ⟨o, e, _⟩ := T.obj _ _ st3 b hb
      exact ⟨f2 b hb, Heap.lt_size e⟩
    have hsz : h'.objs.size = s3.heap.objs.size + 1 := by rw [hs'.1, Heap.size_push]
    have keep' : ∀ b o, s3.heap.get? b = some o → h'.get? b = some o := fun b o e => hs'.extBut b o (Nat.ne_of_lt (Heap.lt_size e)) (Heap.get?_push_of_some _ e)
    have key : ∀ (gobj : Obj) (fr : GenState) (tk5 : Nat), fr = .fresh (.compStart (.GeneratorExp elt [⟨tg, iter, ifs, 0⟩] scope gpos) 0 (.ref it) .none (genEnv scope (cloFrom X.env.cells scope.names []) s3.heap.objs.size code builtinsNs X.env)) →
        (∀ h : Heap, h.get? h'.objs.size = some gobj → h.IsGen h'.objs.size s3.gens.size) → (∀ v, gobj.data ≠ .cell v) → gobj.isFreed = false →
        GReady X pins σ go Q (.ref h'.objs.size) { s3 with gens := s3.gens.push fr, toks := tk5, heap := h'.push gobj } := by
      intro gobj fr tk5 hfr hgen hcellg hfreed
      generalize hge : genEnv scope (cloFrom X.env.cells scope.names []) s3.heap.objs.size code builtinsNs X.env = ge at hfr
      have hpush : (h'.push gobj).get? h'.objs.size = some gobj := Heap.get?_push_size _ hfreed
      have keep5 : ∀ b o, s3.heap.get? b = some o → (h'.push gobj).get? b = some o := fun b o e => Heap.get?_push_of_some _ (keep' b o e)
      let A1 : Around := X.A.in1.in1.over (.compLoop (.GeneratorExp elt [⟨tg, iter, ifs, 0⟩] scope gpos) 0 (.ref it) .none ge) []
      have r1 : Room k A1 := room_gen (hr.in1 (k := k + 2)).in1
      have fr1 : A1.frames = some (ge :: X.stack) := over_gen (A := X.A.in1.in1) I3.ok.frames
      generalize hs6 : (({ s3 with gens := s3.gens.push fr, toks := tk5, heap := h'.push gobj } : Shared).setGen s3.gens.size .running) = s6
      have h6 : s6.heap = h'.push gobj := by rw [← hs6]; rfl
      have bare5 : AllBare (s3.gens.push fr) := AllBare.push I3.bare (by rw [hfr]; rfl)
      have bare6 : AllBare s6.gens := by rw [← hs6]; exact allBare_setGen (s := { s3 with gens := s3.gens.push fr, toks := tk5, heap := h'.push gobj }) bare5 rfl
      have I6 : Inv (gCx X A1 s3 H2 ge fp [(h'.objs.size, gobj)]) [] (wipe σ (own.map (·.2))) H2 s6 := by
        refine gen_start (m := fun y => if y = ".0" then some (.ref it) else none) I3 ok hcell hN f3 (by rw [← hge]; rfl) (by rw [← hge]; rfl) (by rw [← hge]; exact I3.ok.glob) (by rw [← hge]; rfl) (by rw [← hge]; rfl) (by rw [← hge]; rfl)
          fr1 r1.hd (fun b o e => by rw [h6]; exact keep5 b o e) (by rw [← hs6]; rfl) bare6 (by rw [h6]; exact hn'.push _) (fun p hp => ?_)
        rw [List.mem_singleton.mp hp]
        refine ⟨by rw [h6]; exact hpush, ?_, hcellg⟩
        show s3.heap.objs.size < h'.objs.size
        omega
      refine ⟨gCx X A1 s3 H2 ge fp [(h'.objs.size, gobj)], h'.objs.size, s3.gens.size, m0 + 1, rfl, rfl, rfl, fun σ' H' s1 J1 => hgen _ (J1.pin (h'.objs.size, gobj) (List.mem_append_left _ List.mem_cons_self)).1, fun σ' H' s1 J1 => ?_, hgen _ hpush, I3.nolimit.keeps keep5, fr, Array.getElem?_push_size .., ?_⟩
      · exact I3.call' (ch := fp) J1.os J1.base J1.hok J1.bare fun b hb => ⟨(f3 b hb).1.2.2.2.1, (f3 b hb).1.2.1, (f3 b hb).1.2.2.2.2.1, (f3 b hb).1.2.2.2.2.2⟩
      · rw [hs6, hfr]
        refine ⟨rfl, ?_⟩
        have pg := hg A1 s3 H2 s3.heap.objs.size (cloFrom X.env.cells scope.names []) code builtinsNs fp [(h'.objs.size, gobj)] r1
        have pt := ht A1 s3 H2 s3.heap.objs.size (cloFrom X.env.cells scope.names []) code builtinsNs fp [(h'.objs.size, gobj)] r1
        have pe := he A1 s3 H2 s3.heap.objs.size (cloFrom X.env.cells scope.names []) code builtinsNs fp [(h'.objs.size, gobj)] r1
        rw [hge] at pg pt pe
        have st6 : tn 0 s6.heap := T.keep _ _ _ st3 fun b _ o e => by rw [h6]; exact keep5 b o e
        refine seg_startA (G := gCx X A1 s3 H2 ge fp [(h'.objs.size, gobj)]) T st6 ?_
        refine seg_genA (G := gCx X A1 s3 H2 ge fp [(h'.objs.size, gobj)]) (W := W) (σ := σ) (vs := own.map (·.2)) rfl rfl rfl rfl rfl (by rw [← hge]; exact hco) (fun b hb p hp => ?_) T pg pt pe turn m0 (m0 + 1) 0 s6 s6 H2 (Nat.lt_succ_self _) I6 st6 (fun b hb => (f3 b hb).1.1) w0
        rw [List.mem_singleton.mp hp]
        show h'.objs.size ≠ b
        exact Nat.ne_of_gt (by rw [hsz]; exact Nat.lt_succ_of_lt (f3 b hb).2)
    exact key _ _ _ rfl (fun h e => ⟨_, _, _, e, rfl, rfl, rfl⟩) (fun v q => by cases q) rfl
  cases hf : codeAmong gpos ps.toList with
  | none =>
    refine wpAny_genexprCodeX hcode (cd.code hPs hT) (cd.tab hPs) hf fun c' h' tk hx hge hlt hco' _ htab' _ => ?_
    obtain ⟨o1, vs, f1, tf, fl, tg, inF, tx, tt, op, _, _, _, _, _, _, _, _, _, htr, _⟩ := hco'
    exact cont _ h' tk _ (fun b o hb e => hx b o hb e) htab'.2 htr
  | some cv =>
    refine wpAny_genexprCode_hit hcode (cd.code hPs hT) hf ?_
    exact cont cv s2.heap s2.toks ps (fun _ _ _ e => e) hPs hT
/-- all(elt for target in iter if ..) -/
theorem pe_allG {k : Nat} {c P : Addr} {elt tg iter : Expr} {ifs : List Expr} {scope : Scope} {own : List (Str × Nat)} {gpos p pos : Pos} {wi : TI} {g : TG} {tt : TT} {te : TE}
    (hr : Room (k + 3) X.A) (hc : X.calm = true) (hgl : Gl X "all") (hm : X.mg "all" = none) (hb : bootBuiltins "all" = some (.builtin "all")) (TB : GxR.TabB X.base X.mg c P) (hcode : X.env.code = .ref c) (hN : X.N.Nodup) (hi : PI X tg iter wi) (ok : BlkOk X.N X.env.scope scope own)
    (hg : ∀ (A : Around) (s : Shared) (H : Hp) (C : Addr) (cl : List (Str × Addr)) (code : Value) (bi : Addr) (fp : List Addr) (pn : List (Addr × Obj)), Room k A → PG (gCx X A s H (genEnv scope cl C code bi X.env) fp pn) tg g)
    (ht : ∀ (A : Around) (s : Shared) (H : Hp) (C : Addr) (cl : List (Str × Addr)) (code : Value) (bi : Addr) (fp : List Addr) (pn : List (Addr × Obj)), Room k A → PTs (gCx X A s H (genEnv scope cl C code bi X.env) fp pn) ifs tt)
    (he : ∀ (A : Around) (s : Shared) (H : Hp) (C : Addr) (cl : List (Str × Addr)) (code : Value) (bi : Addr) (fp : List Addr) (pn : List (Addr × Obj)), Room k A → PE (gCx X A s H (genEnv scope cl C code bi X.env) fp pn) elt te)
    (hs : ∀ v, genFold iter X.env v = pure v := by intro _; rfl) (hco : scope.isCoroutine = false := by rfl) (hcell : (scope.names.all fun y => decide (y.2 ≠ .cell)) = true := by rfl) (h0 : scope.names.lookup (".0" : Str) = some NameKind.local := by rfl)
    (he' : starEach [.GeneratorExp elt [⟨tg, iter, ifs, 0⟩] scope gpos] X.env = (false, eval (.GeneratorExp elt [⟨tg, iter, ifs, 0⟩] scope gpos) X.env) :: starEach [] X.env := by rfl) :
    PE X (.Call (.Name "all" p) [.GeneratorExp elt [⟨tg, iter, ifs, 0⟩] scope gpos] [] pos) (tGen P true wi g tt te (own.map (·.2))) := by
  refine ⟨fun pins s σ H Q I h => ?_⟩
  have hcell' : ∀ y ∈ scope.names, y.2 ≠ .cell := fun y hy => of_decide_eq_true (List.all_eq_true.mp hcell y hy)
  refine wpAny_Call_Name_kw (ld_blt I hgl hm hb ?_)
  refine PyProof.Rows.callWith_builtin1 ?_ he' (by rfl)
  rw [he']
  show wpAny _ _ (spliced ((false, eval (.GeneratorExp elt [⟨tg, iter, ifs, 0⟩] scope gpos) X.env) :: backTo pos (starEach [] X.env))) _ _ s
  refine Calls.spliced_cons (thn (gen_core hr hc TB hcode hco hcell' h0 hN ok hi hg ht he hs I h) fun u s' hG => ?_)
  refine Calls.spliced_nil ?_
  obtain ⟨G, a, gi, n, eP, eW, rfl, hgen, back, hga, hl, hgs⟩ := hG
  refine call_function_tree F.kind_all F.plain_all F.entry_all (F.args_all1 _) ?_
  unfold Builtin.«all»
  refine wpAny_bind (m := oneArg "all" _) (wpAny_pure ?_)
  refine wpAny_bind (wpAny_pyIter_gen hga ?_)
  refine wpAny_pure ⟨plainId_quiet F.plain_all_loop _, ?_⟩
  rw [← eP, ← eW]
  refine all_loopA (A := X.A) hr.hd hr.depth hgen (fun b σ' H' s1 s2 J q ho hb2 hk => ?_) n s' hga hl hgs
  have J2 := back σ' H' s1 J
  exact ⟨.bl b, H', J2.call' (ch := []) ho (Un.kept hk) (J2.hok.kept hk) hb2 (fun b hb => absurd hb List.not_mem_nil), rfl, q⟩
/-- any(elt for target in iter if ..) -/
theorem pe_anyG {k : Nat} {c P : Addr} {elt tg iter : Expr} {ifs : List Expr} {scope : Scope} {own : List (Str × Nat)} {gpos p pos : Pos} {wi : TI} {g : TG} {tt : TT} {te : TE}
    (hr : Room (k + 3) X.A) (hc : X.calm = true) (hgl : Gl X "any") (hm : X.mg "any" = none) (hb : bootBuiltins "any" = some (.builtin "any")) (TB : GxR.TabB X.base X.mg c P) (hcode : X.env.code = .ref c) (hN : X.N.Nodup) (hi : PI X tg iter wi) (ok : BlkOk X.N X.env.scope scope own)
    (hg : ∀ (A : Around) (s : Shared) (H : Hp) (C : Addr) (cl : List (Str × Addr)) (code : Value) (bi : Addr) (fp : List Addr) (pn : List (Addr × Obj)), Room k A → PG (gCx X A s H (genEnv scope cl C code bi X.env) fp pn) tg g)
    (ht : ∀ (A : Around) (s : Shared) (H : Hp) (C : Addr) (cl : List (Str × Addr)) (code : Value) (bi : Addr) (fp : List Addr) (pn : List (Addr × Obj)), Room k A → PTs (gCx X A s H (genEnv scope cl C code bi X.env) fp pn) ifs tt)
    (he : ∀ (A : Around) (s : Shared) (H : Hp) (C : Addr) (cl : List (Str × Addr)) (code : Value) (bi : Addr) (fp : List Addr) (pn : List (Addr × Obj)), Room k A → PE (gCx X A s H (genEnv scope cl C code bi X.env) fp pn) elt te)
    (hs : ∀ v, genFold iter X.env v = pure v := by intro _; rfl) (hco : scope.isCoroutine = false := by rfl) (hcell : (scope.names.all fun y => decide (y.2 ≠ .cell)) = true := by rfl) (h0 : scope.names.lookup (".0" : Str) = some NameKind.local := by rfl)
    (he' : starEach [.GeneratorExp elt [⟨tg, iter, ifs, 0⟩] scope gpos] X.env = (false, eval (.GeneratorExp elt [⟨tg, iter, ifs, 0⟩] scope gpos) X.env) :: starEach [] X.env := by rfl) :
    PE X (.Call (.Name "any" p) [.GeneratorExp elt [⟨tg, iter, ifs, 0⟩] scope gpos] [] pos) (tGen P false wi g tt te (own.map (·.2))) := by
  refine ⟨fun pins s σ H Q I h => ?_⟩
  have hcell' : ∀ y ∈ scope.names, y.2 ≠ .cell := fun y hy => of_decide_eq_true (List.all_eq_true.mp hcell y hy)
  refine wpAny_Call_Name_kw (ld_blt I hgl hm hb ?_)
  refine PyProof.Rows.callWith_builtin1 ?_ he' (by rfl)
  rw [he']
  show wpAny _ _ (spliced ((false, eval (.GeneratorExp elt [⟨tg, iter, ifs, 0⟩] scope gpos) X.env) :: backTo pos (starEach [] X.env))) _ _ s
  refine Calls.spliced_cons (thn (gen_core hr hc TB hcode hco hcell' h0 hN ok hi hg ht he hs I h) fun u s' hG => ?_)
  refine Calls.spliced_nil ?_
  obtain ⟨G, a, gi, n, eP, eW, rfl, hgen, back, hga, hl, hgs⟩ := hG
  refine call_function_tree F.kind_any F.plain_any F.entry_any (F.args_any1 _) ?_
  unfold Builtin.«any»
  refine wpAny_bind (m := oneArg "any" _) (wpAny_pure ?_)
  refine wpAny_bind (wpAny_pyIter_gen hga ?_)
  refine wpAny_pure ⟨plainId_quiet F.plain_any_loop _, ?_⟩
  rw [← eP, ← eW]
  refine any_loopA (A := X.A) hr.hd hr.depth hgen (fun b σ' H' s1 s2 J q ho hb2 hk => ?_) n s' hga hl hgs
  have J2 := back σ' H' s1 J
  exact ⟨.bl b, H', J2.call' (ch := []) ho (Un.kept hk) (J2.hok.kept hk) hb2 (fun b hb => absurd hb List.not_mem_nil), rfl, q⟩
end
end Zc
end

section
set_option maxHeartbeats 4000000
/-! A law's end where its program's defs hold generator expressions: the tables of their code objects. -/
namespace Zc
open PySem PySem.Spec PyProof.Rows L2
/-- cs: code objects and their tables; all tables are known as such -/
def Tabs (cs : List (Addr × Addr)) (H : Hp) : Prop := ∀ p ∈ cs, H p.2 = some (tabX p.2)
theorem Tabs.same {cs : List (Addr × Addr)} {H H' : Hp} (h : Tabs cs H) (s : Same H H') : Tabs cs H' := fun p hp => s _ _ (h p hp)
/-- the heap at the law's entry: the script (if it isn't of the written part), the tables -/
def hp0 (cs : List (Addr × Addr)) (a : Option (Addr × HO)) : Hp := fun b =>
  if b ∈ cs.map (·.2) then some (tabX b) else match a with
    | some q => if b = q.1 then some q.2 else none
    | none => none
theorem hp0_tab {cs : List (Addr × Addr)} {a : Option (Addr × HO)} : Tabs cs (hp0 cs a) := fun p hp => if_pos (List.mem_map.mpr ⟨p, hp, rfl⟩)
theorem hp0_in {cs : List (Addr × Addr)} {a : Option (Addr × HO)} {b : Addr} (hb : b ∈ cs.map (·.2)) : hp0 cs a b = some (tabX b) := if_pos hb
theorem hp0_out {cs : List (Addr × Addr)} {b : Addr} (hb : b ∉ cs.map (·.2)) : hp0 cs none b = none := if_neg hb
theorem hp0_at {cs : List (Addr × Addr)} {q : Addr × HO} (hb : q.1 ∉ cs.map (·.2)) : hp0 cs (some q) q.1 = some q.2 := (if_neg hb).trans (if_pos rfl)
theorem hp0_else {cs : List (Addr × Addr)} {q : Addr × HO} {b : Addr} (hb : b ∉ cs.map (·.2)) (hq : b ≠ q.1) : hp0 cs (some q) b = none := (if_neg hb).trans (if_neg hq)
section
variable {P : Program} {w : World} {K : PySem.W.Frag} {mg : Str → Option Value}
theorem callGT {mb : Str → Option Value} {k : Nat} {fa a : Addr} {fd : FuncData} {x : Str} {sp : Sp} {cs : List (Addr × Addr)}
    {s₁ : Shared} {vs : List Value} {ns : List Int}
    (KX : K.In s₁.heap) (gl : s₁.heap.Ns mainGlobals mg) (bn : s₁.heap.Ns builtinsNs mb)
    (bb : ∀ x : Str, x ≠ "__name__" → mb x = bootBuiltins x)
    (lim : s₁.heap.NoLimit) (gens : s₁.gens = #[])
    (tabs : ∀ p ∈ cs, s₁.heap.get? p.2 = some { cls := .none, data := .fields #[] } ∧ K.lookup p.2 = none ∧ PySem.W.CodeHd s₁.heap p.1 p.2)
    (main_ : ∃ (bm : Addr) (ob : Obj), mg "__builtins__" = some (.ref bm) ∧ bm ≠ builtinsNs ∧ s₁.heap.get? bm = some ob ∧ ob.cls = .type "module" ∧ ob.dict = some builtinsNs ∧ ob.data = .plain)
    (ha : s₁.heap.get? a = some { cls := .type "list", data := .seq vs.toArray })
    (hi : IntsAre vs ns) (hl : ns.length ≤ sizeLine) (hr : Room k callerA)
    (F : ∀ base : Heap, K.In base → base.Ns mainGlobals mg → (∀ p ∈ cs, GxR.TabB base mg p.1 p.2) → FnG P w K mg base k fa fd [x] sp)
    (bind : ∀ (s : Shared) (u : Value), BindsTo s fd ⟨[u], []⟩ [(x, u)])
    (hsp : ∀ H : Hp, Tabs cs H → SqL K H a (ns.map V.int) → sp [.ref a] H (fun v H' => v = .bl true ∧ Tabs cs H') fun _ _ _ => False) :
    codeAny (model P w) callerA (.call (.ref fa) ⟨[.ref a], []⟩)
      (fun r s' => r = .ok (.ret (.bool true)) ∧ OldK s₁.heap s'.heap ∧ s'.os = s₁.os ∧ AllBare s'.gens) s₁ := by
  have rv := vals_ints hi
  have lv := hi.length
  have tabAt : ∀ b ∈ cs.map (·.2), s₁.heap.get? b = some { cls := .none, data := .fields #[] } := fun b hb =>
    (List.mem_map.mp hb).elim fun p q => by
      rw [← q.2]
      exact (tabs p q.1).1
  have aOut : a ∉ cs.map (·.2) := fun z => by
    have e := tabAt a z
    rw [ha] at e
    have d : Data.seq vs.toArray 0 = Data.fields #[] := congrArg Obj.data (Option.some.inj e)
    exact Data.noConfusion d
  -- what is tracked at the entry is the script or a table
  have run : ∀ H : Hp, (∀ b, H b ≠ none → b = a ∨ b ∈ cs.map (·.2)) → (∀ b u, H b = some u → b ∉ cs.map (·.2) → ∃ o xs, u = .frz o (.lst xs)) → Tabs cs H → SqL K H a (ns.map V.int) →
      HOk P w H s₁.heap → (H a ≠ none → K.lookup a = none) →
      codeAny (model P w) callerA (.call (.ref fa) ⟨[.ref a], []⟩)
        (fun r s' => r = .ok (.ret (.bool true)) ∧ OldK s₁.heap s'.heap ∧ s'.os = s₁.os ∧ AllBare s'.gens) s₁ := by
    intro H only frozen hT hS ok away
    -- an object that is neither a list nor an empty table is not tracked
    have offT : ∀ {b : Addr} {o : Obj}, s₁.heap.get? b = some o → (∀ us n, o.data ≠ .seq us n) → o.data ≠ .fields #[] → H b = none := fun {b o} e n1 n2 => by
      cases q : H b with
      | none => rfl
      | some u =>
        exfalso
        rcases only b (by rw [q]; intro z; cases z) with z | z
        · rw [z, ha] at e
          exact n1 vs.toArray 0 (by rw [← Option.some.inj e])
        · rw [tabAt b z] at e
          exact n2 (by rw [← Option.some.inj e])
    have dictOff : ∀ {b : Addr} {o : Obj} {es : Array DictEntry} {ep : Nat}, s₁.heap.get? b = some o → o.data = .dict es ep → H b = none := fun {b o es ep} e d =>
      offT e (fun us n z => by rw [d] at z; exact Data.noConfusion z) (fun z => by rw [d] at z; exact Data.noConfusion z)
    have nsHid : ∀ {b : Addr} {m : Str → Option Value}, s₁.heap.Ns b m → (hidT s₁.heap H).Ns b m := by
      rintro b m ⟨o, es, ep, e, d, r⟩
      exact ⟨o, es, ep, hidT_get e (dictOff e d), d, r⟩
    have kinHid : K.In (hidT s₁.heap H) := by
      intro b o e
      refine hidT_get (KX b o e) ?_
      cases q : H b with
      | none => rfl
      | some u =>
        exfalso
        have nn : H b ≠ none := by rw [q]; intro z; cases z
        rcases only b nn with z | z
        · rw [z] at e nn
          rw [away nn] at e
          cases e
        · obtain ⟨p, hp, ep⟩ := List.mem_map.mp z
          rw [← ep, (tabs p hp).2.1] at e
          cases e
    have md : Mod K mg (hidT s₁.heap H) := by
      refine ⟨kinHid, nsHid gl, ⟨mb, nsHid bn, bb⟩, ?_⟩
      obtain ⟨mc, h1, h2⟩ := lim
      exact ⟨mc, nsHid h1, h2⟩
    have tb : ∀ p ∈ cs, GxR.TabB (hidT s₁.heap H) mg p.1 p.2 := by
      intro p hp
      obtain ⟨t1, t2, t3⟩ := tabs p hp
      refine ⟨?_, ?_, fun z => ?_⟩
      · obtain ⟨o, us, f1, f2, f3, f4, f5, f6, f7, c1, c2, c3, c4, c5⟩ := t3
        refine ⟨o, us, f1, f2, f3, f4, f5, f6, f7, hidT_get c1 (offT c1 (fun xs n z => ?_) fun z => ?_), c2, c3, c4, c5⟩
        · rw [c3] at z
          exact Data.noConfusion z
        · rw [c3] at z
          have z2 : us = #[] := Data.fields.inj z
          rw [z2] at c4
          simp at c4
      · obtain ⟨bm, ob, b1, b2, b3, b4, b5, b6⟩ := main_
        refine ⟨bm, ob, b1, b2, fun z => ?_, fun z => ?_, hidT_get b3 (offT b3 (fun xs n z => ?_) fun z => ?_), b4, b5, b6⟩
        · obtain ⟨o, es, ep, e, d, _⟩ := gl
          rw [z, e] at b3
          rw [← Option.some.inj b3, d] at b6
          exact Data.noConfusion b6
        · rw [z, t1] at b3
          rw [← Option.some.inj b3] at b6
          exact Data.noConfusion b6
        · rw [b6] at z
          exact Data.noConfusion z
        · rw [b6] at z
          exact Data.noConfusion z
      · obtain ⟨o, es, ep, e, d, _⟩ := gl
        rw [z, t1] at e
        rw [← Option.some.inj e] at d
        exact Data.noConfusion d
    have e0 : Env0 P w K mg (hidT s₁.heap H) callerA [] s₁ H := by
      refine ⟨rfl, md, fun b o e => of_hidT e, Nat.le_of_eq (hidT_size _ _), trivial, ?_, ok, .of_eq gens⟩
      intro b hb
      exact absurd (show b ∈ ([] : List Addr) from hb) List.not_mem_nil
    have done := (F _ kinHid (nsHid gl) tb).run callerA [] s₁ H ⟨[.ref a], []⟩ [.ref a] [.ref a] _ _ hr rfl e0 (bind s₁ (.ref a)) (.cons rfl .nil) (hsp H hT hS)
    refine codeAny_mono done ?_
    intro r s' h
    match r, h with
    | .error e, h => exact False.elim h
    | .ok .next, h => exact False.elim h
    | .ok .brk, h => exact False.elim h
    | .ok .cont, h => exact False.elim h
    | .ok (.ret u), h =>
      obtain ⟨v, H', os, bare, un, ok', r', hv, hT'⟩ := h
      subst hv
      have r2 : u = Value.bool true := r'
      subst r2
      have grown : ∀ b ∈ cs.map (·.2), ∃ more : Array Value, s'.heap.get? b = some { cls := .none, data := .fields more } := fun b hb =>
        (List.mem_map.mp hb).elim fun p q => by
          obtain ⟨⟨more, em, _⟩, _⟩ := ok' p.2 _ (hT' p q.1)
          rw [← q.2]
          exact ⟨more, em⟩
      have stays : ∀ b o, b ∉ cs.map (·.2) → s₁.heap.get? b = some o → s'.heap.get? b = some o := by
        intro b o nb e
        match q : H b with
        | none => exact un.keep b o e q (fun z => absurd (show b ∈ ([] : List Addr) from z) List.not_mem_nil) List.not_mem_nil
        | some u =>
          obtain ⟨ob, xs, rfl⟩ := frozen b u q nb
          obtain ⟨g1, _⟩ := ok b _ q
          obtain ⟨g2, _⟩ := ok' b _ (un.frzs b ob _ q)
          rw [e] at g1
          rw [Option.some.inj g1]
          exact g2
      refine ⟨rfl, ⟨fun b o e => ?_, fun b o e => ?_⟩, os, bare⟩
      · by_cases hb : b ∈ cs.map (·.2)
        · obtain ⟨more, hm⟩ := grown b hb
          obtain ⟨p, hp, ep⟩ := List.mem_map.mp hb
          obtain ⟨t1, _, t3⟩ := tabs p hp
          rw [tabAt b hb] at e
          rw [← Option.some.inj e]
          refine .inr (.inl ⟨?_, rfl, #[], more, rfl, by rw [Array.empty_append]; exact hm⟩)
          rw [← ep]
          exact (t3.tab t1).isCodeTable
        · exact .inl (stays b o hb e)
      · by_cases hb : b ∈ cs.map (·.2)
        · exact (grown b hb).elim fun more hm => ⟨_, hm⟩
        · exact ⟨o, stays b o hb e⟩
  have tabOk : ∀ {H : Hp} (b : Addr), b ∈ cs.map (·.2) → ObjOk P w H s₁.heap b (tabX b) := fun b hb => ⟨⟨#[], tabAt b hb, trivial⟩, ⟨_, tabAt b hb⟩, tabφ_stay⟩
  match hk : K.lookup a with
  | some o =>
    have e := KX a o hk
    rw [ha] at e
    have e' := Option.some.inj e
    subst e'
    refine run (hp0 cs none) (fun b hb => ?_) (fun b u hu nb => ?_) hp0_tab ?_ (fun b u hu => ?_) (fun z => ?_)
    · exact (Classical.em (b ∈ cs.map (·.2))).elim .inr fun nb => absurd (hp0_out nb) hb
    · rw [hp0_out nb] at hu
      cases hu
    · exact Or.inr ⟨_, vs.toArray, _, hk, rfl, rfl, rfl, by rw [List.size_toArray, lv]; exact hl, by simpa using rv⟩
    · by_cases hb : b ∈ cs.map (·.2)
      · rw [hp0_in hb] at hu
        rw [← Option.some.inj hu]
        exact tabOk b hb
      · rw [hp0_out hb] at hu
        cases hu
    · exact absurd (hp0_out aOut) z
  | none =>
    refine run (hp0 cs (some (a, .frz { cls := .type "list", data := .seq vs.toArray } (.lst (ns.map V.int))))) (fun b hb => ?_) (fun b u hu nb => ?_) hp0_tab ?_ (fun b u hu => ?_) (fun _ => hk)
    · by_cases nb : b ∈ cs.map (·.2)
      · exact .inr nb
      · by_cases ba : b = a
        · exact .inl ba
        · exact absurd (hp0_else nb ba) hb
    · by_cases ba : b = a
      · subst ba
        rw [hp0_at (q := (b, _)) nb] at hu
        exact ⟨_, _, (Option.some.inj hu).symm⟩
      · rw [hp0_else nb ba] at hu
        cases hu
    · exact Or.inl (Or.inr ⟨_, hp0_at (q := (a, _)) aOut⟩)
    · by_cases nb : b ∈ cs.map (·.2)
      · rw [hp0_in nb] at hu
        rw [← Option.some.inj hu]
        exact tabOk b nb
      · by_cases ba : b = a
        · subst ba
          rw [hp0_at (q := (b, _)) nb] at hu
          rw [← Option.some.inj hu]
          refine ⟨ha, ?_, vs, _, rv, ha⟩
          rw [List.length_map]
          exact hl
        · rw [hp0_else nb ba] at hu
          cases hu
end
/-- the table of the def with this name is empty at the law's entry, and its code object as made -/
def OwnT (K : PySem.W.Frag) (mg : Str → Option Value) (h : Heap) (x : Str) : Prop :=
  ∀ (f c p : Addr) (fo co : Obj) (fd : FuncData) (vs : Array Value), mg x = some (.ref f) → K.lookup f = some fo → fo.data = .func fd → fd.code = .ref c → K.lookup c = some co → co.data = .fields vs → vs[11]? = some (.ref p) →
    h.get? p = some { cls := .none, data := .fields #[] } ∧ PySem.W.CodeHd h c p
/-- the goal that the head leaves, from a promise that asks tables -/
theorem walkGT {l : PySem.W.OpenLaw} {n k : Nat} {q : Program} {loose : List Str}
    {XP : (Str → Option Value) → Heap → Prop} {YP : World → Heap → Prop} {d : DefRec}
    {K : Params → PySem.W.Frag} {x : Str} (xs : List Str)
    (hn : l.most = some n) (hn2 : n ≤ sizeLine) (hdf : d.params.defaults = []) (hr : Room k callerA)
    (hY : ∀ (w : World) (h : Heap), YP w h → (K w.params).In h) (hx : (xs.all fun y => (recsOf q).any fun r => r.name == y) = true)
    (F : ∀ (w : World) (mg : Str → Option Value) (fa : Addr) (h : Heap), (K w.params).In h → h.Ns mainGlobals mg →
      mg d.name = some (.ref fa) → (∀ y ∈ xs, OwnT (K w.params) mg h y) →
      ∃ (fd : FuncData) (cs : List (Addr × Addr)) (sp : Sp), (∀ p ∈ cs, h.get? p.2 = some { cls := .none, data := .fields #[] } ∧ (K w.params).lookup p.2 = none ∧ PySem.W.CodeHd h p.1 p.2) ∧
        (∀ (s : Shared) (u : Value), BindsTo s fd ⟨[u], []⟩ [(x, u)]) ∧
        (∀ base : Heap, (K w.params).In base → base.Ns mainGlobals mg → (∀ p ∈ cs, GxR.TabB base mg p.1 p.2) → FnG l.prog w (K w.params) mg base k fa fd [x] sp) ∧
        (∀ (H : Hp) (a : Addr) (ns : List Int), ns.length ≤ n → Tabs cs H → SqL (K w.params) H a (ns.map V.int) → sp [.ref a] H (fun v H' => v = .bl true ∧ Tabs cs H') fun _ _ _ => False)) :
    PySem.W.WalkO q loose XP YP l.row.toRowW d [] (fun f vs => PySem.call f vs) := by
  apply Att.attach_call hn hdf
  intro w s₀ s₁ mg mb fa o pm cd doc a vs ns G Y ho hd hcd hmg hobj hints hlen hg
  have kx := hY w _ Y
  have own : ∀ y ∈ xs, OwnT (K w.params) mg s₁.heap y := by
    intro y hy f c p fo co fd us e1 e2 e3 e4 e5 e6 e7
    obtain ⟨r, hr1, hr2⟩ := List.any_eq_true.mp (List.all_eq_true.mp hx y hy)
    obtain ⟨f', o', fd', c', p', t1, t2, t3, t4, t5, t6⟩ := G.T.tab r hr1
    rw [beq_iff_eq.mp hr2, e1] at t1
    have ef : f' = f := (Value.ref.inj (Option.some.inj t1)).symm
    subst ef
    rw [kx _ _ e2] at t2
    have eo : o' = fo := (Option.some.inj t2).symm
    subst eo
    rw [e3] at t3
    have efd : fd' = fd := (Data.func.inj t3).symm
    subst efd
    rw [e4] at t4
    have ec : c' = c := (Value.ref.inj t4).symm
    subst ec
    have hd2 := PySem.W.CodeHd.of t5 t6
    obtain ⟨⟨oc, uc, g1, _, g3, g4⟩, g5⟩ := t6
    rw [kx _ _ e5] at g1
    have eco : oc = co := (Option.some.inj g1).symm
    subst eco
    rw [e6] at g3
    have eus : uc = us := (Data.fields.inj g3).symm
    subst eus
    rw [e7] at g4
    have epp : p' = p := (Value.ref.inj (Option.some.inj g4)).symm
    subst epp
    exact ⟨g5, hd2⟩
  obtain ⟨fd, cs, sp, hT, hb, hF, hsp⟩ := F w mg fa _ kx G.T.g hmg own
  exact callGT kx G.T.g G.T.b G.T.builtins G.T.nolimit hg hT G.T.bmain hobj hints (Nat.le_trans hlen hn2) hr hF hb (fun H hH hS => hsp H a ns hlen hH hS)
section
variable {P : Program} {w : World} {K : PySem.W.Frag} {mg : Str → Option Value} {base : Heap}
/-- a def whose code object is known -/
theorem fn_okC {x qual : Str} {st : Stmt} {f c : Addr} {fd : FuncData} {N ps : List Str} {k : Nat} {sp : Sp} (F : Fun K x qual st f fd) (hc : fd.code = .ref c) (S : FnScope N ps (defScope st)) (len : ∀ vs H Q E, sp vs H Q E → vs.length = ps.length)
    (body : ∀ (A : Around) (outer : List Env) (s : Shared) (H : Hp) (vs : List V) (Q : VK) (E : XK), Room k (A.deeper (envOfC qual (defScope st) s.heap.objs.size f (.ref c))) → sp vs H Q E →
      ∃ t, PSs (cxOf CX0 P w K mg base N qual (defScope st) f (.ref c) A outer s H E).nox (defBody st) t ∧ t { nx := fun _ H' => Q .non H', rt := Q } (start N vs) H) : FnOk P w K mg base CX0 (k + 1) f fd ps sp := by
  obtain ⟨oc, od, kV, doc, pm, an, cdv, ct, osl, rfl, lk, hcd⟩ := F.ex
  have e : cdv = .ref c := hc
  subst e
  refine fn_of lk hcd S len fun A outer s H vs Q E hr hsp => ?_
  exact (body A outer s H vs Q E hr hsp).elim fun t r => ⟨t, r.1.nox, r.2⟩
/-- a def with generator expressions: its code object c, the table p -/
structure AtT (K : PySem.W.Frag) (mg : Str → Option Value) (base : Heap) (x : Str) (st : Stmt) (ps : List Str) (f : Addr) (fd : FuncData) (c p : Addr) : Prop where
  at_ : At K mg x st ps f fd
  code : fd.code = .ref c
  tab : GxR.TabB base mg c p
end
end Zc
end

section
set_option maxHeartbeats 2000000
/-! Data that stand: in a part T of the heap that nobody writes. -/
namespace Zc
open PySem PySem.Spec PyProof.Rows L2
mutual
/-- v is the data d, all of whose objects stand in T -/
def Da (T : Hp) : PyData → V → Prop
  | .none, v => v = .non
  | .bool b, v => v = .bl b
  | .int i, v => v = .int i
  | .str x, v => v = .str x
  | .list ds, v => ∃ a xs, v = .ref a ∧ T a = some (.lst xs) ∧ DaA T ds xs
  | .tuple ds, v => ∃ a xs, v = .ref a ∧ T a = some (.tup xs) ∧ DaA T ds xs
  | .dict _, _ => False
def DaA (T : Hp) : List PyData → List V → Prop
  | [], xs => xs = []
  | d :: ds, xs => ∃ v vs, xs = v :: vs ∧ Da T d v ∧ DaA T ds vs
end
mutual
theorem Da.keep {T T' : Hp} (s : Same T T') : ∀ (d : PyData) (v : V), Da T d v → Da T' d v
  | .none, _, h => h
  | .bool _, _, h => h
  | .int _, _, h => h
  | .str _, _, h => h
  | .list ds, _, ⟨a, xs, e, h, r⟩ => ⟨a, xs, e, s _ _ h, DaA.keep s ds xs r⟩
  | .tuple ds, _, ⟨a, xs, e, h, r⟩ => ⟨a, xs, e, s _ _ h, DaA.keep s ds xs r⟩
  | .dict _, _, h => h
theorem DaA.keep {T T' : Hp} (s : Same T T') : ∀ (ds : List PyData) (vs : List V), DaA T ds vs → DaA T' ds vs
  | [], _, h => h
  | d :: ds, _, ⟨v, vs, e, h, r⟩ => ⟨v, vs, e, Da.keep s d v h, DaA.keep s ds vs r⟩
end
mutual
theorem Da.dp {K : PySem.W.Frag} {T : Hp} : ∀ (d : PyData) (v : V), Da T d v → Dp K T v d
  | .none, _, h => by cases h; exact .non
  | .bool b, _, h => by cases h; exact .bl b
  | .int i, _, h => by cases h; exact .int i
  | .str x, _, h => by cases h; exact .str x
  | .list ds, _, ⟨a, xs, e, h, r⟩ => by cases e; exact .lst (.inl (.inl h)) (DaA.dp ds xs r)
  | .tuple ds, _, ⟨a, xs, e, h, r⟩ => by cases e; exact .tup (.inl (.inl h)) (DaA.dp ds xs r)
  | .dict _, _, h => h.elim
theorem DaA.dp {K : PySem.W.Frag} {T : Hp} : ∀ (ds : List PyData) (vs : List V), DaA T ds vs → DpAll K T vs ds
  | [], _, h => by cases h; exact .nil
  | d :: ds, _, ⟨v, vs, e, h, r⟩ => by cases e; exact .cons (Da.dp d v h) (DaA.dp ds vs r)
end
/-- as data of the whole heap -/
theorem Da.dpH {K : PySem.W.Frag} {T H : Hp} {d : PyData} {v : V} (h : Da T d v) (s : Same T H) : Dp K H v d := Dp.keep (Da.dp d v h) s
section
variable {T T' H : Hp}
theorem DaA.len : ∀ {ds : List PyData} {vs : List V}, DaA T ds vs → vs.length = ds.length
  | [], _, h => by cases h; rfl
  | d :: ds, _, ⟨v, vs, e, _, r⟩ => by cases e; rw [List.length_cons, List.length_cons, DaA.len r]
theorem DaA.get : ∀ {ds : List PyData} {vs : List V} {i : Nat} {x : V}, DaA T ds vs → vs[i]? = some x → ∃ d, ds[i]? = some d ∧ Da T d x
  | [], _, i, x, h, e => by cases h; cases e
  | d :: ds, _, 0, x, ⟨v, vs, q, h, _⟩, e => by cases q; cases e; exact ⟨d, rfl, h⟩
  | d :: ds, _, i + 1, x, ⟨v, vs, q, _, r⟩, e => by cases q; exact DaA.get (i := i) r e
theorem DaA.at : ∀ {ds : List PyData} {vs : List V} {i : Nat} {d : PyData}, DaA T ds vs → ds[i]? = some d → ∃ x, vs[i]? = some x ∧ Da T d x
  | [], _, i, d, h, e => by cases e
  | d :: ds, _, 0, x, ⟨v, vs, q, h, _⟩, e => by cases q; cases e; exact ⟨v, rfl, h⟩
  | d :: ds, _, i + 1, x, ⟨v, vs, q, _, r⟩, e => by cases q; exact DaA.at (i := i) r e
theorem DaA.app : ∀ {ds es : List PyData} {vs us : List V}, DaA T ds vs → DaA T es us → DaA T (ds ++ es) (vs ++ us)
  | [], es, _, us, h, g => by cases h; exact g
  | d :: ds, es, _, us, ⟨v, vs, q, h, r⟩, g => by cases q; exact ⟨v, vs ++ us, rfl, h, DaA.app r g⟩
theorem DaA.one {d : PyData} {v : V} (h : Da T d v) : DaA T [d] [v] := ⟨v, [], rfl, h, rfl⟩
theorem DaA.two {d e : PyData} {v u : V} (h : Da T d v) (g : Da T e u) : DaA T [d, e] [v, u] := ⟨v, [u], rfl, h, DaA.one g⟩
theorem DaA.three {d e f : PyData} {v u x : V} (h : Da T d v) (g : Da T e u) (i : Da T f x) : DaA T [d, e, f] [v, u, x] := ⟨v, [u, x], rfl, h, DaA.two g i⟩
theorem DaA.snoc {ds : List PyData} {vs : List V} {d : PyData} {v : V} (h : DaA T ds vs) (g : Da T d v) : DaA T (ds ++ [d]) (vs ++ [v]) := h.app (DaA.one g)
theorem DaA.take : ∀ {ds : List PyData} {vs : List V} (k : Nat), DaA T ds vs → DaA T (ds.take k) (vs.take k)
  | ds, vs, 0, h => by rw [List.take_zero, List.take_zero]; rfl
  | [], _, k + 1, h => by cases h; rfl
  | d :: ds, _, k + 1, ⟨v, vs, q, h, r⟩ => by cases q; exact ⟨v, vs.take k, rfl, h, DaA.take k r⟩
theorem DaA.drop : ∀ {ds : List PyData} {vs : List V} (k : Nat), DaA T ds vs → DaA T (ds.drop k) (vs.drop k)
  | ds, vs, 0, h => h
  | [], _, k + 1, h => by cases h; rfl
  | d :: ds, _, k + 1, ⟨v, vs, q, h, r⟩ => by cases q; exact DaA.drop k r
theorem DaA.rev : ∀ {ds : List PyData} {vs : List V}, DaA T ds vs → DaA T ds.reverse vs.reverse
  | [], _, h => by cases h; rfl
  | d :: ds, _, ⟨v, vs, q, h, r⟩ => by
    cases q
    rw [List.reverse_cons, List.reverse_cons]
    exact (DaA.rev r).snoc h
theorem DaA.ints : ∀ (ns : List Int), DaA T (ns.map PyData.int) (ns.map V.int)
  | [] => rfl
  | n :: r => ⟨.int n, r.map V.int, rfl, rfl, DaA.ints r⟩
theorem DaA.of_ints : ∀ {ns : List Int} {vs : List V}, DaA T (ns.map PyData.int) vs → vs = ns.map V.int
  | [], _, h => h
  | n :: r, _, ⟨v, vs, q, h, g⟩ => by
    have h' : v = .int n := h
    rw [q, h', DaA.of_ints g]
    rfl
/-- a new object -/
theorem Da.tup {p : Addr} {ds : List PyData} {xs : List V} (e : T p = some (.tup xs)) (h : DaA T ds xs) : Da T (.tuple ds) (.ref p) := ⟨p, xs, rfl, e, h⟩
theorem Da.lst {p : Addr} {ds : List PyData} {xs : List V} (e : T p = some (.lst xs)) (h : DaA T ds xs) : Da T (.list ds) (.ref p) := ⟨p, xs, rfl, e, h⟩
end
/-- more stands, in a heap that has grown: what stands newly was free -/
structure Ext (T H T' H' : Hp) : Prop where
  hh : Same H H'
  tt : Same T T'
  th : Same T' H'
  nw : ∀ b, T' b ≠ none → T b ≠ none ∨ H b = none
section
variable {T H T1 H1 T2 H2 : Hp}
theorem Ext.refl (s : Same T H) : Ext T H T H := ⟨Same.refl H, Same.refl T, s, fun b h => .inl h⟩
theorem Ext.trans (a : Ext T H T1 H1) (b : Ext T1 H1 T2 H2) : Ext T H T2 H2 :=
  ⟨a.hh.trans b.hh, a.tt.trans b.tt, b.th, fun c h => (b.nw c h).elim (a.nw c) fun z => .inr (a.hh.free z)⟩
/-- the heap alone has grown -/
theorem Ext.more (s : Same T H) (h : Same H H1) : Ext T H T H1 := ⟨h, Same.refl T, s.trans h, fun b h => .inl h⟩
/-- what a new address holds stands from now on -/
theorem Ext.put {p : Addr} {o : HO} (s : Same T H) (hh : Same H H1) (n : H p = none) (e : H1 p = some o) : Ext T H (upd T p o) H1 := by
  have tp : T p = none := s.free n
  refine ⟨hh, same_new tp, fun b u hb => ?_, fun b hb => ?_⟩
  · by_cases q : b = p
    · subst q
      rw [upd_same] at hb
      cases hb
      exact e
    · rw [upd_ne q] at hb
      exact hh _ _ (s _ _ hb)
  · by_cases q : b = p
    · exact .inr (q ▸ n)
    · rw [upd_ne q] at hb
      exact .inl hb
theorem Ext.new {p : Addr} {o : HO} (s : Same T H) (n : H p = none) : Ext T H (upd T p o) (upd H p o) := Ext.put s (same_new n) n upd_same
theorem Ext.out {b : Addr} {o : HO} (x : Ext T H T1 H1) (n : T b = none) (h : H b = some o) : T1 b = none := by
  cases q : T1 b with
  | none => rfl
  | some u =>
    rcases x.nw b (by rw [q]; intro z; cases z) with z | z
    · exact absurd n z
    · rw [h] at z
      cases z
theorem same_upd {b : Addr} {o : HO} (s : Same T H) (n : T b = none) : Same T (upd H b o) := fun c u e => by
  rw [upd_ne (fun q => by rw [q, n] at e; cases e)]
  exact s _ _ e
end

/-! ### isinstance of data -/
def isIntD : PyData → Bool
  | .int _ => true
  | _ => false
def isNumD : PyData → Bool
  | .int i => decide (0 ≤ i)
  | _ => false
def isBoolD : PyData → Bool
  | .bool _ => true
  | _ => false
def isTupD : PyData → Bool
  | .tuple _ => true
  | _ => false
def isLstD : PyData → Bool
  | .list _ => true
  | _ => false
def isStrD : PyData → Bool
  | .str _ => true
  | _ => false
/-- what isinstance asks of data -/
theorem Da.ask {K : PySem.W.Frag} {T H : Hp} {d : PyData} {v : V} (h : Da T d v) (s : Same T H) :
    ∃ t, TyX K H v t ∧ PySem.W.kitOne K t (.type "int") = some (isIntD d || isBoolD d) ∧ PySem.W.kitOne K t (.type "bool") = some (isBoolD d) ∧
      PySem.W.kitOne K t (.type "tuple") = some (isTupD d) ∧ PySem.W.kitOne K t (.type "list") = some (isLstD d) ∧ PySem.W.kitOne K t (.type "str") = some (isStrD d) := by
  cases d with
  | none => cases h; exact ⟨_, .base .non, kit_ty (r := false) (by decide +kernel), kit_ty (r := false) (by decide +kernel), kit_ty (r := false) (by decide +kernel), kit_ty (r := false) (by decide +kernel), kit_ty (r := false) (by decide +kernel)⟩
  | bool b => cases h; exact ⟨_, .base (.bl b), kit_ty (r := true) (by decide +kernel), kit_ty (r := true) (by decide +kernel), kit_ty (r := false) (by decide +kernel), kit_ty (r := false) (by decide +kernel), kit_ty (r := false) (by decide +kernel)⟩
  | int i => cases h; exact ⟨_, .base (.int i), kit_ty (r := true) (by decide +kernel), kit_ty (r := false) (by decide +kernel), kit_ty (r := false) (by decide +kernel), kit_ty (r := false) (by decide +kernel), kit_ty (r := false) (by decide +kernel)⟩
  | str x => cases h; exact ⟨_, .base (.str x), kit_ty (r := false) (by decide +kernel), kit_ty (r := false) (by decide +kernel), kit_ty (r := false) (by decide +kernel), kit_ty (r := false) (by decide +kernel), kit_ty (r := true) (by decide +kernel)⟩
  | list ds =>
    obtain ⟨a, xs, rfl, e, _⟩ := h
    exact ⟨_, .base (.lst (s _ _ e)), kit_ty (r := false) (by decide +kernel), kit_ty (r := false) (by decide +kernel), kit_ty (r := false) (by decide +kernel), kit_ty (r := true) (by decide +kernel), kit_ty (r := false) (by decide +kernel)⟩
  | tuple ds =>
    obtain ⟨a, xs, rfl, e, _⟩ := h
    exact ⟨_, .base (.tup (s _ _ e)), kit_ty (r := false) (by decide +kernel), kit_ty (r := false) (by decide +kernel), kit_ty (r := true) (by decide +kernel), kit_ty (r := false) (by decide +kernel), kit_ty (r := false) (by decide +kernel)⟩
  | dict _ => exact h.elim

/-! ### a promise over data: what is handed back is data, too -/
def spP (C : Hp → Prop) (f : List PyData → Option PyData) : Sp := fun vs H Q _ => ∃ (T : Hp) (ds : List PyData) (r : PyData), Same T H ∧ DaA T ds vs ∧ f ds = some r ∧ C H ∧
  ∀ H' T' v, Ext T H T' H' → Da T' r v → Q v H'
abbrev C0 : Hp → Prop := fun _ => True
/-- .. a truth -/
def spB (C : Hp → Prop) (f : List PyData → Option Bool) : Sp := fun vs H Q _ => ∃ (T : Hp) (ds : List PyData) (r : Bool), Same T H ∧ DaA T ds vs ∧ f ds = some r ∧ C H ∧
  ∀ H' T', Ext T H T' H' → Q (.bl r) H'

/-! ### comprehensions over what stands -/
theorem take_snocD {ds : List PyData} {i : Nat} {d : PyData} (h : ds[i]? = some d) : ds.take (i + 1) = ds.take i ++ [d] := by
  rw [List.take_add_one, h]
  rfl
theorem filter_snoc {p : PyData → Bool} {f : PyData → PyData} {ds : List PyData} {i : Nat} {d : PyData} (h : ds[i]? = some d) :
    ((ds.take (i + 1)).filter p).map f = ((ds.take i).filter p).map f ++ (if p d = true then [f d] else []) := by
  rw [take_snocD h, List.filter_append, List.map_append]
  congr 1
  cases hp : p d with
  | true => rw [List.filter_cons_of_pos hp]; rfl
  | false => rw [List.filter_cons_of_neg (by rw [hp]; exact Bool.false_ne_true)]; rfl
/-- what is walked hands out these data, whatever new there is -/
structure Gives (J : It) (T H1 : Hp) (ds : List PyData) : Prop where
  go : ∀ (i : Nat) (H' : Hp), i < ds.length → Same H1 H' → J.go i H'
  stop : ∀ H', Same H1 H' → J.stop ds.length H'
  yl : ∀ (i : Nat) (x : V) (H' H2 : Hp), i < ds.length → J.yld i H' x H2 → Same H1 H' → ∃ d T2, ds[i]? = some d ∧ Ext T H' T2 H2 ∧ Da T2 d x
theorem gives_list {K : PySem.W.Frag} {T H1 : Hp} {a : Addr} {xs : List V} {ds : List PyData} (s : Same T H1) (e : T a = some (.lst xs)) (h : DaA T ds xs) : Gives (Itl K a) T H1 ds where
  go := fun i H' hi s' => by
    have hx : i < xs.length := by rw [h.len]; exact hi
    exact ⟨xs, xs[i], .inl (.inl (s' _ _ (s _ _ e))), List.getElem?_eq_getElem hx⟩
  stop := fun H' s' => ⟨xs, .inl (.inl (s' _ _ (s _ _ e))), by rw [h.len]; exact Nat.le_refl _⟩
  yl := fun i x H' H2 _ y s' => by
    obtain ⟨rfl, y⟩ := y
    obtain ⟨d, e1, e2⟩ := h.get (y xs (.inl (.inl (s' _ _ (s _ _ e)))))
    exact ⟨d, T, e1, .refl (s.trans s'), e2⟩
theorem gives_tup {K : PySem.W.Frag} {T H1 : Hp} {a : Addr} {xs : List V} {ds : List PyData} (s : Same T H1) (e : T a = some (.tup xs)) (h : DaA T ds xs) : Gives (Itt K a) T H1 ds where
  go := fun i H' hi s' => by
    have hx : i < xs.length := by rw [h.len]; exact hi
    exact ⟨xs, xs[i], .inl (.inl (s' _ _ (s _ _ e))), List.getElem?_eq_getElem hx⟩
  stop := fun H' s' => ⟨xs, .inl (.inl (s' _ _ (s _ _ e))), by rw [h.len]; exact Nat.le_refl _⟩
  yl := fun i x H' H2 _ y s' => by
    obtain ⟨rfl, y⟩ := y
    obtain ⟨d, e1, e2⟩ := h.get (y xs (.inl (.inl (s' _ _ (s _ _ e)))))
    exact ⟨d, T, e1, .refl (s.trans s'), e2⟩
theorem gives_range {T H1 : Hp} {lo : Int} {n : Nat} (s : Same T H1) : Gives (Itr lo n) T H1 ((List.range n).map fun (i : Nat) => PyData.int (lo + i)) where
  go := fun i H' hi s' => by
    rw [List.length_map, List.length_range] at hi
    exact hi
  stop := fun H' s' => by
    show n ≤ _
    rw [List.length_map, List.length_range]
    exact Nat.le_refl _
  yl := fun i x H' H2 hi y s' => by
    obtain ⟨rfl, rfl⟩ := y
    rw [List.length_map, List.length_range] at hi
    refine ⟨.int (lo + i), T, ?_, .refl (s.trans s'), rfl⟩
    rw [List.getElem?_map, List.getElem?_range hi]
    rfl
/-- [f d for d in ds if p d]: the items ds, one way or another; go: what the walked thing hands out -/
theorem lc_dat {J : It} {g : TG} {tt : TT} {te : TE} {vs : List Nat} {σ : L2.St} {T H1 : Hp} {D : Addr} {Qd : Hp → Prop} {ds : List PyData} (p : PyData → Bool) (f : PyData → PyData)
    (sT : Same T H1) (nD : H1 D = none) (hn : ds.length < sizeLine)
    (wk : Gives J T H1 ds)
    (turn : ∀ (i : Nat) (d : PyData) (x : V) (T2 H2 : Hp) (R : V → Hp → Prop) (R0 : Hp → Prop), ds[i]? = some d → Ext T H1 T2 H2 → Da T2 d x →
      (∀ T3 H3 y, Ext T2 H2 T3 H3 → Da T3 (f d) y → p d = true → R y H3) → (∀ T3 H3, Ext T2 H2 T3 H3 → p d = false → R0 H3) →
      g x (wipe σ vs) H2 fun σ2 H3 => wipe σ2 vs = wipe σ vs ∧ tt σ2 H3 fun b H4 => if b = true then te σ2 H4 R else R0 H4)
    (done : ∀ T' H' ys, Ext T H1 T' H' → T' D = some (.lst ys) → DaA T' ((ds.filter p).map f) ys → Qd H') :
    ∃ W : Nat → Nat → Hp → Prop, (∃ m, W 0 m (upd H1 D (.lst []))) ∧ ∀ i m H, W i m H →
      (J.stop i H ∧ Qd H) ∨ (J.go i H ∧ ∃ Nx : Hp → Prop, (∀ H', Nx H' → ∃ m', m' < m ∧ W (i + 1) m' H') ∧ ∀ x H', J.yld i H x H' → g x (wipe σ vs) H' fun σ2 H2 => wipe σ2 vs = wipe σ vs ∧ tt σ2 H2 fun b H3 =>
        if b = true then te σ2 H3 fun y H4 => ∃ acc, H4 D = some (.lst acc) ∧ acc.length < sizeLine ∧ Nx (upd H4 D (.lst (acc ++ [y]))) else Nx H3) := by
  -- T': what stands beside the list
  let Iv : Nat → Hp → Prop := fun i H => ∃ T' ys, Same T T' ∧ Same T' H ∧ (∀ b, T' b ≠ none → T b ≠ none ∨ H1 b = none) ∧ T' D = none ∧ Same H1 H ∧ H D = some (.lst ys) ∧ DaA T' (((ds.take i).filter p).map f) ys
  refine ⟨fun i m H => m = ds.length - i ∧ i ≤ ds.length ∧ Iv i H, ⟨ds.length, rfl, Nat.zero_le _, T, [], Same.refl T, sT.trans (same_new nD), fun b h => .inl h, sT.free nD, same_new nD, upd_same, rfl⟩, ?_⟩
  rintro i m H ⟨rfl, hi, T', ys, tt1, th, nw, tD, hh, hD, hys⟩
  by_cases hlt : i < ds.length
  · refine .inr ⟨wk.go i H hlt hh, Iv (i + 1), fun H' h => ⟨ds.length - (i + 1), by omega, rfl, hlt, h⟩, fun x H2 hy => ?_⟩
    obtain ⟨d, T2, hd, x2, hx⟩ := wk.yl i x H H2 hlt hy hh
    -- T2 beside T'
    have tD2 : T2 D = none := x2.out (sT.free nD) hD
    let TT : Hp := fun b => match T' b with
      | some o => some o
      | none => T2 b
    have ttT' : Same T' TT := fun b o e => by show (match T' b with | some o => some o | none => T2 b) = some o; rw [e]
    have ttH : Same TT H2 := fun b o e => by
      have e' : (match T' b with | some o => some o | none => T2 b) = some o := e
      cases q : T' b with
      | some u => rw [q] at e'; cases e'; exact x2.hh _ _ (th _ _ q)
      | none => rw [q] at e'; exact x2.th _ _ e'
    have tt2 : Same T2 TT := fun b o e => by
      show (match T' b with | some o => some o | none => T2 b) = some o
      cases q : T' b with
      | none => exact e
      | some u =>
        have := x2.hh _ _ (th _ _ q)
        rw [x2.th _ _ e] at this
        exact this.symm
    have ttD : TT D = none := by
      show (match T' D with | some o => some o | none => T2 D) = none
      rw [tD]
      exact tD2
    have ext1 : Ext T H1 TT H2 := ⟨hh.trans x2.hh, tt1.trans ttT', ttH, fun b hb => by
      have hb' : (match T' b with | some o => some o | none => T2 b) ≠ none := hb
      cases q : T' b with
      | some u => exact nw b (by rw [q]; intro z; cases z)
      | none =>
        rw [q] at hb'
        exact (x2.nw b hb').imp id hh.free⟩
    refine turn i d x TT H2 _ _ hd ext1 (Da.keep tt2 d x hx) (fun T3 H3 y x3 hy3 hp => ?_) (fun T3 H3 x3 hp => ?_)
    · have hD3 : H3 D = some (.lst ys) := x3.hh _ _ (x2.hh _ _ hD)
      have tD3 : T3 D = none := x3.out ttD (x2.hh _ _ hD)
      have lenY : ys.length ≤ i := by
        have h1 := hys.len
        have h2 : (((ds.take i).filter p).map f).length ≤ (ds.take i).length := by
          rw [List.length_map]
          exact List.length_filter_le _ _
        rw [List.length_take] at h2
        omega
      refine ⟨ys, hD3, by omega, T3, ys ++ [y], (tt1.trans ttT').trans x3.tt, same_upd x3.th tD3, fun b hb => ?_, tD3, ?_, upd_same, ?_⟩
      · rcases x3.nw b hb with z | z
        · exact ext1.nw b z
        · exact .inr (ext1.hh.free z)
      · intro b o e
        rw [upd_ne (ne_of_none e nD)]
        exact x3.hh _ _ (ext1.hh _ _ e)
      · rw [filter_snoc hd, hp]
        exact DaA.snoc (DaA.keep (ttT'.trans x3.tt) _ _ hys) hy3
    · have hD3 : H3 D = some (.lst ys) := x3.hh _ _ (x2.hh _ _ hD)
      have tD3 : T3 D = none := x3.out ttD (x2.hh _ _ hD)
      refine ⟨T3, ys, (tt1.trans ttT').trans x3.tt, x3.th, fun b hb => ?_, tD3, ext1.hh.trans x3.hh, hD3, ?_⟩
      · rcases x3.nw b hb with z | z
        · exact ext1.nw b z
        · exact .inr (ext1.hh.free z)
      · rw [filter_snoc hd, hp]
        rw [show (if false = true then [f d] else []) = ([] : List PyData) from if_neg Bool.false_ne_true, List.append_nil]
        exact DaA.keep (ttT'.trans x3.tt) _ _ hys
  · have ei : i = ds.length := by omega
    subst ei
    rw [List.take_length] at hys
    refine .inl ⟨wk.stop H hh, done (upd T' D (.lst ys)) H ys ⟨hh, tt1.trans (same_new tD), ?_, ?_⟩ upd_same (DaA.keep (same_new tD) _ _ hys)⟩
    · intro b o e
      by_cases q : b = D
      · subst q
        rw [upd_same] at e
        cases e
        exact hD
      · rw [upd_ne q] at e
        exact th _ _ e
    · intro b hb
      by_cases q : b = D
      · exact .inr (q ▸ nD)
      · rw [upd_ne q] at hb
        exact nw b hb
/-- all(q d for d in ds if p d), any(..) -/
def anyAll (go : Bool) (q : PyData → Bool) (ds : List PyData) : Bool := if go = true then ds.all q else ds.any q
theorem anyAll_go {go : Bool} {q : PyData → Bool} {ds : List PyData} (h : ∀ d ∈ ds, q d = go) : anyAll go q ds = go := by
  cases go with
  | true => exact (if_pos rfl).trans (List.all_eq_true.mpr h)
  | false =>
    refine (if_neg Bool.false_ne_true).trans ?_
    rw [List.any_eq_false]
    intro d hd
    rw [h d hd]
    exact Bool.false_ne_true
theorem anyAll_no {go : Bool} {q : PyData → Bool} {ds : List PyData} {d : PyData} (hd : d ∈ ds) (h : q d ≠ go) : anyAll go q ds = !go := by
  cases go with
  | true =>
    refine (if_pos rfl).trans ?_
    exact Bool.eq_false_iff.mpr fun z => h (List.all_eq_true.mp z d hd)
  | false =>
    refine (if_neg Bool.false_ne_true).trans ?_
    refine List.any_eq_true.mpr ⟨d, hd, ?_⟩
    cases e : q d with
    | true => rfl
    | false => exact absurd e h
theorem gw_dat {J : It} {go : Bool} {g : TG} {tt : TT} {te : TE} {vs : List Nat} {σ : L2.St} {T H1 : Hp} {Qd : V → Hp → Prop} {ds : List PyData} (p q : PyData → Bool)
    (sT : Same T H1) (wk : Gives J T H1 ds)
    (turn : ∀ (i : Nat) (d : PyData) (x : V) (T2 H2 : Hp) (R : V → Hp → Prop) (R0 : Hp → Prop), ds[i]? = some d → Ext T H1 T2 H2 → Da T2 d x →
      (∀ T3 H3, Ext T2 H2 T3 H3 → p d = true → R (.bl (q d)) H3) → (∀ T3 H3, Ext T2 H2 T3 H3 → p d = false → R0 H3) →
      g x (wipe σ vs) H2 fun σ2 H3 => wipe σ2 vs = wipe σ vs ∧ tt σ2 H3 fun b H4 => if b = true then te σ2 H4 R else R0 H4)
    (done : ∀ T' H', Ext T H1 T' H' → Qd (.bl (anyAll go q (ds.filter p))) H') :
    ∃ W : Nat → Nat → Hp → Prop, (∃ m, W 0 m H1) ∧ gWalk go J g tt te vs σ Qd W := by
  let Iv : Nat → Hp → Prop := fun i H => ∃ T', Ext T H1 T' H ∧ ∀ d ∈ (ds.take i).filter p, q d = go
  refine ⟨fun i m H => m = ds.length - i ∧ i ≤ ds.length ∧ Iv i H, ⟨ds.length, rfl, Nat.zero_le _, T, .refl sT, fun d h => absurd h List.not_mem_nil⟩, ?_⟩
  rintro i m H ⟨rfl, hi, T', x1, hall⟩
  by_cases hlt : i < ds.length
  · refine .inr ⟨wk.go i H hlt x1.hh, Iv (i + 1), fun H' h => ⟨ds.length - (i + 1), by omega, rfl, hlt, h⟩, fun x H2 hy => ?_⟩
    obtain ⟨d, T2, hd, x2, hx⟩ := wk.yl i x H H2 hlt hy x1.hh
    have ext1 : Ext T H1 T2 H2 := (Ext.more sT x1.hh).trans x2
    refine turn i d x T2 H2 _ _ hd ext1 hx (fun T3 H3 x3 hp => ⟨q d, rfl, ?_⟩) (fun T3 H3 x3 hp => ?_)
    · by_cases hq : q d = go
      · rw [if_pos hq]
        refine ⟨T3, ext1.trans x3, fun e he => ?_⟩
        rw [take_snocD hd, List.filter_append] at he
        rcases List.mem_append.mp he with he | he
        · exact hall e he
        · rw [List.mem_singleton.mp (List.mem_filter.mp he).1]
          exact hq
      · rw [if_neg hq]
        have := done T3 H3 (ext1.trans x3)
        rw [anyAll_no (List.mem_filter.mpr ⟨List.mem_of_getElem? hd, hp⟩) hq] at this
        exact this
    · refine ⟨T3, ext1.trans x3, fun e he => ?_⟩
      rw [take_snocD hd, List.filter_append] at he
      rcases List.mem_append.mp he with he | he
      · exact hall e he
      · have e1 := List.mem_filter.mp he
        rw [List.mem_singleton.mp e1.1, hp] at e1
        cases e1.2
  · have ei : i = ds.length := by omega
    subst ei
    rw [List.take_length] at hall
    refine .inl ⟨wk.stop H x1.hh, ?_⟩
    have := done T' H x1
    rw [anyAll_go hall] at this
    exact this
end Zc
end

section
set_option maxHeartbeats 2000000
/-! Walks over data that are written in a known way. -/
namespace Zc
open PySem PySem.Spec PyProof.Rows L2
/-- all(q d for d in ds), any(..), of items of any kind -/
def anyAllA {α : Type} (go : Bool) (q : α → Bool) (ds : List α) : Bool := if go = true then ds.all q else ds.any q
theorem anyAllA_go {α : Type} {go : Bool} {q : α → Bool} {ds : List α} (h : ∀ d ∈ ds, q d = go) : anyAllA go q ds = go := by
  cases go with
  | true => exact (if_pos rfl).trans (List.all_eq_true.mpr h)
  | false =>
    refine (if_neg Bool.false_ne_true).trans ?_
    rw [List.any_eq_false]
    intro d hd
    rw [h d hd]
    exact Bool.false_ne_true
theorem anyAllA_no {α : Type} {go : Bool} {q : α → Bool} {ds : List α} {d : α} (hd : d ∈ ds) (h : q d ≠ go) : anyAllA go q ds = !go := by
  cases go with
  | true =>
    refine (if_pos rfl).trans ?_
    exact Bool.eq_false_iff.mpr fun z => h (List.all_eq_true.mp z d hd)
  | false =>
    refine (if_neg Bool.false_ne_true).trans ?_
    refine List.any_eq_true.mpr ⟨d, hd, ?_⟩
    cases e : q d with
    | true => rfl
    | false => exact absurd e h
theorem take_snocA {α : Type} {ds : List α} {i : Nat} {d : α} (h : ds[i]? = some d) : ds.take (i + 1) = ds.take i ++ [d] := by
  rw [List.take_add_one, h]
  rfl
theorem filter_snocA {α : Type} {p : α → Bool} {f : α → PyData} {ds : List α} {i : Nat} {d : α} (h : ds[i]? = some d) :
    ((ds.take (i + 1)).filter p).map f = ((ds.take i).filter p).map f ++ (if p d = true then [f d] else []) := by
  rw [take_snocA h, List.filter_append, List.map_append]
  congr 1
  cases hp : p d with
  | true => rw [List.filter_cons_of_pos hp]; rfl
  | false => rw [List.filter_cons_of_neg (by rw [hp]; exact Bool.false_ne_true)]; rfl
theorem filter_yes {α : Type} (ds : List α) : ds.filter (fun _ => true) = ds := List.filter_eq_self.mpr fun _ _ => rfl
/-- [f d for d in ds if p d], the items written as data by enc: the items ds, one way or another; go: what the walked thing hands out -/
theorem lc_enc {α : Type} {J : It} {g : TG} {tt : TT} {te : TE} {vs : List Nat} {σ : L2.St} {T H1 : Hp} {D : Addr} {Qd : Hp → Prop} {ds : List α} (enc : α → PyData) (p : α → Bool) (f : α → PyData)
    (sT : Same T H1) (nD : H1 D = none) (hn : ds.length < sizeLine)
    (wk : Gives J T H1 (ds.map enc))
    (turn : ∀ (i : Nat) (d : α) (x : V) (T2 H2 : Hp) (R : V → Hp → Prop) (R0 : Hp → Prop), ds[i]? = some d → Ext T H1 T2 H2 → Da T2 (enc d) x →
      (∀ T3 H3 y, Ext T2 H2 T3 H3 → Da T3 (f d) y → p d = true → R y H3) → (∀ T3 H3, Ext T2 H2 T3 H3 → p d = false → R0 H3) →
      g x (wipe σ vs) H2 fun σ2 H3 => wipe σ2 vs = wipe σ vs ∧ tt σ2 H3 fun b H4 => if b = true then te σ2 H4 R else R0 H4)
    (done : ∀ T' H' ys, Ext T H1 T' H' → T' D = some (.lst ys) → DaA T' ((ds.filter p).map f) ys → Qd H') :
    ∃ W : Nat → Nat → Hp → Prop, (∃ m, W 0 m (upd H1 D (.lst []))) ∧ ∀ i m H, W i m H →
      (J.stop i H ∧ Qd H) ∨ (J.go i H ∧ ∃ Nx : Hp → Prop, (∀ H', Nx H' → ∃ m', m' < m ∧ W (i + 1) m' H') ∧ ∀ x H', J.yld i H x H' → g x (wipe σ vs) H' fun σ2 H2 => wipe σ2 vs = wipe σ vs ∧ tt σ2 H2 fun b H3 =>
        if b = true then te σ2 H3 fun y H4 => ∃ acc, H4 D = some (.lst acc) ∧ acc.length < sizeLine ∧ Nx (upd H4 D (.lst (acc ++ [y]))) else Nx H3) := by
  -- T': what stands beside the list
  let Iv : Nat → Hp → Prop := fun i H => ∃ T' ys, Same T T' ∧ Same T' H ∧ (∀ b, T' b ≠ none → T b ≠ none ∨ H1 b = none) ∧ T' D = none ∧ Same H1 H ∧ H D = some (.lst ys) ∧ DaA T' (((ds.take i).filter p).map f) ys
  refine ⟨fun i m H => m = ds.length - i ∧ i ≤ ds.length ∧ Iv i H, ⟨ds.length, rfl, Nat.zero_le _, T, [], Same.refl T, sT.trans (same_new nD), fun b h => .inl h, sT.free nD, same_new nD, upd_same, rfl⟩, ?_⟩
  rintro i m H ⟨rfl, hi, T', ys, tt1, th, nw, tD, hh, hD, hys⟩
  by_cases hlt : i < ds.length
  · refine .inr ⟨wk.go i H (by rw [List.length_map]; exact hlt) hh, Iv (i + 1), fun H' h => ⟨ds.length - (i + 1), by omega, rfl, hlt, h⟩, fun x H2 hy => ?_⟩
    obtain ⟨d0, T2, hd0, x2, hx⟩ := wk.yl i x H H2 (by rw [List.length_map]; exact hlt) hy hh
    obtain ⟨d, hd, rfl⟩ : ∃ d, ds[i]? = some d ∧ d0 = enc d := by
      rw [List.getElem?_map, List.getElem?_eq_getElem hlt] at hd0
      exact ⟨ds[i], List.getElem?_eq_getElem hlt, (Option.some.inj hd0).symm⟩
    -- T2 beside T'
    have tD2 : T2 D = none := x2.out (sT.free nD) hD
    let TT : Hp := fun b => match T' b with
      | some o => some o
      | none => T2 b
    have ttT' : Same T' TT := fun b o e => by show (match T' b with | some o => some o | none => T2 b) = some o; rw [e]
    have ttH : Same TT H2 := fun b o e => by
      have e' : (match T' b with | some o => some o | none => T2 b) = some o := e
      cases q : T' b with
      | some u => rw [q] at e'; cases e'; exact x2.hh _ _ (th _ _ q)
      | none => rw [q] at e'; exact x2.th _ _ e'
    have tt2 : Same T2 TT := fun b o e => by
      show (match T' b with | some o => some o | none => T2 b) = some o
      cases q : T' b with
      | none => exact e
      | some u =>
        have := x2.hh _ _ (th _ _ q)
        rw [x2.th _ _ e] at this
        exact this.symm
    have ttD : TT D = none := by
      show (match T' D with | some o => some o | none => T2 D) = none
      rw [tD]
      exact tD2
    have ext1 : Ext T H1 TT H2 := ⟨hh.trans x2.hh, tt1.trans ttT', ttH, fun b hb => by
      have hb' : (match T' b with | some o => some o | none => T2 b) ≠ none := hb
      cases q : T' b with
      | some u => exact nw b (by rw [q]; intro z; cases z)
      | none =>
        rw [q] at hb'
        exact (x2.nw b hb').imp id hh.free⟩
    refine turn i d x TT H2 _ _ hd ext1 (Da.keep tt2 (enc d) x hx) (fun T3 H3 y x3 hy3 hp => ?_) (fun T3 H3 x3 hp => ?_)
    · have hD3 : H3 D = some (.lst ys) := x3.hh _ _ (x2.hh _ _ hD)
      have tD3 : T3 D = none := x3.out ttD (x2.hh _ _ hD)
      have lenY : ys.length ≤ i := by
        have h1 := hys.len
        have h2 : (((ds.take i).filter p).map f).length ≤ (ds.take i).length := by
          rw [List.length_map]
          exact List.length_filter_le _ _
        rw [List.length_take] at h2
        omega
      refine ⟨ys, hD3, by omega, T3, ys ++ [y], (tt1.trans ttT').trans x3.tt, same_upd x3.th tD3, fun b hb => ?_, tD3, ?_, upd_same, ?_⟩
      · rcases x3.nw b hb with z | z
        · exact ext1.nw b z
        · exact .inr (ext1.hh.free z)
      · intro b o e
        rw [upd_ne (ne_of_none e nD)]
        exact x3.hh _ _ (ext1.hh _ _ e)
      · rw [filter_snocA hd, hp]
        exact DaA.snoc (DaA.keep (ttT'.trans x3.tt) _ _ hys) hy3
    · have hD3 : H3 D = some (.lst ys) := x3.hh _ _ (x2.hh _ _ hD)
      have tD3 : T3 D = none := x3.out ttD (x2.hh _ _ hD)
      refine ⟨T3, ys, (tt1.trans ttT').trans x3.tt, x3.th, fun b hb => ?_, tD3, ext1.hh.trans x3.hh, hD3, ?_⟩
      · rcases x3.nw b hb with z | z
        · exact ext1.nw b z
        · exact .inr (ext1.hh.free z)
      · rw [filter_snocA hd, hp]
        rw [show (if false = true then [f d] else []) = ([] : List PyData) from if_neg Bool.false_ne_true, List.append_nil]
        exact DaA.keep (ttT'.trans x3.tt) _ _ hys
  · have ei : i = ds.length := by omega
    subst ei
    rw [List.take_length] at hys
    refine .inl ⟨by have := wk.stop H hh; rwa [List.length_map] at this, done (upd T' D (.lst ys)) H ys ⟨hh, tt1.trans (same_new tD), ?_, ?_⟩ upd_same (DaA.keep (same_new tD) _ _ hys)⟩
    · intro b o e
      by_cases q : b = D
      · subst q
        rw [upd_same] at e
        cases e
        exact hD
      · rw [upd_ne q] at e
        exact th _ _ e
    · intro b hb
      by_cases q : b = D
      · exact .inr (q ▸ nD)
      · rw [upd_ne q] at hb
        exact nw b hb
theorem gw_enc {α : Type} {J : It} {go : Bool} {g : TG} {tt : TT} {te : TE} {vs : List Nat} {σ : L2.St} {T H1 : Hp} {Qd : V → Hp → Prop} {ds : List α} (enc : α → PyData) (p q : α → Bool)
    (sT : Same T H1) (wk : Gives J T H1 (ds.map enc))
    (turn : ∀ (i : Nat) (d : α) (x : V) (T2 H2 : Hp) (R : V → Hp → Prop) (R0 : Hp → Prop), ds[i]? = some d → Ext T H1 T2 H2 → Da T2 (enc d) x →
      (∀ T3 H3, Ext T2 H2 T3 H3 → p d = true → R (.bl (q d)) H3) → (∀ T3 H3, Ext T2 H2 T3 H3 → p d = false → R0 H3) →
      g x (wipe σ vs) H2 fun σ2 H3 => wipe σ2 vs = wipe σ vs ∧ tt σ2 H3 fun b H4 => if b = true then te σ2 H4 R else R0 H4)
    (done : ∀ T' H', Ext T H1 T' H' → Qd (.bl (anyAllA go q (ds.filter p))) H') :
    ∃ W : Nat → Nat → Hp → Prop, (∃ m, W 0 m H1) ∧ gWalk go J g tt te vs σ Qd W := by
  let Iv : Nat → Hp → Prop := fun i H => ∃ T', Ext T H1 T' H ∧ ∀ d ∈ (ds.take i).filter p, q d = go
  refine ⟨fun i m H => m = ds.length - i ∧ i ≤ ds.length ∧ Iv i H, ⟨ds.length, rfl, Nat.zero_le _, T, .refl sT, fun d h => absurd h List.not_mem_nil⟩, ?_⟩
  rintro i m H ⟨rfl, hi, T', x1, hall⟩
  by_cases hlt : i < ds.length
  · refine .inr ⟨wk.go i H (by rw [List.length_map]; exact hlt) x1.hh, Iv (i + 1), fun H' h => ⟨ds.length - (i + 1), by omega, rfl, hlt, h⟩, fun x H2 hy => ?_⟩
    obtain ⟨d0, T2, hd0, x2, hx⟩ := wk.yl i x H H2 (by rw [List.length_map]; exact hlt) hy x1.hh
    obtain ⟨d, hd, rfl⟩ : ∃ d, ds[i]? = some d ∧ d0 = enc d := by
      rw [List.getElem?_map, List.getElem?_eq_getElem hlt] at hd0
      exact ⟨ds[i], List.getElem?_eq_getElem hlt, (Option.some.inj hd0).symm⟩
    have ext1 : Ext T H1 T2 H2 := (Ext.more sT x1.hh).trans x2
    refine turn i d x T2 H2 _ _ hd ext1 hx (fun T3 H3 x3 hp => ⟨q d, rfl, ?_⟩) (fun T3 H3 x3 hp => ?_)
    · by_cases hq : q d = go
      · rw [if_pos hq]
        refine ⟨T3, ext1.trans x3, fun e he => ?_⟩
        rw [take_snocA hd, List.filter_append] at he
        rcases List.mem_append.mp he with he | he
        · exact hall e he
        · rw [List.mem_singleton.mp (List.mem_filter.mp he).1]
          exact hq
      · rw [if_neg hq]
        have := done T3 H3 (ext1.trans x3)
        rw [anyAllA_no (List.mem_filter.mpr ⟨List.mem_of_getElem? hd, hp⟩) hq] at this
        exact this
    · refine ⟨T3, ext1.trans x3, fun e he => ?_⟩
      rw [take_snocA hd, List.filter_append] at he
      rcases List.mem_append.mp he with he | he
      · exact hall e he
      · have e1 := List.mem_filter.mp he
        rw [List.mem_singleton.mp e1.1, hp] at e1
        cases e1.2
  · have ei : i = ds.length := by omega
    subst ei
    rw [List.take_length] at hall
    refine .inl ⟨by have := wk.stop H x1.hh; rwa [List.length_map] at this, ?_⟩
    have := done T' H x1
    rw [anyAllA_go hall] at this
    exact this
end Zc
end

section
set_option maxHeartbeats 2000000
/-! Walks whose turns draw from the deal. -/
namespace Zc
open PySem PySem.Spec PyProof.Rows L2
theorem Deal.same {H H' : Hp} {d l : Addr} (h : Deal H d l) (s : Same H H') : Deal H' d l := by
  obtain ⟨xs, b, n, h1, h2, r⟩ := h
  exact ⟨xs, b, n, s _ _ h1, s _ _ h2, r⟩
theorem Deal.ne {H : Hp} {d l m : Addr} (h : Deal H d l) (n : H m = none) : m ≠ d ∧ m ≠ l := by
  obtain ⟨xs, b, _, h1, h2, _⟩ := h
  exact ⟨fun e => (by rw [e, h1] at n; cases n), fun e => (by rw [e, h2] at n; cases n)⟩
theorem Deal.upd {H : Hp} {d l m : Addr} {o : HO} (h : Deal H d l) (n1 : m ≠ d) (n2 : m ≠ l) : Deal (upd H m o) d l := by
  obtain ⟨xs, b, e0, e1, e2, r⟩ := h
  exact ⟨xs, b, e0, by rw [upd_ne (Ne.symm n1)]; exact e1, by rw [upd_ne (Ne.symm n2)]; exact e2, r⟩
/-- more stands; beside it the deal may have turned -/
structure ExD (d l : Addr) (T H T' H' : Hp) : Prop where
  hh : But d l H H'
  tt : Same T T'
  th : Same T' H'
  nw : ∀ b, T' b ≠ none → T b ≠ none ∨ H b = none
section
variable {d l : Addr} {T H T1 H1 T2 H2 : Hp}
theorem Ext.toD (x : Ext T H T1 H1) : ExD d l T H T1 H1 := ⟨.of x.hh, x.tt, x.th, x.nw⟩
theorem ExD.refl (s : Same T H) : ExD d l T H T H := (Ext.refl s).toD
theorem But.free {H H' : Hp} (h : But d l H H') {b : Addr} (nd : b ≠ d) (nl : b ≠ l) (e : H' b = none) : H b = none := by
  cases q : H b with
  | none => rfl
  | some o =>
    rw [h b o nd nl q] at e
    cases e
theorem ExD.trans (hD : Deal H d l) (a : ExD d l T H T1 H1) (hD1 : Deal H1 d l) (b : ExD d l T1 H1 T2 H2) : ExD d l T H T2 H2 :=
  ⟨a.hh.trans b.hh, a.tt.trans b.tt, b.th, fun c h => (b.nw c h).elim (a.nw c) fun z => by
    obtain ⟨_, _, _, e1, e2, _⟩ := hD1
    refine .inr (a.hh.free (fun q => ?_) (fun q => ?_) z)
    · rw [q, e1] at z; cases z
    · rw [q, e2] at z; cases z⟩
/-- the deal has turned -/
theorem ExD.turn (s : Same T H) (td : T d = none) (tl : T l = none) (h : But d l H H1) : ExD d l T H T H1 :=
  ⟨h, Same.refl T, fun b o e => h b o (fun q => by rw [q, td] at e; cases e) (fun q => by rw [q, tl] at e; cases e) (s _ _ e), fun b q => .inl q⟩
theorem ExD.out {b : Addr} {o : HO} (x : ExD d l T H T1 H1) (n : T b = none) (h : H b = some o) : T1 b = none := by
  cases q : T1 b with
  | none => rfl
  | some u =>
    rcases x.nw b (by rw [q]; intro z; cases z) with z | z
    · exact absurd n z
    · rw [h] at z
      cases z
end
/-- what is walked hands out these data, whatever happens beside T -/
structure GivT (J : It) (T : Hp) (ds : List PyData) : Prop where
  go : ∀ (i : Nat) (H' : Hp), i < ds.length → Same T H' → J.go i H'
  stop : ∀ H', Same T H' → J.stop ds.length H'
  yl : ∀ (i : Nat) (x : V) (H' H2 : Hp), i < ds.length → J.yld i H' x H2 → Same T H' → H2 = H' ∧ ∃ e, ds[i]? = some e ∧ Da T e x
theorem givT_list {K : PySem.W.Frag} {T : Hp} {a : Addr} {xs : List V} {ds : List PyData} (e : T a = some (.lst xs)) (h : DaA T ds xs) : GivT (Itl K a) T ds where
  go := fun i H' hi s' => by
    have hx : i < xs.length := by rw [h.len]; exact hi
    exact ⟨xs, xs[i], .inl (.inl (s' _ _ e)), List.getElem?_eq_getElem hx⟩
  stop := fun H' s' => ⟨xs, .inl (.inl (s' _ _ e)), by rw [h.len]; exact Nat.le_refl _⟩
  yl := fun i x H' H2 _ y s' => by
    obtain ⟨rfl, y⟩ := y
    exact ⟨rfl, h.get (y xs (.inl (.inl (s' _ _ e))))⟩
theorem givT_tup {K : PySem.W.Frag} {T : Hp} {a : Addr} {xs : List V} {ds : List PyData} (e : T a = some (.tup xs)) (h : DaA T ds xs) : GivT (Itt K a) T ds where
  go := fun i H' hi s' => by
    have hx : i < xs.length := by rw [h.len]; exact hi
    exact ⟨xs, xs[i], .inl (.inl (s' _ _ e)), List.getElem?_eq_getElem hx⟩
  stop := fun H' s' => ⟨xs, .inl (.inl (s' _ _ e)), by rw [h.len]; exact Nat.le_refl _⟩
  yl := fun i x H' H2 _ y s' => by
    obtain ⟨rfl, y⟩ := y
    exact ⟨rfl, h.get (y xs (.inl (.inl (s' _ _ e))))⟩
theorem givT_range {T : Hp} {lo : Int} {n : Nat} : GivT (Itr lo n) T ((List.range n).map fun (i : Nat) => PyData.int (lo + i)) where
  go := fun i H' hi s' => by
    rw [List.length_map, List.length_range] at hi
    exact hi
  stop := fun H' s' => by
    show n ≤ _
    rw [List.length_map, List.length_range]
    exact Nat.le_refl _
  yl := fun i x H' H2 hi y s' => by
    obtain ⟨rfl, rfl⟩ := y
    rw [List.length_map, List.length_range] at hi
    refine ⟨rfl, .int (lo + i), ?_, rfl⟩
    rw [List.getElem?_map, List.getElem?_range hi]
    rfl
/-- a comprehension whose element, or test, draws; Pi: what holds of the items so far -/
theorem lc_draw {J : It} {g : TG} {tt : TT} {te : TE} {vs : List Nat} {σ : L2.St} {d l : Addr} {T H1 : Hp} {D : Addr} {Qd : Hp → Prop} {ds : List PyData} (Pi : Nat → List PyData → Prop)
    (sT : Same T H1) (td : T d = none) (tl : T l = none) (hD : Deal H1 d l) (nD : H1 D = none) (hn : ds.length < sizeLine) (wk : GivT J T ds) (p0 : Pi 0 []) 
    (turn : ∀ (i : Nat) (e0 : PyData) (x : V) (T2 H2 : Hp) (es : List PyData) (R : V → Hp → Prop) (R0 : Hp → Prop), ds[i]? = some e0 → i < ds.length → Da T2 e0 x → ExD d l T H1 T2 H2 → T2 d = none → T2 l = none → Deal H2 d l → Pi i es →
      (∀ T3 H3 y e, ExD d l T2 H2 T3 H3 → Deal H3 d l → Da T3 e y → Pi (i + 1) (es ++ [e]) → R y H3) → (∀ T3 H3, ExD d l T2 H2 T3 H3 → Deal H3 d l → Pi (i + 1) es → R0 H3) →
      g x (wipe σ vs) H2 fun σ2 H3 => wipe σ2 vs = wipe σ vs ∧ tt σ2 H3 fun b H4 => if b = true then te σ2 H4 R else R0 H4)
    (done : ∀ T' H' ys es, ExD d l T H1 T' H' → Deal H' d l → T' D = some (.lst ys) → DaA T' es ys → Pi ds.length es → Qd H') :
    ∃ W : Nat → Nat → Hp → Prop, (∃ m, W 0 m (upd H1 D (.lst []))) ∧ ∀ i m H, W i m H →
      (J.stop i H ∧ Qd H) ∨ (J.go i H ∧ ∃ Nx : Hp → Prop, (∀ H', Nx H' → ∃ m', m' < m ∧ W (i + 1) m' H') ∧ ∀ x H', J.yld i H x H' → g x (wipe σ vs) H' fun σ2 H2 => wipe σ2 vs = wipe σ vs ∧ tt σ2 H2 fun b H3 =>
        if b = true then te σ2 H3 fun y H4 => ∃ acc, H4 D = some (.lst acc) ∧ acc.length < sizeLine ∧ Nx (upd H4 D (.lst (acc ++ [y]))) else Nx H3) := by
  obtain ⟨nDd, nDl⟩ := hD.ne nD
  let Iv : Nat → Hp → Prop := fun i H => ∃ T' ys es, ExD d l T H1 T' H ∧ Deal H d l ∧ T' D = none ∧ H D = some (.lst ys) ∧ DaA T' es ys ∧ es.length ≤ i ∧ Pi i es
  refine ⟨fun i m H => m = ds.length - i ∧ i ≤ ds.length ∧ Iv i H, ⟨ds.length, rfl, Nat.zero_le _, T, [], [], ⟨.of (same_new nD), Same.refl T, sT.trans (same_new nD), fun b h => .inl h⟩, hD.upd nDd nDl, sT.free nD, upd_same, rfl, Nat.le_refl _, p0⟩, ?_⟩
  rintro i m H ⟨rfl, hi, T', ys, es, x1, hD', tD, hLD, hys, hle, hPi⟩
  have sT' : Same T H := x1.tt.trans x1.th
  by_cases hlt : i < ds.length
  · refine .inr ⟨wk.go i H hlt sT', Iv (i + 1), fun H' h => ⟨ds.length - (i + 1), by omega, rfl, hlt, h⟩, fun x H2 hy => ?_⟩
    obtain ⟨rfl, e0, he0, hx⟩ := wk.yl i x H H2 hlt hy sT'
    have td' : T' d = none := by
      obtain ⟨_, _, _, e1, e2, _⟩ := hD
      exact x1.out td e1
    have tl' : T' l = none := by
      obtain ⟨_, _, _, e1, e2, _⟩ := hD
      exact x1.out tl e2
    refine turn i e0 x T' H2 es _ _ he0 hlt (Da.keep x1.tt _ _ hx) x1 td' tl' hD' hPi (fun T3 H3 y e x3 hD3 hy3 hP3 => ?_) (fun T3 H3 x3 hD3 hP3 => ?_)
    · have h3 : H3 D = some (.lst ys) := x3.hh _ _ nDd nDl hLD
      have tD3 : T3 D = none := x3.out tD hLD
      have xx := ExD.trans hD x1 hD' x3
      refine ⟨ys, h3, by rw [hys.len]; omega, T3, ys ++ [y], es ++ [e], ⟨?_, xx.tt, same_upd xx.th tD3, xx.nw⟩, hD3.upd nDd nDl, tD3, upd_same, (hys.keep x3.tt).snoc hy3, by rw [List.length_append, List.length_singleton]; omega, hP3⟩
      intro b o n1 n2 eb
      rw [upd_ne (ne_of_none eb nD)]
      exact xx.hh b o n1 n2 eb
    · exact ⟨T3, ys, es, ExD.trans hD x1 hD' x3, hD3, x3.out tD hLD, x3.hh _ _ nDd nDl hLD, hys.keep x3.tt, by omega, hP3⟩
  · have ei : i = ds.length := by omega
    subst ei
    refine .inl ⟨wk.stop H sT', done (upd T' D (.lst ys)) H ys es ⟨x1.hh, x1.tt.trans (same_new tD), fun b o e => ?_, fun b hb => ?_⟩ hD' upd_same (hys.keep (same_new tD)) hPi⟩
    · by_cases q : b = D
      · subst q
        rw [upd_same] at e
        cases e
        exact hLD
      · rw [upd_ne q] at e
        exact x1.th _ _ e
    · by_cases q : b = D
      · exact .inr (q ▸ nD)
      · rw [upd_ne q] at hb
        exact x1.nw b hb
end Zc
end

section
set_option maxHeartbeats 400000
/-! The mathematics of closing pairs by rounds. -/
namespace Zc
/-- a row of at most t pairs leads from x to h -/
inductive PathLe (ps : List (Nat × Nat)) : Nat → Nat → Nat → Prop
  | refl (t x : Nat) : PathLe ps t x x
  | step {t x l h : Nat} : PathLe ps t x l → (l, h) ∈ ps → PathLe ps (t + 1) x h
inductive Reach (ps : List (Nat × Nat)) : Nat → Nat → Prop
  | refl (x : Nat) : Reach ps x x
  | step {x l h : Nat} : Reach ps x l → (l, h) ∈ ps → Reach ps x h
variable {ps : List (Nat × Nat)} {n : Nat}
theorem PathLe.up {t x h : Nat} (p : PathLe ps t x h) : PathLe ps (t + 1) x h := by
  induction p with
  | refl t x => exact .refl _ _
  | step _ hm ih => exact .step ih hm
theorem PathLe.mono {t u x h : Nat} (p : PathLe ps t x h) (le : t ≤ u) : PathLe ps u x h := by
  obtain ⟨k, rfl⟩ := Nat.exists_eq_add_of_le le
  induction k with
  | zero => exact p
  | succ k ih => exact (ih (Nat.le_add_right _ _)).up
theorem PathLe.zero {x h : Nat} (p : PathLe ps 0 x h) : x = h := by cases p; rfl
theorem PathLe.reach {t x h : Nat} (p : PathLe ps t x h) : Reach ps x h := by
  induction p with
  | refl t x => exact .refl _
  | step _ hm ih => exact .step ih hm
theorem Reach.trans {x y z : Nat} (a : Reach ps x y) (b : Reach ps y z) : Reach ps x z := by
  induction b with
  | refl => exact a
  | step _ hm ih => exact .step ih hm
/-- where pairs lead upwards -/
theorem Reach.path (r : Nat → Nat) (hr : ∀ p ∈ ps, p.1 = p.2 ∨ r p.1 < r p.2) {x h : Nat} (a : Reach ps x h) : PathLe ps (r h) x h := by
  induction a with
  | refl => exact .refl _ _
  | @step l h _ hm ih =>
    rcases hr _ hm with e | e
    · have e' : l = h := e
      rw [← e']
      exact ih
    · exact (PathLe.step ih hm).mono e
/-- lots that grow -/
structure Closing (n : Nat) (ps : List (Nat × Nat)) (B : List (List Nat)) : Prop where
  len : B.length = n
  lot : ∀ (i : Nat) (b : List Nat), B[i]? = some b → b.Pairwise (· < ·) ∧ (∀ x ∈ b, x < n) ∧ i ∈ b ∧ ∀ x ∈ b, Reach ps x i
def Grows (B B' : List (List Nat)) : Prop := ∀ (i : Nat) (b : List Nat), B[i]? = some b → ∃ b', B'[i]? = some b' ∧ ∀ x ∈ b, x ∈ b'
theorem Grows.refl (B : List (List Nat)) : Grows B B := fun i b h => ⟨b, h, fun _ z => z⟩
theorem lt_of_le_nodup : ∀ {l : List Nat}, l.Pairwise (· ≤ ·) → l.Nodup → l.Pairwise (· < ·)
  | [], _, _ => .nil
  | a :: r, h, nd => by
    cases h with
    | cons h1 h2 =>
      have nd' := List.nodup_cons.mp nd
      refine .cons (fun b hb => ?_) (lt_of_le_nodup h2 nd'.2)
      have := h1 b hb
      exact Nat.lt_of_le_of_ne this fun e => nd'.1 (e ▸ hb)
theorem nodup_of_lt : ∀ {l : List Nat}, l.Pairwise (· < ·) → l.Nodup
  | [], _ => .nil
  | a :: r, h => by
    cases h with
    | cons h1 h2 => exact List.nodup_cons.mpr ⟨fun m => Nat.lt_irrefl _ (h1 a m), nodup_of_lt h2⟩
theorem Closing.step {B : List (List Nat)} {l h : Nat} {bl bh b' : List Nat} (C : Closing n ps B) (hl : B[l]? = some bl) (hh : B[h]? = some bh) (hm : (l, h) ∈ ps)
    (perm : b'.Perm (bh ++ bl.filter fun x => !decide (x ∈ bh))) (srt : b'.Pairwise (· ≤ ·)) : Closing n ps (B.set h b') ∧ Grows B (B.set h b') ∧ ∀ x ∈ bl, x ∈ b' := by
  have hlt : h < B.length := (List.getElem?_eq_some_iff.mp hh).1
  have Cl := C.lot l bl hl
  have Ch := C.lot h bh hh
  have mem : ∀ x, x ∈ b' ↔ x ∈ bh ∨ (x ∈ bl ∧ x ∉ bh) := fun x => by
    rw [perm.mem_iff, List.mem_append, List.mem_filter]
    simp
  have nd : b'.Nodup := by
    rw [perm.nodup_iff, List.nodup_append]
    refine ⟨nodup_of_lt Ch.1, (nodup_of_lt Cl.1).filter _, fun a ha b hb e => ?_⟩
    have := (List.mem_filter.mp hb).2
    rw [← e] at this
    simp [ha] at this
  have all : ∀ x ∈ bl, x ∈ b' := fun x hx => by
    by_cases e : x ∈ bh
    · exact (mem x).mpr (.inl e)
    · exact (mem x).mpr (.inr ⟨hx, e⟩)
  refine ⟨⟨by rw [List.length_set]; exact C.len, fun i b hb => ?_⟩, fun i b hb => ?_, all⟩
  · by_cases e : h = i
    · subst e
      rw [List.getElem?_set_self hlt] at hb
      cases hb
      refine ⟨lt_of_le_nodup srt nd, fun x hx => ?_, (mem h).mpr (.inl Ch.2.2.1), fun x hx => ?_⟩
      · rcases (mem x).mp hx with z | z
        · exact Ch.2.1 x z
        · exact Cl.2.1 x z.1
      · rcases (mem x).mp hx with z | z
        · exact Ch.2.2.2 x z
        · exact .step (Cl.2.2.2 x z.1) hm
    · rw [List.getElem?_set_ne e] at hb
      exact C.lot i b hb
  · by_cases e : h = i
    · subst e
      rw [hh] at hb
      cases hb
      exact ⟨b', List.getElem?_set_self hlt, fun x hx => (mem x).mpr (.inl hx)⟩
    · exact ⟨b, by rw [List.getElem?_set_ne e]; exact hb, fun _ z => z⟩
/-- all rows of at most t pairs are told -/
def Full (n : Nat) (ps : List (Nat × Nat)) (t : Nat) (B : List (List Nat)) : Prop := ∀ (x h : Nat) (b : List Nat), h < n → B[h]? = some b → PathLe ps t x h → x ∈ b
/-- .. and of one more, over the first j pairs -/
def Rnd (ps : List (Nat × Nat)) (t j : Nat) (B : List (List Nat)) : Prop := ∀ p ∈ ps.take j, ∀ (x : Nat) (b : List Nat), B[p.2]? = some b → PathLe ps t x p.1 → x ∈ b
theorem grow_mem {B B' : List (List Nat)} (g : Grows B B') (C : B'.length = B.length) {i : Nat} {b' : List Nat} (h : B'[i]? = some b') : ∃ b, B[i]? = some b ∧ ∀ x ∈ b, x ∈ b' := by
  have hi : i < B.length := by rw [← C]; exact (List.getElem?_eq_some_iff.mp h).1
  obtain ⟨c, hc, hs⟩ := g i B[i] (List.getElem?_eq_getElem hi)
  rw [h] at hc
  cases hc
  exact ⟨_, List.getElem?_eq_getElem hi, hs⟩
theorem Full.grow {B B' : List (List Nat)} {t : Nat} (f : Full n ps t B) (g : Grows B B') (e : B'.length = B.length) : Full n ps t B' := fun x h b hn hb p => by
  obtain ⟨c, hc, hs⟩ := grow_mem g e hb
  exact hs x (f x h c hn hc p)
theorem Rnd.next {B B' : List (List Nat)} {t j l h : Nat} {bl b' : List Nat} (r : Rnd ps t j B) (f : Full n ps t B) (g : Grows B B') (e : B'.length = B.length) (hj : ps[j]? = some (l, h)) (hln : l < n)
    (hl : B[l]? = some bl) (hb' : B'[h]? = some b') (all : ∀ x ∈ bl, x ∈ b') : Rnd ps t (j + 1) B' := fun p hp x b hb pa => by
  rw [List.take_add_one, hj] at hp
  rcases List.mem_append.mp hp with hp | hp
  · obtain ⟨c, hc, hs⟩ := grow_mem g e hb
    exact hs x (r p hp x c hc pa)
  · have : p = (l, h) := by simpa using hp
    subst this
    have hb2 : B'[h]? = some b := hb
    rw [hb'] at hb2
    cases hb2
    exact all x (f x l bl hln hl pa)
theorem Full.next {B : List (List Nat)} {t : Nat} (C : Closing n ps B) (r : Rnd ps t ps.length B) : Full n ps (t + 1) B := fun x h b hn hb p => by
  rw [Rnd, List.take_length] at r
  cases p with
  | refl => exact (C.lot _ b hb).2.2.1
  | step q hm => exact r _ hm x b hb q
theorem Full.zero {B : List (List Nat)} (C : Closing n ps B) : Full n ps 0 B := fun x h b hn hb p => by
  rw [p.zero]
  exact (C.lot h b hb).2.2.1
/-- the order that comes of it -/
structure OrdOk (n : Nat) (O : List (List Nat)) : Prop where
  len : O.length = n
  asc : ∀ (i : Nat) (b : List Nat), O[i]? = some b → b.Pairwise (· < ·)
  lt : ∀ (i : Nat) (b : List Nat), O[i]? = some b → ∀ x ∈ b, x < n
  own : ∀ (i : Nat) (b : List Nat), O[i]? = some b → i ∈ b
theorem Closing.ok {B : List (List Nat)} (C : Closing n ps B) : OrdOk n B := ⟨C.len, fun i b h => (C.lot i b h).1, fun i b h => (C.lot i b h).2.1, fun i b h => (C.lot i b h).2.2.1⟩
def OrdTr (O : List (List Nat)) : Prop := ∀ (i : Nat) (b : List Nat) (j : Nat) (c : List Nat), O[i]? = some b → j ∈ b → O[j]? = some c → ∀ x ∈ c, x ∈ b
theorem ord_trans {O : List (List Nat)} (C : Closing n ps O) (f : Full n ps n O) (r : Nat → Nat) (hr : ∀ p ∈ ps, p.1 = p.2 ∨ r p.1 < r p.2) (hn : ∀ i, i < n → r i < n) : OrdTr O := fun i b j c hb hj hc x hx => by
  have hi : i < n := by rw [← C.len]; exact (List.getElem?_eq_some_iff.mp hb).1
  have ra : Reach ps x i := ((C.lot j c hc).2.2.2 x hx).trans ((C.lot i b hb).2.2.2 j hj)
  exact f x i b hi hb ((ra.path r hr).mono (Nat.le_of_lt (hn i hi)))
/-- the place of a value in a list -/
def idx (row : List Nat) (x : Nat) : Nat := match row with
  | [] => 0
  | a :: r => if a = x then 0 else idx r x + 1
theorem idx_at : ∀ {row : List Nat}, row.Nodup → ∀ {i x : Nat}, row[i]? = some x → idx row x = i
  | [], _, i, x, h => by cases h
  | a :: r, nd, 0, x, h => by
    cases h
    unfold idx
    rw [if_pos rfl]
  | a :: r, nd, i + 1, x, h => by
    have nd' := List.nodup_cons.mp nd
    have h' : r[i]? = some x := h
    unfold idx
    have ne : ¬ a = x := fun e => by
      subst e
      exact nd'.1 (List.mem_of_getElem? h')
    rw [if_neg ne, idx_at nd'.2 h']
end Zc
end

section
set_option maxHeartbeats 4000000
/-! tuple * int, the int 1 or more -/
namespace Zc
open PySem PySem.Spec PyProof.Rows L2
theorem mul_one_same (l : Addr) (items : Array Value) (n : Nat) (u : Tok) :
    Meets (Builtin.«tuple.__mul__» ⟨[.ref l, .int 1 u], []⟩) (fun _ R s => (∃ dd sl, s.heap.get? l = some { cls := .type "tuple", dict := dd, data := .seq items n, slots := sl }) ∧ R (.ok (.ret (Value.ref l))) s) :=
  .of_wp fun prog w A R s h => by
    obtain ⟨hp, g, d, tk, os⟩ := s
    obtain ⟨⟨dd, sl, hl⟩, h⟩ := h
    have f1 := AutoSeq1.idx_int
    wp_walk using wpAny_loadPart' hl
    repeat (first
      | (refine wpAny_ite_false (by decide) ?_; wp_walk using wpAny_loadPart' hl)
      | (refine wpAny_ite_true (by simp) ?_; wp_walk using wpAny_loadPart' hl))
    exact ⟨_, rfl, h⟩
/-- t * k, k from 1 on -/
def rRepA (K : PySem.W.Frag) : R2 := fun x y H Q => ∃ l k xs, x = .ref l ∧ y = .int k ∧ SqT K H l xs ∧ xs ≠ [] ∧ 1 ≤ k ∧ k ≤ 1000 ∧ xs.length ≤ 1000 ∧ (k = 1 → Q (.ref l) H) ∧ (k ≠ 1 → ∀ p, H p = none → Q (.ref p) (upd H p (.tup (List.replicate k.toNat xs).flatten)))
theorem op_repA {X : Cx} : OpR X (binaryOp .Mult) (rRepA X.K) := by
  intro pins s σ H x y v u Q I rx ry h
  obtain ⟨l, k, xs, rfl, rfl, hT, hne, h1, h2, hz, q1, q2⟩ := h
  by_cases e : k = 1
  · subst e
    cases rx
    obtain ⟨t, rfl⟩ := ry
    obtain ⟨its, r, hit, hs⟩ := I.tuple hT
    obtain ⟨⟨cls, dd, data, sl⟩, ho, hc, n, hd⟩ := id hit
    simp only at hc hd
    subst hc hd
    exact wpAny_binaryOp_repeat_ref (T := "tuple") (U := "int") (by decide) ⟨_, ho, rfl⟩ (fun s' => typeIs_int s' 1 t) noFill_tuple_mul F.fills_int_mul F.slot_int_rmul repeat_tuple F.slot_int_index.lookup
      (call_meets F.slot_int_rmul (typeIs_int s 1 t) F.entry_int_rmul (F.args_int_rmul_2 _ _) (int_rmul_tuple 1 t l its.toArray n dd sl)
        ⟨ho, rfl, ⟨_, ho, rfl⟩, call_meets F.slot_tuple_mul ⟨_, ho, rfl⟩ F.entry_tuple_mul (F.args_tuple_mul_2 _ _) (mul_one_same l its.toArray n t) ⟨⟨dd, sl, ho⟩, ⟨.ref l, H, I, rfl, q1 rfl⟩⟩⟩)
  · exact op_repT pins s σ H _ _ v u Q I rx ry ⟨l, k, xs, rfl, rfl, hT, hne, by omega, h2, hz, q2 e⟩
end Zc
end

section
set_option maxHeartbeats 2000000
/-! Readings of sequences' rules, over what stands. -/
namespace Zc
open PySem PySem.Spec PyProof.Rows L2
section
variable {K : PySem.W.Frag} {T H : Hp} {Q : VK}
theorem tup_da {xs : List V} (hz : xs.length ≤ sizeLine) (s : Same T H) (h : ∀ m T' H', Ext T H T' H' → T' m = some (.tup xs) → Q (.ref m) H') :
    xs.length ≤ sizeLine ∧ ∀ p, H p = none → Q (.ref p) (upd H p (.tup xs)) := ⟨hz, fun p np => h p _ _ (Ext.new s np) upd_same⟩
theorem lst_da {xs : List V} (hz : xs.length ≤ sizeLine) (s : Same T H) (h : ∀ m T' H', Ext T H T' H' → T' m = some (.lst xs) → Q (.ref m) H') :
    xs.length ≤ sizeLine ∧ ∀ p, H p = none → Q (.ref p) (upd H p (.lst xs)) := ⟨hz, fun p np => h p _ _ (Ext.new s np) upd_same⟩
theorem sIx_le (n : Nat) (o : Option Int) (d : Nat) (hd : d ≤ n) : HT.sIx n d o ≤ n ∨ (∃ v, o = some v ∧ v < 0) := by
  cases o with
  | none => exact .inl hd
  | some v =>
    by_cases h : v < 0
    · exact .inr ⟨v, rfl, h⟩
    · refine .inl ?_
      show (if v < 0 then _ else _) ≤ n
      rw [if_neg h]
      exact Nat.min_le_right _ _
theorem cutV_all {xs : List V} {lo hi : Option Int} (h : HT.sIx xs.length 0 lo = 0 ∧ HT.sIx xs.length xs.length hi = xs.length) : cutV xs lo hi = xs := by
  unfold cutV
  rw [h.1, h.2, List.drop_zero, Nat.sub_zero, List.take_length]
theorem slA_da {a : Addr} {xs : List V} {lo hi : Option Int} (s : Same T H) (e : T a = some (.tup xs)) (h : ∀ b T' H', Ext T H T' H' → T' b = some (.tup (cutV xs lo hi)) → Q (.ref b) H') : rSlA K (.ref a) lo hi H Q :=
  ⟨a, xs, rfl, .inl (.inl (s _ _ e)), fun w => h a T H (.refl s) (by rw [cutV_all w]; exact e), fun _ p np => h p _ _ (Ext.new s np) upd_same⟩
theorem catA_da {a b : Addr} {xs ys : List V} (s : Same T H) (ea : T a = some (.tup xs)) (eb : T b = some (.tup ys)) (hz : xs.length + ys.length ≤ sizeLine) (h : ∀ c T' H', Ext T H T' H' → T' c = some (.tup (xs ++ ys)) → Q (.ref c) H') : rCatA K (.ref a) (.ref b) H Q :=
  ⟨a, b, xs, ys, rfl, rfl, .inl (.inl (s _ _ ea)), .inl (.inl (s _ _ eb)), hz, fun e => h b T H (.refl s) (by rw [e]; exact eb), fun _ e => h a T H (.refl s) (by rw [e, List.append_nil]; exact ea), fun _ _ p np => h p _ _ (Ext.new s np) upd_same⟩
theorem repA_da {a : Addr} {xs : List V} {k : Nat} (s : Same T H) (ea : T a = some (.tup xs)) (hx : xs ≠ []) (hz : xs.length ≤ 1000) (k1 : 1 ≤ k) (k2 : k ≤ 1000) (h : ∀ c T' H', Ext T H T' H' → T' c = some (.tup (List.replicate k xs).flatten) → Q (.ref c) H') : rRepA K (.ref a) (.int (k : Int)) H Q :=
  ⟨a, k, xs, rfl, rfl, .inl (.inl (s _ _ ea)), hx, by omega, by omega, hz, fun e => h a T H (.refl s) (by
      have : k = 1 := by omega
      rw [this]
      show T a = some (.tup ((xs :: []).flatten))
      rw [List.flatten_cons, List.flatten_nil, List.append_nil]
      exact ea), fun _ p np => h p _ _ (Ext.new s np) (by rw [Int.toNat_natCast]; exact upd_same)⟩
end
theorem noPart {σ : L2.St} {H : Hp} {Q : Option Int → Hp → Prop} (h : Q none H) : tNoPart σ H Q := h
theorem cutV_take (xs : List V) (i : Nat) (h : i ≤ xs.length) : cutV xs none (some (i : Int)) = xs.take i := by
  unfold cutV
  rw [HT.sIx_nat, HT.sIx_none, List.drop_zero, Nat.sub_zero, Nat.min_eq_left h]
theorem cutV_drop (xs : List V) (i : Nat) (h : i ≤ xs.length) : cutV xs (some (i : Int)) none = xs.drop i := by
  unfold cutV
  rw [HT.sIx_nat, HT.sIx_none, Nat.min_eq_left h, List.take_of_length_le (by rw [List.length_drop]; exact Nat.le_refl _)]
end Zc
end

section
set_option maxHeartbeats 2000000
/-! repr of a truth; catA where the written part is named -/
namespace Zc
open PySem PySem.Spec PyProof.Rows L2
def blS (b : Bool) : Str := if b then "True" else "False"
theorem call_repr_bl {X : Cx} : CallR X (.builtin "repr") (fun xs H Q => ∃ b, xs = [.bl b] ∧ Q (.str (blS b)) H) := by
  intro pins s σ H xs us Q I r h
  obtain ⟨b, rfl, q⟩ := h
  obtain ⟨u, rfl, rfl⟩ := vals1 r
  exact PySem.P.repr_of_bool ⟨.str _, H, I.tok _, ⟨_, rfl⟩, q⟩
theorem op_catAK {X : Cx} (K : PySem.W.Frag) (h : X.K = K) : OpR X (binaryOp .Add) (rCatA K) := h ▸ op_catA
end Zc
end

section
set_option maxHeartbeats 2000000
/-! t[::-1] of a tuple -/
namespace Zc
open PySem PySem.Spec PyProof.Rows L2 HT
theorem fm_congr {α β : Type} {f g : α → Option β} : ∀ (l : List α), (∀ k ∈ l, f k = g k) → l.filterMap f = l.filterMap g
  | [], _ => rfl
  | a :: r, h => by
    have ih := fm_congr r fun k hk => h k (List.mem_cons_of_mem _ hk)
    rw [List.filterMap_cons, List.filterMap_cons, h a List.mem_cons_self, ih]
theorem rev_pick (xs : Array Value) : ((List.range xs.size).filterMap fun (m : Nat) => xs[((xs.size : Int) - 1 + (m : Int) * (-1)).toNat]?).toArray = xs.toList.reverse.toArray := by
  rw [← PySem.W.krv_pick]
  unfold slicePick
  rw [PySem.W.krv_bounds]
  show _ = ((sliceRange ((xs.size : Int) - 1) (-1) (-1)).filterMap (xs[·]?)).toArray
  rw [PySem.W.krv_sliceRange, List.filterMap_map]
  congr 1
  refine fm_congr _ fun k hk => ?_
  have := List.mem_range.mp hk
  show xs[((xs.size : Int) - 1 + (k : Int) * (-1)).toNat]? = xs[xs.size - 1 - k]?
  congr 1
  omega
section
variable {prog : Program} {w : World} {A : Around} {E : Value → Shared → Prop} {s : Shared}
theorem places_back (n : Nat) : Builtin.Slice.sliceAdjust none none (-1) (n : Int) = ((n : Int) - 1, -1) ∧ Builtin.Slice.slicePlaces ((n : Int) - 1) (-1) (-1) = n := by
  constructor
  · simp [Builtin.Slice.sliceAdjust]
  · simp [Builtin.Slice.slicePlaces]
    try omega
theorem tuple_back {t sl : Addr} {items : Array Value} {vl vu vs : Value} {Q : Value → Shared → Prop} (ht : IsTup s.heap t items) (hs : s.heap.IsSliceOf sl vl vu vs) (pl : IsPart vl none) (pu : IsPart vu none) (ps : IsPart vs (some (-1)))
    (h : Q (.ref s.heap.objs.size) { s with heap := s.heap.push { cls := .type "tuple", data := .seq items.toList.reverse.toArray } }) (hsz : items.size ≤ sizeLine) : wpAny (model prog w) A (getItem (.ref t) (.ref sl)) Q E s := by
  have fit : sizeOk (.seq items.toList.reverse.toArray) := by
    show items.toList.reverse.toArray.size ≤ sizeLine
    rw [List.size_toArray, List.length_reverse, Array.length_toList]
    exact hsz
  obtain ⟨os, hos, hcs, hds⟩ := id hs
  have hTs : s.TypeIs (.ref sl) "slice" := ⟨os, hos, hcs⟩
  unfold getItem
  try with_reducible refine wpAny_holding ?_
  first | refine wpAny_bind (wpAny_pure ?_) | skip
  refine wpAny_bind (wpAny_sequenceKey ht.typeIs (by decide) ?_)
  refine wpAny_bind (wpAny_callSpecial?_slot (name := Str.ofString "__getitem__") ht.typeIs PyProof.Rows.slot_tuple_getitem (wpAny_call_entry PyProof.Rows.slot_tuple_getitem ht.typeIs entry_tuple_getitem ?_ (args_tuple_getitem _ _)))
  refine wpAny_bind (m := Builtin.Tuple.tupleItemsOf (.ref t)) (tupleItemsOf_ ht ?_)
  refine wpAny_bind (wpAny_typeOf hTs ?_)
  rw [if_pos (by decide)]
  refine wpAny_bind ?_
  unfold Builtin.Slice.sliceApplied Builtin.Slice.sliceFields
  refine wpAny_bind (wpAny_bind (wpAny_field hos hds (x := vl) rfl (wpAny_bind (wpAny_field hos hds (x := vu) rfl (wpAny_bind (wpAny_field hos hds (x := vs) rfl (wpAny_pure ?_)))))))
  refine wpAny_bind (slicePart_ ps ?_)
  refine wp_if_neg (by decide) ?_
  refine wpAny_bind (slicePart_ pl (wpAny_bind (slicePart_ pu (wpAny_bind (wpAny_pure ?_)))))
  dsimp only
  obtain ⟨b1, b2⟩ := places_back items.size
  rw [show (some (-1 : Int)).getD 1 = -1 from rfl, b1]
  dsimp only
  rw [b2]
  refine wpAny_pure ?_
  dsimp only
  refine wp_if_neg (by simp) ?_
  rw [rev_pick]
  first
    | exact wpAny_bind (m := Builtin.Tuple.tupleExact _) (wpAny_newObj_type (wpAny_pure ⟨_, rfl, wpAny_pure h⟩) fit)
    | exact wpAny_bind (wpAny_bind (m := Builtin.Tuple.tupleExact _) (wpAny_newObj_type (wpAny_pure ⟨_, rfl, wpAny_pure h⟩) fit))
end
/-- t[::-1] -/
def tRevT (K : PySem.W.Frag) (te : TE) : TE := fun σ H Q => te σ H fun x H1 => ∃ a xs, x = .ref a ∧ SqT K H1 a xs ∧ ∀ p, H1 p = none → Q (.ref p) (upd H1 p (.tup xs.reverse))
theorem pe_revT {X : Cx} {te : TE} {e : Expr} {k : Nat} {p1 p2 p3 pos : Pos} (he : PE X e te) : PE X (.Subscript e (.Slice none none (some (.UnaryOp .USub (.Constant (.int 1) k p1) p2)) p3) pos) (tRevT X.K te) := by
  constructor
  intro pins s σ H Q I h
  apply Subscript_ (thn (he.run pins s σ H _ I h) ?_)
  rintro v s1 ⟨x, H1, I1, r1, a, xs, rfl, hx, q⟩
  cases r1
  have back : PO X (some (.UnaryOp .USub (.Constant (.int 1) k p1) p2)) (tPart (tUn (rU fun i => .int (-i)) (tC (.int 1)))) := po_some (pe_un un_neg pe_int)
  apply wpAny_Slice (thn (po_none.run pins s1 σ H1 (fun o G => o = none ∧ G = H1) I1 ⟨rfl, rfl⟩) ?_)
  rintro vl s2 ⟨_, _, I2, pl, rfl, rfl⟩
  apply thn (po_none.run pins s2 σ _ (fun o G => o = none ∧ G = _) I2 ⟨rfl, rfl⟩) ?_
  rintro vu s3 ⟨_, _, I3, pu, rfl, rfl⟩
  apply thn (back.run pins s3 σ _ (fun o G => o = some (-1) ∧ G = _) I3 ⟨1, rfl, -1, rfl, rfl, rfl⟩) ?_
  rintro vs s4 ⟨_, _, I4, ps, rfl, rfl⟩
  have I5 := I4.kept (h' := s4.heap.push { cls := .type "slice", data := .fields #[vl, vu, vs] }) (t' := s4.toks) fun b ob e => Heap.get?_push_of_some _ e
  obtain ⟨its, r, ht, hz⟩ := I5.tuple hx
  have lr := r.length
  refine tail_any (ops := [.ref a, .ref s4.heap.objs.size]) ht.typeIs PyProof.Rows.slot_tuple_getitem.lookup ?_ (by with_unfolding_all rfl)
  refine tuple_back ht (Heap.IsSliceOf.new _ vl vu vs) pl pu ps ?_ (by rw [List.size_toArray]; omega)
  refine ⟨.ref _, _, I5.laid (t' := s4.toks) (o := .tup xs.reverse) (fun b ob e => Heap.get?_push_of_some _ e) (Nat.le_refl _) ?_, rfl, q _ (I5.hok.fresh (Nat.le_refl _))⟩
  exact ⟨by rw [List.length_reverse]; exact hz, _, r.reverse, IsTup.new _ _⟩
end Zc
end

section
set_option maxHeartbeats 2000000
/-! a | b, sets of the ints 0 to 4 -/
namespace Zc
open PySem PySem.Spec PyProof.Rows L2
def arr : Nat → List (List Nat)
  | 0 => [[]]
  | n + 1 => [] :: (List.range 5).flatMap fun a => ((arr n).filter fun l => !l.contains a).map fun l => a :: l
theorem arr_mem : ∀ (n : Nat) (l : List Nat), l.length ≤ n → l.Nodup → (∀ x ∈ l, x < 5) → l ∈ arr n
  | 0, [], _, _, _ => List.mem_singleton.mpr rfl
  | 0, _ :: _, h, _, _ => absurd h (Nat.not_succ_le_zero _)
  | n + 1, [], _, _, _ => List.mem_cons_self
  | n + 1, a :: l, h, nd, hb => by
    have nd' := List.nodup_cons.mp nd
    refine List.mem_cons_of_mem _ (List.mem_flatMap.mpr ⟨a, List.mem_range.mpr (hb a List.mem_cons_self), List.mem_map.mpr ⟨l, List.mem_filter.mpr ⟨arr_mem n l (Nat.le_of_succ_le_succ h) nd'.2 fun x hx => hb x (List.mem_cons_of_mem _ hx), ?_⟩, rfl⟩⟩)
    simp [nd'.1]
def chk (m : Nat) (hs : List Nat) : Bool := match SetTable.laid m 0 0 false false (hs.map Int.ofNat).toArray with
  | some (t, o) => t.mask == m && t.dummies.isEmpty && t.place.size == hs.length && (t.place.toList.zip (t.place.toList.drop 1)).all (fun p => decide (p.1 < p.2)) && decide (t.fill ≤ t.mask) && o.toList.isPerm (List.range hs.length)
  | none => false
theorem chk_all : ([7, 15, 31].all fun m => (arr 5).all (chk m)) = true := by decide +kernel
end Zc
end

section
set_option maxHeartbeats 2000000
namespace Zc
open PySem PySem.Spec PyProof.Rows L2
theorem laid_other {m f mv : Nat} {le pl : Bool} {hs : Array Int} {t : SetTable} {o : Array Nat} (h : SetTable.laid m 0 0 false false hs = some (t, o)) :
    SetTable.laid m f mv le pl hs = some ({ t with finger := f, led := le, moves := mv, plain := pl }, o) := by
  unfold SetTable.laid at h ⊢
  cases e : SetTable.layClean m hs with
  | none => rw [e] at h; cases h
  | some ow =>
    rw [e] at h
    cases h
    rfl
theorem ris_of : ∀ {l : List Nat}, ((l.zip (l.drop 1)).all fun p => decide (p.1 < p.2)) = true → Ris l
  | [], _ => .nil
  | [a], _ => List.pairwise_singleton _ _
  | a :: b :: r, h => by
    have h' : (decide (a < b) && (((b :: r).zip r).all fun p => decide (p.1 < p.2))) = true := h
    obtain ⟨h1, h2⟩ := Bool.and_eq_true_iff.mp h'
    have ih := ris_of (l := b :: r) h2
    have ab := of_decide_eq_true h1
    refine List.Pairwise.cons (fun x hx => ?_) ih
    rcases List.mem_cons.mp hx with e | e
    · rw [e]; exact ab
    · cases ih with
      | cons g _ => exact Nat.lt_trans ab (g x e)
/-- small ints find room -/
theorem laid_ok {m f mv : Nat} {le pl : Bool} {hs : List Nat} (hm : m = 7 ∨ m = 15 ∨ m = 31) (nd : hs.Nodup) (hb : ∀ x ∈ hs, x < 5) :
    ∃ t o, SetTable.laid m f mv le pl (hs.map Int.ofNat).toArray = some (t, o) ∧ t.mask = m ∧ t.dummies.isEmpty = true ∧ t.place.size = hs.length ∧ Ris t.place.toList ∧ t.fill ≤ t.mask ∧ t.led = le ∧ o.toList.Perm (List.range hs.length) := by
  have hl : hs.length ≤ 5 := by
    have := nd.length_le_of_subset (l₂ := List.range 5) fun x hx => List.mem_range.mpr (hb x hx)
    rwa [List.length_range] at this
  have c : chk m hs = true := by
    have := List.all_eq_true.mp chk_all m (by rcases hm with e | e | e <;> rw [e] <;> simp)
    exact List.all_eq_true.mp this hs (arr_mem 5 hs hl nd hb)
  unfold chk at c
  cases e : SetTable.laid m 0 0 false false (hs.map Int.ofNat).toArray with
  | none => rw [e] at c; cases c
  | some p =>
    obtain ⟨t, o⟩ := p
    rw [e] at c
    dsimp only at c
    simp only [Bool.and_eq_true, beq_iff_eq, decide_eq_true_eq] at c
    obtain ⟨⟨⟨⟨⟨c1, c2⟩, c3⟩, c4⟩, c5⟩, c6⟩ := c
    exact ⟨_, o, laid_other e, c1, c2, c3, ris_of c4, c5, rfl, List.isPerm_iff.mp c6⟩
end Zc
end

section
set_option maxHeartbeats 2000000
namespace Zc
open PySem PySem.Spec PyProof.Rows L2
/-- a set of which the table's size is known -/
def SetQ (w : World) (h : Heap) (a : Addr) (S : Int → Bool) (n m : Nat) : Prop :=
  ∃ o es ep t, h.get? a = some o ∧ o.ExactSet ∧ o.data = .set es ep t ∧ (∀ e ∈ es.toList, GoodE e) ∧ (es.toList.map keyOf).Nodup ∧ (∀ k, S k = true ↔ k ∈ es.toList.map keyOf) ∧
    es.size < scanBound ∧ t.fits es.size = true ∧ es.size = n ∧ Ris t.place.toList ∧ (w.params.followText "set-order" = true ∨ t.led = true) ∧ t.mask = m ∧ t.dummies.isEmpty = true
theorem SetQ.r {w : World} {h : Heap} {a : Addr} {S : Int → Bool} {n m : Nat} (q : SetQ w h a S n m) : SetR w h a S n := by
  obtain ⟨o, es, ep, t, h1, h2, h3, h4, h5, h6, h7, h8, h9, h10, h11, _, _⟩ := q
  exact ⟨o, es, ep, t, h1, h2, h3, h4, h5, h6, h7, h8, h9, h10, h11⟩
def SmallS (S : Int → Bool) : Prop := ∀ k, S k = true → 0 ≤ k ∧ k < 5
theorem hash_small {k : Int} (h0 : 0 ≤ k) (h1 : k < 5) : hashInt k = k := by
  have : k = 0 ∨ k = 1 ∨ k = 2 ∨ k = 3 ∨ k = 4 := by omega
  rcases this with e | e | e | e | e <;> rw [e] <;> decide +kernel
/-- the hashes of small ints -/
theorem hashes_of {S : Int → Bool} {es : Array (Int × Value)} (sm : SmallS S) (g : ∀ e ∈ es.toList, GoodE e) (nd : (es.toList.map keyOf).Nodup) (hm : ∀ k, S k = true ↔ k ∈ es.toList.map keyOf) :
    ∃ hs : List Nat, es.map (·.1) = (hs.map Int.ofNat).toArray ∧ hs.Nodup ∧ (∀ x ∈ hs, x < 5) ∧ hs.length = es.size := by
  have b : ∀ e ∈ es.toList, 0 ≤ keyOf e ∧ keyOf e < 5 := fun e he => sm _ ((hm _).2 (List.mem_map.mpr ⟨e, he, rfl⟩))
  refine ⟨es.toList.map fun e => (keyOf e).toNat, ?_, ?_, ?_, by rw [List.length_map, Array.length_toList]⟩
  · apply Array.toList_inj.mp
    rw [Array.toList_map, List.map_map]
    refine List.map_congr_left fun e he => ?_
    obtain ⟨k, tk, e1, e2⟩ := g e he
    obtain ⟨b0, b1⟩ := b e he
    have ek : keyOf e = k := by unfold keyOf; rw [e1]
    rw [ek] at b0 b1
    show e.1 = Int.ofNat (keyOf e).toNat
    rw [e2, ek, hash_small b0 b1]
    exact (Int.toNat_of_nonneg b0).symm
  · have : (es.toList.map fun e => (keyOf e).toNat) = (es.toList.map keyOf).map Int.toNat := by rw [List.map_map]; rfl
    rw [this]
    refine List.Pairwise.map _ (S := fun a b => a ≠ b) (R := fun a b : Int => a ≠ b ∧ 0 ≤ a ∧ 0 ≤ b) (fun a b h e => h.1 (by omega)) ?_
    refine nd.imp_of_mem fun {a c} ha hc hne => ⟨hne, ?_, ?_⟩
    · obtain ⟨e, he, rfl⟩ := List.mem_map.mp ha
      exact (b e he).1
    · obtain ⟨e, he, rfl⟩ := List.mem_map.mp hc
      exact (b e he).1
  · intro x hx
    obtain ⟨e, he, rfl⟩ := List.mem_map.mp hx
    have := b e he
    omega
section
variable {P : Program} {w : World} {A : Around} {E : Value → Shared → Prop} {s : Shared} {a : Addr} {S : Int → Bool} {n m : Nat}
theorem room_relay {wanted : Nat} (h1 : 10 ≤ wanted) (h2 : wanted < 32) : SetTable.sizeAbove wanted = 16 ∨ SetTable.sizeAbove wanted = 32 := by
  have : ∀ k, k < 32 → 10 ≤ k → SetTable.sizeAbove k = 16 ∨ SetTable.sizeAbove k = 32 := by decide +kernel
  exact this wanted h2 h1
theorem set_relay {wanted : Nat} {Q : Unit → Shared → Prop} (R : SetR w s.heap a S n) (sm : SmallS S) (h1 : 10 ≤ wanted) (h2 : wanted < 32)
    (hQ : ∀ h' m', Heap.SameBut a s.heap h' → m' = 15 ∨ m' = 31 → SetQ w h' a S n m' → Q () { s with heap := h' }) :
    wpAny (model P w) A (setRelay a wanted) Q E s := by
  obtain ⟨o, es, ep, t, ho, hex, hd, g, nd, hm, hb, hf, hn, hr, hl⟩ := R
  unfold setRelay
  refine wpAny_bind (wpAny_setState_of ho hd hf ?_)
  dsimp only
  obtain ⟨hs, e1, e2, e3, e4⟩ := hashes_of sm g nd hm
  have hmm : SetTable.sizeAbove wanted - 1 = 7 ∨ SetTable.sizeAbove wanted - 1 = 15 ∨ SetTable.sizeAbove wanted - 1 = 31 := by
    rcases room_relay h1 h2 with e | e <;> rw [e] <;> simp
  obtain ⟨t', od, l1, l2, l3, l4, l5, l6, l7, l8⟩ := laid_ok (m := SetTable.sizeAbove wanted - 1) (f := t.finger) (mv := t.movedTo (SetTable.sizeAbove wanted - 1)) (le := t.led) (pl := t.plain) (hs := hs) hmm e2 e3
  have er : t.relaid (es.map (·.1)) wanted = some (t', od) := by
    unfold SetTable.relaid
    rw [e1]
    exact l1
  rw [if_neg (by
    have : (32 : Nat) < sizeLine := by decide
    rcases room_relay h1 h2 with e | e <;> rw [e] <;> omega), er]
  have pm : (od.filterMap (es[·]?)).toList.Perm es.toList := by
    rw [Array.toList_filterMap]
    refine (l8.filterMap _).trans ?_
    rw [e4, filterMap_getElem?_range]
  have esz : (od.filterMap (es[·]?)).size = es.size := by rw [← Array.length_toList, pm.length_eq, Array.length_toList]
  show wpAny (model P w) A ((if ((od.filterMap (es[·]?)).size != es.size) = true then ((unsupported "internal:set-table-lost-an-element" : Sem PUnit) >>= fun _ => pure (od.filterMap (es[·]?), t')) else pure (od.filterMap (es[·]?), t')) >>= fun x => storeSet a x.1 x.2) Q E s
  rw [if_neg (by rw [esz]; simp)]
  refine wpAny_bind (wpAny_pure ?_)
  dsimp only
  generalize od.filterMap (es[·]?) = es2 at pm esz ⊢
  have hb2 : es2.size < scanBound := by rw [esz]; exact hb
  refine wpAny_storeSet_of ho hd ?_ (fits_of_scanBound hb2)
  have ho2 := store_at (es' := es2) (t' := t') ho hd
  refine hQ _ (SetTable.sizeAbove wanted - 1) (Heap.SameBut.update s.heap a (Obj.putSet es2 t')) (by rcases room_relay h1 h2 with e | e <;> rw [e] <;> simp) ?_
  refine ⟨_, es2, _, t', ho2, hex, rfl, fun e he => g e (pm.mem_iff.mp he), (pm.map keyOf).nodup_iff.mpr nd, fun k => (hm k).trans (pm.map keyOf).mem_iff.symm, hb2, ?_, by rw [esz]; exact hn, l5, hl.imp id fun z => by rw [l7]; exact z, l2, l3⟩
  unfold SetTable.fits
  rw [l4, e4, esz, decide_eq_true l6]
  simp
/-- the room that a set is given -/
theorem set_room {more : Nat} {Q : Unit → Shared → Prop} (R : SetQ w s.heap a S n m) (sm : SmallS S) (hn : n ≤ 5) (hmo : more ≤ 5) (hm7 : m = 7 ∨ m = 15 ∨ m = 31)
    (hQ : ∀ h' m', Heap.SameBut a s.heap h' → m' = 7 ∨ m' = 15 ∨ m' = 31 → SetQ w h' a S n m' → Q () { s with heap := h' }) :
    wpAny (model P w) A (setRoomFor a more) Q E s := by
  obtain ⟨o, es, ep, t, ho, hex, hd, g, nd, hm, hb, hf, hnn, hr, hl, hmk, hdm⟩ := id R
  unfold setRoomFor
  refine wpAny_bind (wpAny_setState_of ho hd hf ?_)
  dsimp only
  have hpl : t.place.size = n := by
    unfold SetTable.fits at hf
    simp only [Bool.and_eq_true, beq_iff_eq] at hf
    omega
  have hdz : t.dummies.size = 0 := by simpa using hdm
  have hfill : t.fill = n := by
    unfold SetTable.fill
    omega
  cases e : t.roomFor more with
  | none =>
    dsimp only
    exact wpAny_pure (hQ s.heap m (Heap.SameBut.refl a s.heap) hm7 R)
  | some wanted =>
    dsimp only
    have hw : 10 ≤ wanted ∧ wanted < 32 := by
      unfold SetTable.roomFor at e
      rw [hfill, hpl, hmk] at e
      split at e
      · rename_i hc
        cases e
        have hc' : m * 3 ≤ (n + more) * 5 := hc
        rcases hm7 with z | z | z <;> rw [z] at hc' <;> omega
      · cases e
    refine set_relay R.r sm hw.1 hw.2 fun h' m' sb hm' q => hQ h' m' sb (.inr hm') q
end
end Zc
end

section
set_option maxHeartbeats 2000000
namespace Zc
open PySem PySem.Spec PyProof.Rows L2
section
variable {P : Program} {w : World} {A : Around} {E : Value → Shared → Prop} {s : Shared} {a f : Addr} {S T : Int → Bool} {n k : Nat}
/-- no thing of sets of ints compares in a way of its own -/
theorem sets_quiet : ∀ (l : List Addr) {Q : Bool → Shared → Prop}, (∀ x ∈ l, ∃ S n, SetR w s.heap x S n) → Q true s → wpAny (model P w) A (setsQuiet l) Q E s := by
  intro l Q hl hQ
  unfold setsQuiet
  refine wpAny_bind ?_
  refine wpAny_forIn_list (I := fun rest b s1 => (∀ x ∈ rest, x ∈ l) ∧ b = ((none, ()) : Option Bool × Unit) ∧ s1 = s) _ _ ?_ ?_ l (none, ()) ⟨fun x hx => hx, rfl, rfl⟩
  · rintro x rest b s1 ⟨hx, rfl, rfl⟩
    obtain ⟨S, n, o, es, ep, t, ho, hex, hd, g, nd, hm, hb, hf, hn, hr, hl2⟩ := hl x (hx x List.mem_cons_self)
    refine wpAny_bind (wpAny_setEntries_of ho hd hf ?_)
    refine wpAny_bind ?_
    refine PySem.MeetsSeq2.wpAny_forIn_array (I := fun r2 b s2 => (∀ e ∈ r2, e ∈ es.toList) ∧ b = ((none, ()) : Option Bool × Unit) ∧ s2 = s1) _ _ ?_ ?_ es (none, ()) ⟨fun e he => he, rfl, rfl⟩
    · rintro e r2 b s2 ⟨he, rfl, rfl⟩
      obtain ⟨k, tk, e1, e2⟩ := g e (he e List.mem_cons_self)
      obtain ⟨h0, v⟩ := e
      have ev : v = .int k tk := e1
      subst ev
      dsimp only
      exact wpAny_pure ⟨fun y hy => he y (List.mem_cons_of_mem _ hy), rfl, rfl⟩
    · rintro b s2 ⟨_, rfl, rfl⟩
      dsimp only
      exact wpAny_pure ⟨fun y hy => hx y (List.mem_cons_of_mem _ hy), rfl, rfl⟩
  · rintro b s1 ⟨_, rfl, rfl⟩
    exact wpAny_pure hQ
theorem set_walk {o : Obj} {es : Array (Int × Value)} {ep : Nat} {t : SetTable} {Q : Array (Int × Value) → Shared → Prop} (ho : s.heap.get? a = some o) (hd : o.data = .set es ep t) (hf : t.fits es.size = true)
    (hc : w.params.followText "set-order" = true ∨ (t.led = true ∧ (!t.plain && decide (es.size > 1)) = false)) (hQ : ∀ L : Array (Int × Value), L.toList.Perm es.toList → Q L s) : wpAny (model P w) A (setWalk a) Q E s := by
  unfold setWalk
  refine wpAny_bind (wpAny_setState_of ho hd hf ?_)
  dsimp only
  refine wpAny_bind (wpAny_byText ?_)
  cases hbt : w.params.followText "set-order" with
  | true =>
    refine wp_if_pos rfl ?_
    exact wpAny_bind (wpAny_askSetting (wpAny_pure (hQ _ (pick_perm _ es))))
  | false =>
    rw [hbt] at hc
    obtain ⟨hl, hdr⟩ := hc.resolve_left Bool.false_ne_true
    refine wp_if_neg Bool.false_ne_true ?_
    try refine wpAny_bind (wpAny_pure ?_)
    refine wp_if_neg (by show ¬ ((!t.plain && decide (es.size > 1)) = true); rw [hdr]; exact Bool.false_ne_true) ?_
    try refine wpAny_bind (wpAny_pure ?_)
    refine wpAny_bind (wpAny_of_eq (a := ()) ?_ (wpAny_pure (hQ es (List.Perm.refl _))))
    show (if (!t.led && decide (es.size > 1)) = true then unsupported "set:maker-not-led" else pure ()) = pure ()
    rw [hl]
    rfl
theorem set_walk_unseen {o : Obj} {es : Array (Int × Value)} {ep : Nat} {t : SetTable} {Q : Array (Int × Value) → Shared → Prop} (ho : s.heap.get? a = some o) (hd : o.data = .set es ep t) (hf : t.fits es.size = true)
    (hl : w.params.followText "set-order" = true ∨ t.led = true) (Ra : SetR w s.heap a T k) (Rf : SetR w s.heap f S n) (hQ : ∀ (L : Array (Int × Value)) (h' : Heap), L.toList.Perm es.toList → Heap.SameBut f s.heap h' → SetR w h' f S n → Q L { s with heap := h' }) :
    wpAny (model P w) A (setWalkUnseen a [f] (some f)) Q E s := by
  unfold setWalkUnseen
  refine wpAny_bind (wpAny_setState_of ho hd hf ?_)
  dsimp only
  refine wpAny_bind (wpAny_byText ?_)
  by_cases hc : (w.params.followText "set-order" || t.led && t.plain || decide (es.size ≤ 1)) = true
  · refine wp_if_pos hc ?_
    refine set_walk ho hd hf ?_ fun L pm => hQ L s.heap pm (Heap.SameBut.refl f s.heap) Rf
    rcases hl with z | z
    · exact .inl z
    · cases hb : w.params.followText "set-order" with
      | true => exact .inl rfl
      | false =>
        refine .inr ⟨z, ?_⟩
        rw [hb, z, Bool.false_or, Bool.true_and, Bool.or_eq_true, decide_eq_true_eq] at hc
        rcases hc with y | y
        · rw [y]; rfl
        · rw [decide_eq_false (by omega), Bool.and_false]
  · have hc2 := Bool.eq_false_iff.mpr hc
    rw [Bool.or_eq_false_iff, Bool.or_eq_false_iff] at hc2
    have hled : t.led = true := hl.resolve_left (by rw [hc2.1.1]; exact Bool.false_ne_true)
    refine wp_if_neg hc ?_
    try refine wpAny_bind (wpAny_pure ?_)
    refine wpAny_bind (sets_quiet [a, f] (fun x hx => ?_) ?_)
    · rcases List.mem_cons.mp hx with e | e
      · rw [e]; exact ⟨_, _, Ra⟩
      · rw [List.mem_singleton.mp e]; exact ⟨_, _, Rf⟩
    refine wp_if_neg (by simp) ?_
    try refine wpAny_bind (wpAny_pure ?_)
    refine wpAny_bind (wpAny_rule ?_)
    obtain ⟨o2, es2, ep2, t2, ho2, hex2, hd2, g2, nd2, hm2, hb2, hf2, hn2, hr2, hl2⟩ := id Rf
    refine wpAny_bind (wpAny_setState_of ho2 hd2 hf2 ?_)
    dsimp only
    by_cases hc3 : ((t2.led && !t.led) || (t2.plain && !t.plain)) = true
    · refine wp_if_pos hc3 ?_
      refine wpAny_bind (wpAny_storeSet_of ho2 hd2 ?_ (fits_of_scanBound hb2))
      refine wpAny_pure (hQ es _ (List.Perm.refl _) (Heap.SameBut.update s.heap f _) ?_)
      refine ⟨_, es2, _, _, store_at ho2 hd2, hex2, rfl, g2, nd2, hm2, hb2, ?_, hn2, hr2, hl2.imp id fun z => ?_⟩
      · exact hf2
      · show (t2.led && t.led) = true
        rw [z, hled]
        rfl
    · refine wp_if_neg hc3 ?_
      try refine wpAny_bind (wpAny_pure ?_)
      exact wpAny_pure (hQ es s.heap (List.Perm.refl _) (Heap.SameBut.refl f s.heap) Rf)
end
end Zc
end

section
set_option maxHeartbeats 2000000
namespace Zc
open PySem PySem.Spec PyProof.Rows L2
section
variable {P : Program} {w : World} {A : Around} {E : Value → Shared → Prop} {s : Shared} {a f : Addr} {S T : Int → Bool} {n k m : Nat}
def orS (S T : Int → Bool) : Int → Bool := fun j => S j || T j
theorem same_get {h h' : Heap} {f a : Addr} (sb : Heap.SameBut f h h') (ne : a ≠ f) : h'.get? a = h.get? a := sb.2 a ne
theorem set_merge {each : Sem Unit} {Q : Unit → Shared → Prop} (Rs : SetQ w s.heap f S n m) (Ro : SetR w s.heap a T k) (ne : f ≠ a) (smS : SmallS S) (smT : SmallS T) (hn : n ≤ 5) (hk : k ≤ 5) (hm7 : m = 7 ∨ m = 15 ∨ m = 31)
    (he : ∀ (s1 : Shared) (Q' : Unit → Shared → Prop), s1.heap.get? a = s.heap.get? a → Q' () s1 → wpAny (model P w) A each Q' E s1)
    (hQ : ∀ h' c, Heap.SameBut f s.heap h' → SetR w h' f (orS S T) c → c ≤ n + k → (n = 0 → ∃ m', (m' = 7 ∨ m' = 15 ∨ m' = 31) ∧ SetQ w h' f (orS S T) c m') → Q () { s with heap := h' }) :
    wpAny (model P w) A (setMerge f a each) Q E s := by
  obtain ⟨o, eo, epo, to, ho, hex, hd, g, nd, hmm, hb, hf, hk2, hr, hl⟩ := id Ro
  have no : a ≠ f := fun z => ne z.symm
  unfold setMerge
  refine wp_if_neg (by simpa using ne) ?_
  try refine wpAny_bind (wpAny_pure ?_)
  refine wpAny_bind (wpAny_setState_of ho hd hf ?_)
  dsimp only
  by_cases hz : eo.isEmpty = true
  · refine wp_if_pos hz ?_
    have e0 : eo.toList = [] := by simpa using hz
    have eq : orS S T = S := funext fun j => by
      show (S j || T j) = S j
      cases hT : T j with
      | false => exact Bool.or_false _
      | true =>
        have := (hmm j).1 hT
        rw [e0] at this
        cases this
    exact wpAny_pure (hQ s.heap n (Heap.SameBut.refl f s.heap) (by rw [eq]; exact Rs.r) (Nat.le_add_right _ _) fun _ => ⟨m, hm7, by rw [eq]; exact Rs⟩)
  refine wp_if_neg hz ?_
  try refine wpAny_bind (wpAny_pure ?_)
  refine wpAny_bind (set_room (more := eo.size) Rs smS hn (by omega) hm7 fun h1 m1 sb1 hm1 q1 => ?_)
  obtain ⟨o1, es1, ep1, t1, ho1, hex1, hd1, g1, nd1, hmm1, hb1, hf1, hn1, hr1, hl1, hmk1, hdm1⟩ := id q1
  refine wpAny_bind (wpAny_setState_of (s := { s with heap := h1 }) ho1 hd1 hf1 ?_)
  dsimp only
  have hpl : t1.place.size = n := by
    unfold SetTable.fits at hf1
    simp only [Bool.and_eq_true, beq_iff_eq] at hf1
    omega
  have hdz : t1.dummies.size = 0 := by simpa using hdm1
  have hfill : t1.fill = n := by
    unfold SetTable.fill
    omega
  by_cases h0 : n = 0
  · have eS : ∀ j, S j = false := fun j => by
      cases hS : S j with
      | false => rfl
      | true =>
        have := (hmm1 j).1 hS
        have e0 : es1.toList = [] := by
          apply List.length_eq_zero_iff.mp
          rw [Array.length_toList]
          omega
        rw [e0] at this
        cases this
    have eq : orS S T = T := funext fun j => by
      show (S j || T j) = T j
      rw [eS j, Bool.false_or]
    by_cases hc : (t1.mask == to.mask && to.dummies.isEmpty) = true
    · have er : t1.road to = .slotForSlot := by
        unfold SetTable.road
        rw [hfill, h0, if_neg (by simp), if_pos hc]
      rw [er]
      dsimp only
      rw [Bool.and_eq_true, beq_iff_eq] at hc
      have st : ∀ t' : SetTable, t' = { to with finger := t1.finger, led := t1.led && to.led, moves := t1.moves, plain := t1.plain && to.plain } → SetQ w (h1.update f (Obj.putSet eo t')) f T k m1 := fun t' e => by
        refine ⟨_, eo, _, t', store_at ho1 hd1, hex1, rfl, g, nd, hmm, hb, ?_, hk2, ?_, ?_, ?_, ?_⟩
        · rw [e]; exact hf
        · rw [e]; exact hr
        · rcases hl1 with z | z
          · exact .inl z
          · rcases hl with y | y
            · exact .inl y
            · refine .inr ?_
              rw [e]
              show (t1.led && to.led) = true
              rw [z, y]
              rfl
        · rw [e]; exact hc.1.symm.trans hmk1
        · rw [e]; exact hc.2
      refine wpAny_storeSet_of (s := { s with heap := h1 }) ho1 hd1 ?_ (fits_of_scanBound hb)
      have q := st _ rfl
      refine hQ _ k (sb1.trans (Heap.SameBut.update h1 f _)) ?_ (by omega) fun _ => ⟨m1, hm1, ?_⟩
      · rw [eq]; exact q.r
      · rw [eq]; exact q
    · have er : t1.road to = .clean := by
        unfold SetTable.road
        rw [hfill, h0, if_neg (by simp), if_neg hc]
      rw [er]
      dsimp only
      obtain ⟨hs, e1, e2, e3, e4⟩ := hashes_of smT g nd hmm
      obtain ⟨t', od, l1, l2, l3, l4, l5, l6, l7, l8⟩ := laid_ok (m := t1.mask) (f := t1.finger) (mv := t1.moves) (le := t1.led && to.led) (pl := t1.plain && to.plain) (hs := hs) (by rw [hmk1]; exact hm1) e2 e3
      rw [e1, l1]
      have pm : (od.filterMap (eo[·]?)).toList.Perm eo.toList := by
        rw [Array.toList_filterMap]
        refine (l8.filterMap _).trans ?_
        rw [e4, filterMap_getElem?_range]
      have esz : (od.filterMap (eo[·]?)).size = eo.size := by rw [← Array.length_toList, pm.length_eq, Array.length_toList]
      show wpAny (model P w) A ((if ((od.filterMap (eo[·]?)).size != eo.size) = true then ((unsupported "internal:set-table-lost-an-element" : Sem PUnit) >>= fun _ => pure (od.filterMap (eo[·]?), t')) else pure (od.filterMap (eo[·]?), t')) >>= fun x => storeSet f x.1 x.2) Q E { s with heap := h1 }
      rw [if_neg (by rw [esz]; simp)]
      refine wpAny_bind (wpAny_pure ?_)
      dsimp only
      generalize od.filterMap (eo[·]?) = es2 at pm esz ⊢
      have hb2 : es2.size < scanBound := by rw [esz]; exact hb
      refine wpAny_storeSet_of (s := { s with heap := h1 }) ho1 hd1 ?_ (fits_of_scanBound hb2)
      have q : SetQ w (h1.update f (Obj.putSet es2 t')) f T k m1 := by
        refine ⟨_, es2, _, t', store_at ho1 hd1, hex1, rfl, fun e he => g e (pm.mem_iff.mp he), (pm.map keyOf).nodup_iff.mpr nd, fun k => (hmm k).trans (pm.map keyOf).mem_iff.symm, hb2, ?_, by rw [esz]; exact hk2, l5, ?_, l2.trans hmk1, l3⟩
        · unfold SetTable.fits
          rw [l4, e4, esz, decide_eq_true l6]
          simp
        · rcases hl1 with z | z
          · exact .inl z
          · rcases hl with y | y
            · exact .inl y
            · exact .inr (by rw [l7, z, y]; rfl)
      refine hQ _ k (sb1.trans (Heap.SameBut.update h1 f _)) ?_ (by omega) fun _ => ⟨m1, hm1, ?_⟩
      · rw [eq]; exact q.r
      · rw [eq]; exact q
  · have er : t1.road to = .oneByOne := by
      unfold SetTable.road
      rw [hfill, if_pos (by simpa using h0)]
    rw [er]
    dsimp only
    have ho' : h1.get? a = some o := (same_get sb1 no).trans ho
    refine wpAny_bind (set_walk_unseen (s := { s with heap := h1 }) ho' hd hf hl (Ro.at fun u e => (same_get sb1 no).trans e) q1.r fun L h2 pm sb2 R2 => ?_)
    have ho2 : h2.get? a = some o := (same_get sb2 no).trans ho'
    have sbA := sb1.trans sb2
    have gL : ∀ e ∈ L.toList, GoodE e := fun e he => g e (pm.mem_iff.mp he)
    have lL : L.toList.length = k := by rw [pm.length_eq, Array.length_toList, hk2]
    have mL : ∀ j, T j = true ↔ j ∈ L.toList.map keyOf := fun j => (hmm j).trans (pm.map keyOf).mem_iff.symm
    refine wpAny_bind ?_
    refine MeetsSeq2.wpAny_forIn_array (I := fun rest _ s1 => ∃ h' U c, s1 = { s with heap := h' } ∧ Heap.SameBut f s.heap h' ∧ SetR w h' f U c ∧ c + rest.length ≤ n + k ∧ (∀ j, (U j = true ∨ j ∈ rest.map keyOf) ↔ (S j = true ∨ T j = true)) ∧ ∀ e ∈ rest, GoodE e) _ _ ?_ ?_ L _
      ⟨h2, S, n, rfl, sbA, R2, by rw [lL]; exact Nat.le_refl _, fun j => by rw [mL j], gL⟩
    · rintro e rest b s1 ⟨h', U, c, rfl, sb, RU, hc, hU, hg⟩
      obtain ⟨x, tk, e1, e2⟩ := hg e List.mem_cons_self
      obtain ⟨hx, v⟩ := e
      have ev : v = .int x tk := e1
      have eh : hx = hashInt x := e2
      subst ev eh
      dsimp only
      rw [List.length_cons] at hc
      have sbig : (100 : Nat) < scanBound := by decide
      refine wpAny_bind (wpAny_holding ?_)
      refine setR_add_hashed (s := { s with heap := h' }) RU (by omega) fun h3 sb3 R3 => ?_
      have sb4 := sb.trans sb3
      refine wpAny_bind (he _ _ (same_get sb4 no) ?_)
      refine wpAny_bind (wpAny_setState_of (s := { s with heap := h3 }) ((same_get sb4 no).trans ho) hd hf ?_)
      dsimp only
      refine wp_if_neg (by simp) ?_
      try refine wpAny_bind (wpAny_pure ?_)
      refine wpAny_pure ⟨h3, _, _, rfl, sb4, R3, ?_, fun j => ?_, fun y hy => hg y (List.mem_cons_of_mem _ hy)⟩
      · split <;> omega
      · rw [← hU j]
        show ((U j || decide (j = x)) = true ∨ j ∈ rest.map keyOf) ↔ (U j = true ∨ j ∈ x :: rest.map keyOf)
        rw [Bool.or_eq_true, decide_eq_true_eq, List.mem_cons]
        exact ⟨fun z => z.elim (fun y => y.elim .inl fun q => .inr (.inl q)) fun y => .inr (.inr y), fun z => z.elim (fun y => .inl (.inl y)) fun y => y.elim (fun q => .inl (.inr q)) .inr⟩
    · rintro b s1 ⟨h', U, c, rfl, sb, RU, hc, hU, _⟩
      refine wpAny_pure (hQ h' c sb (RU.congr fun j => ?_) (by simpa using hc) fun z => absurd z h0)
      have := hU j
      rw [Bool.eq_iff_iff]
      show (S j || T j) = true ↔ U j = true
      rw [Bool.or_eq_true, ← this]
      simp
end
end Zc
end

section
set_option maxHeartbeats 2000000
namespace Zc
open PySem PySem.Spec PyProof.Rows L2
theorem entry_set_or : entryFor table "set.__or__" = some Builtin.«frozenset.__or__» := 
  entryFor_alias (id' := "frozenset.__or__") (by kernel_rfl) rfl (by decide +kernel) (by kernel_rfl)
section
variable {P : Program} {w : World} {A : Around} {E : Value → Shared → Prop} {s : Shared} {a b : Addr} {S T : Int → Bool} {n k : Nat}
theorem setR_ty {h : Heap} (R : SetR w h a S n) : ∃ o, h.get? a = some o ∧ o.cls = .type "set" := by
  obtain ⟨o, _, _, _, ho, hex, _⟩ := R
  exact ⟨o, ho, hex.1⟩
theorem any_set {s : Shared} {v : Value} {Q : Bool → Shared → Prop} (h : s.TypeIs v "set") (q : Q true s) : wpAny (model P w) A (Builtin.Frozenset.isAnySet v) Q E s := by
  unfold Builtin.Frozenset.isAnySet
  refine wpAny_bind (wpAny_isInstance h sub_set_self ?_)
  exact wpAny_pure q
theorem fresh_q {h : Heap} (w : World) : SetQ w (h.push { cls := .type "set", dict := none, data := .set #[] 0 (.fresh 0 0 (!w.params.followText "set-order")) }) h.objs.size (fun _ => false) 0 7 := by
  obtain ⟨o, es, ep, t, ho, hex, hd, r⟩ := setR_fresh (h := h) w
  have ho2 := Heap.get?_push_size h (o := { cls := .type "set", dict := none, data := .set #[] 0 (.fresh 0 0 (!w.params.followText "set-order")) }) rfl
  rw [ho2] at ho
  cases ho
  cases hd
  exact ⟨_, _, _, _, ho2, hex, rfl, r.1, r.2.1, r.2.2.1, r.2.2.2.1, r.2.2.2.2.1, r.2.2.2.2.2.1, r.2.2.2.2.2.2.1, r.2.2.2.2.2.2.2, rfl, rfl⟩
theorem set_or {Q : Value → Shared → Prop} (Ra : SetR w s.heap a S n) (Rb : SetR w s.heap b T k) (ne : a ≠ b) (smS : SmallS S) (smT : SmallS T) (hn : n ≤ 5) (hk : k ≤ 5)
    (hQ : ∀ h' c, (∀ x o, s.heap.get? x = some o → h'.get? x = some o) → SetR w h' s.heap.objs.size (orS S T) c → c ≤ n + k → Q (.ref s.heap.objs.size) { s with heap := h' }) :
    wpAny (model P w) A (binaryOp .BitOr (.ref a) (.ref b)) Q E s := by
  have Ta : s.TypeIs (.ref a) "set" := setR_ty Ra
  have Tb : s.TypeIs (.ref b) "set" := setR_ty Rb
  refine wpAny_binaryOp_same Ta Tb F.fills_set_or F.slot_set_or ?_
  refine wpAny_call_entry F.slot_set_or Ta entry_set_or ?_ (F.args_set_or_2 _ _)
  unfold Builtin.«frozenset.__or__»
  refine wpAny_bind (m := Builtin.Frozenset.slot1 "__or__" _) (wpAny_of_eq (a := (.ref a, .ref b)) (by rfl) ?_)
  simp only [Bool.false_eq_true, ↓reduceIte]
  refine wpAny_bind ?_
  refine wpAny_bind (m := Builtin.Frozenset.isAnySet (.ref a)) (any_set Ta ?_)
  refine any_set Tb ?_
  refine wp_if_neg (by simp) ?_
  try refine wpAny_bind (wpAny_pure ?_)
  refine wpAny_bind ?_
  refine wpAny_bind (m := Builtin.Frozenset.copyOf a) ?_
  unfold Builtin.Frozenset.copyOf Builtin.Frozenset.baseOf
  refine wpAny_bind ?_
  refine wpAny_bind (wpAny_isInstance Ta sub_set_self (wpAny_pure ?_))
  refine wpAny_bind ?_
  show wpAny (model P w) A.in1 (newSet (.type "set")) _ E s
  unfold newSet
  refine wpAny_bind (wpAny_byText ?_)
  dsimp only
  refine wpAny_newObj_type ?_
  have fq := fresh_q (h := s.heap) w
  have old : ∀ x o, s.heap.get? x = some o → (s.heap.push { cls := .type "set", dict := none, data := .set #[] 0 (.fresh 0 0 (!w.params.followText "set-order")) }).get? x = some o := fun x o e => Heap.get?_push_of_some _ e
  have na : s.heap.objs.size ≠ a := fun z => Nat.lt_irrefl _ (z ▸ Ra.lt)
  have nb : s.heap.objs.size ≠ b := fun z => Nat.lt_irrefl _ (z ▸ Rb.lt)
  generalize s.heap.push { cls := .type "set", dict := none, data := .set #[] 0 (.fresh 0 0 (!w.params.followText "set-order")) } = H1 at fq old ⊢
  have Ra1 := Ra.at (h' := H1) (old a)
  have Rb1 := Rb.at (h' := H1) (old b)
  refine wpAny_bind (m := Builtin.Frozenset.addrOf (.ref s.heap.objs.size)) (wpAny_of_eq (a := s.heap.objs.size) rfl ?_)
  refine wpAny_bind (set_merge (s := { s with heap := H1 }) fq Ra1 na (fun _ z => by cases z) smS (by decide) hn (.inl rfl) (fun s1 Q' _ q => wpAny_pure q) fun h2 c2 sb2 R2 hc2 hq2 => ?_)
  obtain ⟨m2, hm2, q2⟩ := hq2 rfl
  have eS : orS (fun _ => false) S = S := funext fun j => Bool.false_or _
  rw [eS] at q2 R2
  have Rb2 := Rb1.at (h' := h2) fun o e => (same_get sb2 (Ne.symm nb)).trans e
  refine wpAny_pure ?_
  refine wp_if_pos (by simpa using Ne.symm ne) ?_
  refine wpAny_bind (m := Builtin.Frozenset.addrOf (.ref s.heap.objs.size)) (wpAny_of_eq (a := s.heap.objs.size) rfl ?_)
  refine wpAny_bind (wpAny_holding ?_)
  have Tb2 : Shared.TypeIs { s with heap := h2 } (.ref b) "set" := setR_ty Rb2
  unfold Builtin.Frozenset.updateFrom
  refine wpAny_bind (any_set Tb2 ?_)
  refine wp_if_pos rfl ?_
  refine wpAny_bind (m := Builtin.Frozenset.addrOf (.ref b)) (wpAny_of_eq (a := b) rfl ?_)
  unfold Builtin.Frozenset.merge
  obtain ⟨ob, eb, epb, tb, hob, hexb, hdb, gb, ndb, hmb, hbb, hfb, hnb, hrb, hlb⟩ := id Rb2
  refine wpAny_bind (wpAny_setEpoch_of (s := { s with heap := h2 }) hob hdb hfb ?_)
  refine set_merge (s := { s with heap := h2 }) q2 Rb2 nb smS smT (by omega) hk hm2 (fun s1 Q' eg q => ?_) fun h3 c3 sb3 R3 hc3 _ => ?_
  · unfold Builtin.Frozenset.unchanged
    refine wpAny_bind (wpAny_setEpoch_of (eg.trans hob) hdb hfb ?_)
    refine wp_if_neg (by simp) ?_
    exact wpAny_pure q
  · refine wpAny_pure ?_
    refine wpAny_pure ⟨_, rfl, by simp, hQ h3 c3 (fun x o e => ?_) R3 (by omega)⟩
    have hx : x ≠ s.heap.objs.size := fun z => Nat.lt_irrefl _ (z ▸ Heap.lt_size e)
    exact (same_get sb3 hx).trans ((same_get sb2 hx).trans (old x o e))
variable {X : Cx}
/-- x | y -/
def rSetOr (w : World) : R2 := fun x y H Q => ∃ (a b : Addr) (S T : Int → Bool) (n k : Nat), x = .ref a ∧ y = .ref b ∧ H a = some (SetO w a S n) ∧ H b = some (SetO w b T k) ∧ a ≠ b ∧ SmallS S ∧ SmallS T ∧ n ≤ 5 ∧ k ≤ 5 ∧
  ∀ (p : Addr) (c : Nat), H p = none → c ≤ n + k → Q (.ref p) (upd H p (SetO w p (orS S T) c))
theorem op_setOr : OpR X (binaryOp .BitOr) (rSetOr X.w) := by
  intro pins s σ H x y v u Q I rx ry h
  obtain ⟨a, b, S, T, n, k, rfl, rfl, ha, hb, ne, s1, s2, hn, hk, q⟩ := h
  cases rx
  cases ry
  refine set_or (setO_get I ha) (setO_get I hb) ne s1 s2 hn hk fun h' c old R hc => ?_
  exact ⟨.ref _, upd H s.heap.objs.size (SetO X.w s.heap.objs.size (orS S T) c), I.laid (t' := s.toks) old (Nat.le_refl _) (setO_new R), rfl, q _ c (I.hok.fresh (Nat.le_refl _)) hc⟩
/-- set(t), of a tuple of ints -/
def rSetT (K : PySem.W.Frag) (w : World) : List V → Hp → VK → Prop := fun xs H Q => ∃ (l : Addr) (ns : List Int), xs = [.ref l] ∧ SqT K H l (ns.map V.int) ∧ ns.length + 1 < scanBound ∧
  ∀ (p : Addr) (c : Nat), H p = none → c ≤ ns.length → Q (.ref p) (upd H p (SetO w p (fun j => decide (j ∈ ns)) c))
theorem cr_setT (hc : X.calm = true) : CallR X (.type "set") (rSetT X.K X.w) := by
  intro pins s σ H xs us Q I r h
  obtain ⟨l, ns, rfl, ht, hl, q⟩ := h
  rw [Vals.ref1 r]
  obtain ⟨its, rv, hit, _⟩ := I.tuple ht
  refine call_set_tupI ns (I.ok.hd hc) hit (by simpa using ints_of_vals rv) hl fun h' tk c R hle old => ?_
  exact ⟨.ref _, upd H s.heap.objs.size (SetO X.w s.heap.objs.size (fun j => decide (j ∈ ns)) c), I.laid (t' := tk) old (Nat.le_refl _) (setO_new R), rfl, q _ c (I.hok.fresh (Nat.le_refl _)) hle⟩
end
end Zc
end

section
set_option maxHeartbeats 400000
namespace K02
open PySem PySem.Spec PyProof.Rows L2 Zc
/-- the statement at a place of the program's top -/
def top (i : Nat) : Stmt :=
  PySem.Challenge.pw_lookalike_k02_lots_and_watchers.main.body.getD i (.Pass ⟨0, 0, 0, 0⟩)
abbrev s_is_integer : Stmt := top 1
theorem sc_is_integer : FnScope ["value"]
    ["value"] (defScope s_is_integer) :=
  ⟨rfl, rfl, rfl, by decide +kernel, rfl, by decide +kernel, by decide +kernel⟩
abbrev s_is_number : Stmt := top 2
theorem sc_is_number : FnScope ["value"]
    ["value"] (defScope s_is_number) :=
  ⟨rfl, rfl, rfl, by decide +kernel, rfl, by decide +kernel, by decide +kernel⟩
abbrev s_is_ascending : Stmt := top 3
theorem sc_is_ascending : FnScope ["things", "k"]
    ["things"] (defScope s_is_ascending) :=
  ⟨rfl, rfl, rfl, by decide +kernel, rfl, by decide +kernel, by decide +kernel⟩
abbrev s_is_level : Stmt := top 5
theorem sc_is_level : FnScope ["levels", "value"]
    ["levels", "value"] (defScope s_is_level) :=
  ⟨rfl, rfl, rfl, by decide +kernel, rfl, by decide +kernel, by decide +kernel⟩
abbrev s_is_lot : Stmt := top 6
theorem sc_is_lot : FnScope ["order", "value", "level"]
    ["order", "value"] (defScope s_is_lot) :=
  ⟨rfl, rfl, rfl, by decide +kernel, rfl, by decide +kernel, by decide +kernel⟩
abbrev s_lot_within : Stmt := top 7
theorem sc_lot_within : FnScope ["order", "lot", "level", "low"]
    ["order", "lot", "level"] (defScope s_lot_within) :=
  ⟨rfl, rfl, rfl, by decide +kernel, rfl, by decide +kernel, by decide +kernel⟩
abbrev s_joined_lots : Stmt := top 8
theorem sc_joined_lots : FnScope ["one", "other"]
    ["one", "other"] (defScope s_joined_lots) :=
  ⟨rfl, rfl, rfl, by decide +kernel, rfl, by decide +kernel, by decide +kernel⟩
abbrev s_watchers : Stmt := top 9
theorem sc_watchers : FnScope ["order", "lot", "level"]
    ["order", "lot"] (defScope s_watchers) :=
  ⟨rfl, rfl, rfl, by decide +kernel, rfl, by decide +kernel, by decide +kernel⟩
abbrev s_covered : Stmt := top 10
theorem sc_covered : FnScope ["order", "one", "other", "level"]
    ["order", "one", "other"] (defScope s_covered) :=
  ⟨rfl, rfl, rfl, by decide +kernel, rfl, by decide +kernel, by decide +kernel⟩
abbrev s__law_draw : Stmt := top 12
theorem sc__law_draw : FnScope ["script", "salt", "cells", "blend", "cell"]
    ["script", "salt"] (defScope s__law_draw) :=
  ⟨rfl, rfl, rfl, by decide +kernel, rfl, by decide +kernel, by decide +kernel⟩
abbrev s__law_any : Stmt := top 13
theorem sc__law_any : FnScope ["deal", "bound", "rest"]
    ["deal", "bound"] (defScope s__law_any) :=
  ⟨rfl, rfl, rfl, by decide +kernel, rfl, by decide +kernel, by decide +kernel⟩
abbrev s__law_of : Stmt := top 14
theorem sc__law_of : FnScope ["deal", "some"]
    ["deal", "some"] (defScope s__law_of) :=
  ⟨rfl, rfl, rfl, by decide +kernel, rfl, by decide +kernel, by decide +kernel⟩
abbrev s__law_mixed : Stmt := top 15
theorem sc__law_mixed : FnScope ["deal", "some", "left", "found"]
    ["deal", "some"] (defScope s__law_mixed) :=
  ⟨rfl, rfl, rfl, by decide +kernel, rfl, by decide +kernel, by decide +kernel⟩
abbrev s__law_closed : Stmt := top 16
theorem sc__law_closed : FnScope ["many", "pairs", "below", "turn", "low", "high", "level", "one", "lot"]
    ["many", "pairs"] (defScope s__law_closed) :=
  ⟨rfl, rfl, rfl, by decide +kernel, rfl, by decide +kernel, by decide +kernel⟩
abbrev s__law_order : Stmt := top 17
theorem sc__law_order : FnScope ["deal", "many", "row", "pairs", "a", "b", "turn"]
    ["deal"] (defScope s__law_order) :=
  ⟨rfl, rfl, rfl, by decide +kernel, rfl, by decide +kernel, by decide +kernel⟩
abbrev s__law_lot : Stmt := top 18
theorem sc__law_lot : FnScope ["deal", "many", "level"]
    ["deal", "many"] (defScope s__law_lot) :=
  ⟨rfl, rfl, rfl, by decide +kernel, rfl, by decide +kernel, by decide +kernel⟩
abbrev s_law : Stmt := top 19
theorem sc_law : FnScope ["script", "deal", "order", "many", "turn", "one", "other", "level", "first", "second", "both", "due", "bad", "spot", "a", "value"]
    ["script"] (defScope s_law) :=
  ⟨rfl, rfl, rfl, by decide +kernel, rfl, by decide +kernel, by decide +kernel⟩
end K02
end

section
set_option maxHeartbeats 1000000
namespace K02
open PySem PySem.Spec PyProof.Rows L2 Zc
section
variable {P : Program} {w : World} {K : PySem.W.Frag} {mg : Str → Option Value} {base : Heap}

theorem ok_any {f : Addr} {fd : FuncData} (D : At K mg "_law_any" s__law_any ["deal", "bound"] f fd) (mi : mg "int" = none) :
    FnOk P w K mg base CX0 1 f fd ["deal", "bound"] spAny := by
  refine D.F.ok sc__law_any (fun vs H Q E h => ?_) (fun cdv A outer s H vs Q E hr h => ?_)
  · obtain ⟨d, l, n, rfl, _⟩ := h
    rfl
  obtain ⟨d, l, n, rfl, hD, n0, n1, k⟩ := h
  have hu := hr.units
  refine ⟨_, pss_cons (ps_while PassesOwn.never (PW.pt (pw_and
        (pt_cmpR (op_neD hu) (pe_ix ix_list (pv 0) pe_int (fun _ _ => rfl)) (pe_lst pa_nil) (nomark _))
        (pw_and1 (pt_cmpR op_eq (pe_ix ix_list (pe_ix ix_list (pv 0) pe_int (fun _ _ => rfl)) (pe_un un_neg pe_int) (fun _ _ => rfl)) pe_int (nomark _)))))
      (pss_one (ps_expr (pe_bm0 PySem.F.plainAttrs_list PySem.F.slot_list_pop PySem.F.type_list_pop mt_pop (pe_ix ix_list (pv 0) pe_int (fun _ _ => rfl))))))
    (pss_cons (ps_if (pt_cmpR (op_neD hu) (pe_ix ix_list (pv 0) pe_int (fun _ _ => rfl)) (pe_lst pa_nil) (nomark _))
      (pss_cons (ps_set (i := 2) sc__law_any.nd rfl (.inl rfl) (pe_callTy call_int1 (by rfl) mi boot_int (pa_cons (pe_bm0 PySem.F.plainAttrs_list PySem.F.slot_list_pop PySem.F.type_list_pop mt_pop (pe_ix ix_list (pv 0) pe_int (fun _ _ => rfl))) pa_nil)))
      (pss_cons (ps_expr (pe_bm PySem.F.plainAttrs_list PySem.F.slot_list_append PySem.F.type_list_append mt_append (pe_ix ix_list (pv 0) pe_int (fun _ _ => rfl)) (pa_cons (pe_op op_fdivW (pv 2) (pv 1)) pa_nil)))
      (pss_one (ps_ret (pe_op op_mod (pv 2) (pv 1)))))) pss_nil)
    (pss_cons (ps_asg (pe_op op_mod (pe_callTy call_int1 (by rfl) mi boot_int (pa_cons (pe_op op_add (pe_op op_mul (pe_ix ix_list (pv 0) pe_int (fun _ _ => rfl)) pe_int) pe_int) pa_nil)) pe_int)
        (pg_sub (pv 0) pe_int set_list))
    (pss_one (ps_ret (pe_op op_mod (pe_callTy call_int1 (by rfl) mi boot_int (pa_cons (pe_op op_fdivW (pe_ix ix_list (pv 0) pe_int (fun _ _ => rfl)) pe_int) pa_nil)) (pv 1)))))), ?_⟩
  refine while_by (fun σ H' => ∃ y, σ = [some (.ref d), some (.int n), y] ∧ Deal H' d l ∧ But d l H H')
    (fun _ H' => match H' l with | some (.lst xs) => xs.length | _ => 0) ⟨none, rfl, hD, But.refl _ _ _⟩ ?_ ?_
  · rintro σ H1 ⟨y, rfl, ⟨xs, b, ndl, hd, hl, hlen, hpos, b0, b1⟩, hB⟩
    refine ⟨.ref d, rfl, d, _, 0, .ref l, rfl, rfl, .inl (.inl hd), rfl, Nat.zero_le _, fun p np => ?_⟩
    have nld : l ≠ p := ne_of_none hl np
    have ndp : d ≠ p := ne_of_none hd np
    refine ne_nil_read (.inl (.inl (by rw [upd_ne nld]; exact hl))) (.inl (.inl upd_same)) ⟨_, rfl, ?_⟩
    have hd1 : (upd H1 p (.lst [])) d = some (.lst [.ref l, .int b]) := by rw [upd_ne ndp]; exact hd
    have hl1 : (upd H1 p (.lst [])) l = some (.lst (xs.map V.int)) := by rw [upd_ne nld]; exact hl
    have hB1 : But d l H (upd H1 p (.lst [])) := hB.trans (.of (same_new np))
    have at0 : atI [V.ref l, V.int b] 0 = some (V.ref l) := rfl
    have at1 : atI [V.ref l, V.int b] 1 = some (V.int b) := rfl
    rcases snoc_cases xs with rfl | ⟨ys, z, rfl⟩
    · -- the list is empty: the loop ends, the int is turned
      refine iteFe rfl (iteFe rfl ?_)
      refine ⟨.ref d, rfl, d, _, 0, .ref l, rfl, rfl, .inl (.inl hd1), at0, Nat.zero_le _, fun p2 np2 => ?_⟩
      have nl2 : l ≠ p2 := ne_of_none hl1 np2
      have nd2 : d ≠ p2 := ne_of_none hd1 np2
      refine ne_nil_read (.inl (.inl (by rw [upd_ne nl2]; exact hl1))) (.inl (.inl upd_same)) ⟨_, rfl, iteFe rfl ?_⟩
      have hd2 : (upd (upd H1 p (.lst [])) p2 (.lst [])) d = some (.lst [.ref l, .int b]) := by rw [upd_ne nd2]; exact hd1
      have hl2 : (upd (upd H1 p (.lst [])) p2 (.lst [])) l = some (.lst (([] : List Int).map V.int)) := by rw [upd_ne nl2]; exact hl1
      have hB2 := hB1.trans (.of (same_new (o := .lst []) np2))
      refine ⟨.ref d, rfl, d, _, 1, .int b, rfl, rfl, .inl (.inl hd2), at1, _, _, rfl, rfl, .inr ⟨by decide, by decide⟩, _, _, rfl, rfl, .inl ⟨_, rfl, _, _, rfl, rfl, by show (0 : Int) < 2147483647; decide, ?_⟩⟩
      refine ⟨.ref d, rfl, d, _, 1, 1, rfl, rfl, hd2, rfl, ?_⟩
      have c0 : 0 ≤ (b * 40693 + 71) % 2147483647 := Int.emod_nonneg _ (by decide)
      have c1 : (b * 40693 + 71) % 2147483647 < 2147483647 := Int.emod_lt_of_pos _ (by decide)
      refine ⟨.ref d, rfl, d, _, 1, _, rfl, rfl, .inl (.inl upd_same), rfl, _, _, rfl, rfl, ⟨by decide, by decide⟩, .inl ⟨_, rfl, .int n, rfl, _, _, rfl, rfl, n0, ?_⟩⟩
      exact k _ _ (Int.emod_nonneg _ (by omega)) (Int.emod_lt_of_pos _ n0) (Deal.num ndl hl2 (Nat.zero_le _) (fun x hx => absurd hx List.not_mem_nil) c0 c1) hB2.updD
    · refine iteTe (snoc_ne ys z) ?_
      rw [snoc_map] at hl hl1
      refine ⟨.ref d, rfl, d, _, 0, .ref l, rfl, rfl, .inl (.inl hd1), at0, 1, rfl, l, _, -1, .int z, rfl, rfl, .inl (.inl hl1), atI_last _ _, rfl, _, rfl, ?_⟩
      have lenY : ys.length + 1 ≤ 48 := by rw [← snoc_len ys z]; exact hlen
      have posY : ∀ x ∈ ys, 0 ≤ x := fun x hx => hpos x (List.mem_append_left _ hx)
      have z0 : 0 ≤ z := hpos z (List.mem_append_right _ (List.mem_singleton.mpr rfl))
      refine ite2 (fun e => ?_) (fun e => ?_)
      · -- its last number is 0: it goes
        refine ⟨.ref d, rfl, d, _, 0, .ref l, rfl, rfl, .inl (.inl hd1), at0, .inl ⟨rfl, _, .inl (.inl hl1)⟩, l, _, .int z, rfl, rfl, hl1, snoc_last _ _, ?_⟩
        refine ⟨⟨y, rfl, ?_, hB1.updL⟩, ?_⟩
        · rw [List.dropLast_concat]
          exact Deal.list ndl hd1 (by omega) posY b0 b1
        · show (match upd (upd H1 p (.lst [])) l (.lst (ys.map V.int ++ [V.int z]).dropLast) l with | some (.lst xs) => xs.length | _ => 0) < (match H1 l with | some (.lst xs) => xs.length | _ => 0)
          rw [upd_same, hl]
          simp
      · -- it is not: it is parted
        refine ⟨.ref d, rfl, d, _, 0, .ref l, rfl, rfl, .inl (.inl hd1), at0, Nat.zero_le _, fun p2 np2 => ?_⟩
        have nl2 : l ≠ p2 := ne_of_none hl1 np2
        have nd2 : d ≠ p2 := ne_of_none hd1 np2
        have hd2 : (upd (upd H1 p (.lst [])) p2 (.lst [])) d = some (.lst [.ref l, .int b]) := by rw [upd_ne nd2]; exact hd1
        have hl2 : (upd (upd H1 p (.lst [])) p2 (.lst [])) l = some (.lst (ys.map V.int ++ [V.int z])) := by rw [upd_ne nl2]; exact hl1
        have hB2 := hB1.trans (.of (same_new (o := .lst []) np2))
        refine ne_nil_read (ns := ys ++ [z]) (.inl (.inl (by rw [snoc_map]; exact hl2))) (.inl (.inl upd_same)) ⟨_, rfl, iteTe (snoc_ne ys z) ?_⟩
        -- rest = int(deal[0].pop())
        refine ⟨.ref d, rfl, d, _, 0, .ref l, rfl, rfl, .inl (.inl hd2), at0, .inl ⟨rfl, _, .inl (.inl hl2)⟩, l, _, .int z, rfl, rfl, hl2, snoc_last _ _, .inl ⟨z, rfl, ?_⟩⟩
        rw [List.dropLast_concat]
        -- deal[0].append(rest // bound)
        have hd3 : (upd (upd (upd H1 p (.lst [])) p2 (.lst [])) l (.lst (ys.map V.int))) d = some (.lst [.ref l, .int b]) := by rw [upd_ne ndl]; exact hd2
        refine ⟨.ref d, rfl, d, _, 0, .ref l, rfl, rfl, .inl (.inl hd3), at0, .inl ⟨rfl, _, .inl (.inl upd_same)⟩, .int z, rfl, .int n, rfl, z, n, rfl, rfl, wide_div n0 (b := 64) (by omega) (by decide) (by decide), l, _, _, rfl, rfl, upd_same, by rw [List.length_map]; exact Nat.lt_of_le_of_lt (show ys.length ≤ 48 by omega) (by decide), ?_⟩
        -- return rest % bound
        refine ⟨.int z, rfl, .int n, rfl, z, n, rfl, rfl, n0, ?_⟩
        refine k _ _ (Int.emod_nonneg _ (by omega)) (Int.emod_lt_of_pos _ n0) ?_ hB2.updL.updL
        rw [← snoc_map]
        refine Deal.list ndl hd3 (by rw [snoc_len]; omega) (fun x hx => ?_) b0 b1
        rcases List.mem_append.mp hx with hx | hx
        · exact posY x hx
        · rw [List.mem_singleton.mp hx]
          exact Int.ediv_nonneg z0 (by omega)
  · intro σ H1 Q1 Q2 hq h
    obtain ⟨v, e1, p, xs, i, v', e2, e3, e4, e5, e6, h2⟩ := h
    refine ⟨v, e1, p, xs, i, v', e2, e3, e4, e5, e6, fun p2 np2 => ?_⟩
    obtain ⟨d1, d2, g1, g2, g3, g4, c, e7, h3⟩ := h2 p2 np2
    refine ⟨d1, d2, g1, g2, g3, g4, c, e7, ?_⟩
    cases c with
    | false => exact iteF (hq _ _ (by rw [if_neg Bool.false_ne_true] at h3; exact h3))
    | true =>
      rw [if_pos rfl] at h3
      refine iteT ?_
      obtain ⟨v, e1, p, xs, i, v', e2, e3, e4, e5, j, e6, q, zs, j2, v2, f2, f3, f4, f5, f6, c, f7, h4⟩ := h3
      exact ⟨v, e1, p, xs, i, v', e2, e3, e4, e5, j, e6, q, zs, j2, v2, f2, f3, f4, f5, f6, c, f7, hq _ _ h4⟩
theorem ok_of {f fA : Addr} {fd fdA : FuncData} (D : At K mg "_law_of" s__law_of ["deal", "some"] f fd)
    (DA : At K mg "_law_any" s__law_any ["deal", "bound"] fA fdA) (mi : mg "int" = none) (ml : mg "len" = none) :
    FnOk P w K mg base CX0 2 f fd ["deal", "some"] (spOf K) := by
  have GA : FnOk P w K mg base CX0 1 fA fdA ["deal", "bound"] spAny := ok_any DA mi
  refine D.F.ok sc__law_of (fun vs H Q E h => ?_) (fun cdv A outer s H vs Q E hr h => ?_)
  · obtain ⟨d, l, a, xs, rfl, _⟩ := h
    rfl
  obtain ⟨d, l, a, xs, rfl, hD, hS, n0, n1, k⟩ := h
  refine ⟨_, pss_one (ps_ret (pe_ix ix_list (pv 1) (pe_call GA hr (by rfl) DA.g DA.F.kp DA.b .nil pass0 (pa_cons (pv 0) (pa_cons (pe_callB call_len_seq (by rfl) ml PySem.boot_len (pa_cons (pv 1) pa_nil)) pa_nil))) (fun _ _ => rfl))), ?_⟩
  refine ⟨.ref a, rfl, .ref d, rfl, .ref a, rfl, a, xs, rfl, .inl (hS H (But.refl _ _ _)), d, l, (xs.length : Int), rfl, hD, by omega, by omega, fun r H' r0 r1 hD' hB => ?_⟩
  have hr1 : r.toNat < xs.length := by omega
  refine ⟨a, xs, r, xs[r.toNat], rfl, rfl, hS H' hB, ?_, k r.toNat _ H' (List.getElem?_eq_getElem hr1) hD' hB⟩
  have e : atI xs ((r.toNat : Nat) : Int) = some xs[r.toNat] := atI_nat (List.getElem?_eq_getElem hr1)
  rw [Int.toNat_of_nonneg r0] at e
  exact e

theorem ok_draw {f : Addr} {fd : FuncData} (D : At K mg "_law_draw" s__law_draw ["script", "salt"] f fd) (mi : mg "int" = none) (ma : mg "abs" = none) :
    FnOk P w K mg base CX0 1 f fd ["script", "salt"] (spDraw K) := by
  refine D.F.ok sc__law_draw (fun vs H Q E h => ?_) (fun cdv A outer s H vs Q E hr h => ?_)
  · obtain ⟨a, ns, z, rfl, _⟩ := h
    rfl
  obtain ⟨a, ns, z, rfl, hS, hlen, z0, z1, k⟩ := h
  have nd := sc__law_draw.nd
  refine ⟨_, pss_cons (ps_setLc (i := 2) (own := [("cell", 4)]) (g := gName 4) (tt := tYes) (by rfl) nd rfl rfl (sw_true rfl rfl rfl (by decide +kernel))
      (pi_list (pe_slice sl_list (pv 0) po_none (po_some pe_int))) (blkOk_by (own := [("cell", 4)]) (N := ["script", "salt", "cells", "blend", "cell"]) (sc := defScope s__law_draw) (by decide +kernel))
      (fun _ _ _ _ _ => pg_name (i := 4) nd rfl (Or.inl rfl)) (fun _ _ _ _ _ => pts_nil)
      (fun _ _ _ _ _ => pe_callB call_abs (by rfl) ma boot_abs (pa_cons (pe_callTy call_int1 (by rfl) mi boot_int (pa_cons (pv 4) pa_nil)) pa_nil)))
    (pss_cons (ps_set (i := 3) nd rfl (.inl rfl) (pe_op op_add pe_int (pe_op op_mul pe_int (pv 1))))
    (pss_cons (ps_for PassesOwn.never rfl (pi_list (pv 2)) (pg_name (i := 4) nd rfl (.inl rfl))
      (pss_one (ps_set (i := 3) nd rfl (.inl rfl) (pe_op op_mod (pe_callTy call_int1 (by rfl) mi boot_int (pa_cons (pe_op op_add (pe_op op_add (pe_op op_mul (pv 3) pe_int) (pe_op op_mod (pv 4) pe_int)) pe_int) pa_nil)) pe_int))))
    (pss_one (ps_ret (pe_lst (pa_cons (pe_revL (pe_lc (own := [("cell", 4)]) (g := gName 4) (by rfl) nd (pi_list (pv 2))
        (blkOk_by (own := [("cell", 4)]) (N := ["script", "salt", "cells", "blend", "cell"]) (sc := defScope s__law_draw) (by decide +kernel))
        (fun _ _ _ _ _ => pg_name (i := 4) nd rfl (Or.inl rfl)) (fun _ _ _ _ _ => pts_one (pt_cmpR op_ge (pv 4) (pe_op op_pow pe_int pe_int) (nomark _)))
        (fun _ _ _ _ _ => pv 4))) (pa_cons (pv 3) pa_nil))))))), ?_⟩
  obtain ⟨ms, ems, lms⟩ := cut48 ns
  -- cells
  refine ⟨.ref a, rfl, 48, rfl, a, _, rfl, hS, fun c nc => ⟨c, rfl, ⟨_, .inl (.inl upd_same)⟩, fun D nD => ?_⟩⟩
  rw [ems] at nD ⊢
  have scl : Same H (upd H c (.lst (ms.map V.int))) := same_new nc
  have ncD : c ≠ D := ne_of_none upd_same nD
  refine lc_list (xs := ms.map V.int) (fun i H' => ∃ acc : List Int, H' c = some (.lst (ms.map V.int)) ∧ H' D = some (.lst (acc.map V.int)) ∧ acc.length ≤ i ∧ (∀ x ∈ acc, 0 ≤ x) ∧ Same H H')
    ⟨[], by rw [upd_ne ncD, upd_same], upd_same, Nat.le_refl _, fun x hx => absurd hx List.not_mem_nil, scl.trans (same_new nD)⟩
    (fun i H' _ ⟨_, h1, _⟩ => .inl (.inl h1)) ?_ ?_
  · rintro i x H' hx ⟨acc, h1, h2, h3, h4, h5⟩
    obtain ⟨n, _, rfl⟩ := map_at hx
    have hlt : i < 48 := by
      have q := (List.getElem?_eq_some_iff.mp hx).1
      rw [List.length_map] at q
      omega
    refine ⟨rfl, .int n, rfl, .inl ⟨n, rfl, n, rfl, acc.map V.int, h2, ?_, acc ++ [if n < 0 then -n else n], ?_, ?_, ?_, ?_, ?_⟩⟩
    · rw [List.length_map]
      exact Nat.lt_of_le_of_lt (show acc.length ≤ 48 by omega) (by decide)
    · rw [upd_ne ncD]
      exact h1
    · rw [upd_same, snoc_map]
    · rw [snoc_len]
      omega
    · intro x hx
      rcases List.mem_append.mp hx with hx | hx
      · exact h4 x hx
      · rw [List.mem_singleton.mp hx]
        split <;> omega
    · intro b o e
      by_cases hb : b = D
      · exact absurd e (by rw [hb]; intro e; have := scl.free nD; rw [this] at e; cases e)
      · rw [upd_ne hb]
        exact h5 b o e
  rintro H1 ⟨cs, h1, h2, h3, h4, h5⟩
  have lcs : cs.length ≤ 48 := by
    rw [List.length_map] at h3
    omega
  -- blend
  refine ⟨.int z, rfl, 104729, z, rfl, rfl, .inl ⟨by decide, by decide⟩, 7919, _, rfl, rfl, ?_⟩
  refine ⟨.ref D, rfl, D, rfl, ⟨_, .inl (.inl h2)⟩, for_list (K := K) (a := D) (xs := cs.map V.int)
    (fun i σ H' => ∃ (b : Int) (y : Option V), σ = [some (.ref a), some (.int z), some (.ref D), some (.int b), y] ∧ H' = H1 ∧ 0 ≤ b ∧ b < 2147483647)
    ⟨_, none, rfl, rfl, by omega, by omega⟩ (fun i σ H' _ ⟨_, _, _, e, _⟩ => by rw [e]; exact .inl (.inl h2)) ?_ ?_⟩
  · rintro i x σ H' hx ⟨b, y, rfl, rfl, b0, b1⟩
    obtain ⟨n, _, rfl⟩ := map_at hx
    refine ⟨.int b, rfl, b, 48271, rfl, rfl, .inr ⟨by decide, by decide⟩, .int n, rfl, n, 2147483549, rfl, rfl, by show (0 : Int) < 2147483549; decide, _, _, rfl, rfl, _, _, rfl, rfl, .inl ⟨_, rfl, _, 2147483647, rfl, rfl, by show (0 : Int) < 2147483647; decide, ?_⟩⟩
    exact ⟨_, _, rfl, rfl, Int.emod_nonneg _ (by decide), Int.emod_lt_of_pos _ (by decide)⟩
  rintro σ H' ⟨b, y, rfl, rfl, b0, b1⟩
  -- what is handed back
  refine ⟨.ref D, rfl, D, rfl, ⟨_, .inl (.inl h2)⟩, fun L nL => ?_⟩
  have nDL : D ≠ L := ne_of_none h2 nL
  refine lc_list (xs := cs.map V.int) (fun i H2 => ∃ acc : List Int, H2 D = some (.lst (cs.map V.int)) ∧ H2 L = some (.lst (acc.map V.int)) ∧ acc.length ≤ i ∧ (∀ x ∈ acc, 0 ≤ x) ∧ Same H H2)
    ⟨[], by rw [upd_ne nDL]; exact h2, upd_same, Nat.le_refl _, fun x hx => absurd hx List.not_mem_nil, h5.trans (same_new nL)⟩
    (fun i H2 _ ⟨_, g1, _⟩ => .inl (.inl g1)) ?_ ?_
  · rintro i x H2 hx ⟨acc, g1, g2, g3, g4, g5⟩
    obtain ⟨n, hn, rfl⟩ := map_at hx
    have hlt : i < 48 := by
      have q := (List.getElem?_eq_some_iff.mp hn).1
      omega
    refine ⟨rfl, .int n, rfl, 10, 18, rfl, rfl, ⟨by decide, by decide, by decide⟩, n, _, rfl, rfl, _, rfl, ite2 (fun hge => ?_) (fun hge => ?_)⟩
    · refine ⟨.int n, rfl, acc.map V.int, g2, ?_, acc ++ [n], ?_, ?_, ?_, ?_, ?_⟩
      · rw [List.length_map]
        exact Nat.lt_of_le_of_lt (show acc.length ≤ 48 by omega) (by decide)
      · rw [upd_ne nDL]
        exact g1
      · rw [upd_same, snoc_map]
      · rw [snoc_len]
        omega
      · intro x hx
        rcases List.mem_append.mp hx with hx | hx
        · exact g4 x hx
        · rw [List.mem_singleton.mp hx]
          exact h4 n (List.mem_of_getElem? hn)
      · intro q o e
        by_cases hb : q = L
        · exact absurd e (by rw [hb]; intro e; have := h5.free nL; rw [this] at e; cases e)
        · rw [upd_ne hb]
          exact g5 q o e
    · exact ⟨acc, g1, g2, by omega, g4, g5⟩
  rintro H2 ⟨xs, g1, g2, g3, g4, g5⟩
  rw [List.length_map] at g3
  refine ⟨L, _, rfl, .inl (.inl g2), fun l nl => ?_⟩
  refine ⟨.int b, rfl, by show 2 ≤ sizeLine; decide, fun d nd2 => ?_⟩
  have ndl : d ≠ l := fun e => by
    rw [e, upd_same] at nd2
    cases nd2
  have sl : Same H (upd H2 l (.lst (xs.map V.int).reverse)) := g5.trans (same_new nl)
  refine k d l _ (sl.free nd2) (g5.free nl) ⟨xs.reverse, b, ndl, upd_same, ?_, ?_, ?_, b0, b1⟩ (sl.trans (same_new nd2))
  · rw [upd_ne (fun e => ndl e.symm), upd_same, List.map_reverse]
  · rw [List.length_reverse]
    omega
  · intro x hx
    exact g4 x (List.mem_reverse.mp hx)
end
end K02
end

section
set_option maxHeartbeats 1000000
set_option pp.maxSteps 400
namespace K02
open PySem PySem.Spec PyProof.Rows L2 Zc
/-! ### what the program's defs tell of data -/
/-- a promise over data: some truth -/
def spQ (C : Hp → Prop) (rel : List PyData → Bool → Prop) : Sp := fun vs H Q _ => ∃ (T : Hp) (ds : List PyData) (r : Bool), Same T H ∧ DaA T ds vs ∧ rel ds r ∧ C H ∧
  ∀ H' T', Ext T H T' H' → Q (.bl r) H'
/-- .. some data -/
def spD (C : Hp → Prop) (rel : List PyData → PyData → Prop) : Sp := fun vs H Q _ => ∃ (T : Hp) (ds : List PyData) (r : PyData), Same T H ∧ DaA T ds vs ∧ rel ds r ∧ C H ∧
  ∀ H' T' v, Ext T H T' H' → Da T' r v → Q v H'
def rInt (ds : List PyData) (r : Bool) : Prop := ∃ d, ds = [d] ∧ r = isIntD d
def rNum (ds : List PyData) (r : Bool) : Prop := ∃ d, ds = [d] ∧ r = isNumD d
def tupLen (d : PyData) (n : Int) : Bool := match d with
  | .tuple xs => decide ((xs.length : Int) = n)
  | _ => false
def rTupOf (ds : List PyData) (r : Bool) : Prop := ∃ d n, ds = [d, .int n] ∧ r = tupLen d n
def areNums : PyData → Bool
  | .tuple xs => xs.all isNumD
  | _ => false
def rNums (ds : List PyData) (r : Bool) : Prop := ∃ d, ds = [d] ∧ r = areNums d
def isLev (n : Int) : PyData → Bool
  | .int i => decide (0 ≤ i) && decide (i < n)
  | _ => false
def rLev (ds : List PyData) (r : Bool) : Prop := ∃ n d, ds = [.int n, d] ∧ r = isLev n d
section
variable {P : Program} {w : World} {K : PySem.W.Frag} {mg : Str → Option Value} {base : Heap}
theorem ok_is_integer {f : Addr} {fd : FuncData} (D : At K mg "is_integer" s_is_integer ["value"] f fd) (m_isinstance : mg "isinstance" = none) (m_int : mg "int" = none) (m_bool : mg "bool" = none) :
    FnOk P w K mg base CX0 1 f fd ["value"] (spQ C0 rInt) := by
  refine D.F.ok sc_is_integer (fun vs H Q E h => ?_) (fun cdv A outer s H vs Q E hr h => ?_)
  · obtain ⟨T, _, _, _, hd, ⟨d, rfl, rfl⟩, _⟩ := h
    exact hd.len
  obtain ⟨T, _, _, sT, hd, ⟨d, rfl, rfl⟩, _, q⟩ := h
  obtain ⟨v, _, rfl, hv, rfl⟩ := hd
  obtain ⟨t, ty, e1, e2, _⟩ := hv.ask (K := K) sT
  refine ⟨_, (pss_one (ps_ret (pe_and (pe_callB call_isi (by rfl) m_isinstance boot_isinstance (pa_cons (pv 0) (pa_cons (pe_bltn (v := .ty "int") (by rfl) m_int boot_int rfl) pa_nil))) (pe_one (pe_not (pe_callB call_isi (by rfl) m_isinstance boot_isinstance (pa_cons (pv 0) (pa_cons (pe_bltn (v := .ty "bool") (by rfl) m_bool boot_bool rfl) pa_nil)))))))), ?_⟩
  refine ⟨v, rfl, v, .ty "int", t, _, _, rfl, .ty _, ty, e1, _, rfl, ?_⟩
  have qq := q H T (.refl sT)
  refine ite2 (fun e => ?_) (fun e => ?_)
  · refine ⟨v, rfl, v, .ty "bool", t, _, _, rfl, .ty _, ty, e2, _, rfl, ?_⟩
    cases d <;> first | exact qq | cases e
  · cases d <;> first | exact qq | exact absurd rfl e
theorem ok_is_number {f fI : Addr} {fd fdI : FuncData} (D : At K mg "is_number" s_is_number ["value"] f fd) (DI : At K mg "is_integer" s_is_integer ["value"] fI fdI)
    (m_isinstance : mg "isinstance" = none) (m_int : mg "int" = none) (m_bool : mg "bool" = none) : FnOk P w K mg base CX0 2 f fd ["value"] (spQ C0 rNum) := by
  have GI : FnOk P w K mg base CX0 1 fI fdI ["value"] (spQ C0 rInt) := ok_is_integer DI m_isinstance m_int m_bool
  refine D.F.ok sc_is_number (fun vs H Q E h => ?_) (fun cdv A outer s H vs Q E hr h => ?_)
  · obtain ⟨T, _, _, _, hd, ⟨d, rfl, rfl⟩, _⟩ := h
    exact hd.len
  obtain ⟨T, _, _, sT, hd, ⟨d, rfl, rfl⟩, _, q⟩ := h
  obtain ⟨v, _, rfl, hv, rfl⟩ := hd
  refine ⟨_, (pss_one (ps_ret (pe_and (pe_call GI hr (by rfl) DI.g DI.F.kp DI.b .nil pass0 (pa_cons (pv 0) pa_nil)) (pe_one (pe_cmpR op_ge (pv 0) pe_int (nomark _)))))), ?_⟩
  refine ⟨v, rfl, T, [d], _, sT, .one hv, ⟨d, rfl, rfl⟩, trivial, fun H1 T1 x1 => ⟨_, rfl, ?_⟩⟩
  have qq := q H1 T1 x1
  cases d with
  | int i =>
    obtain rfl : v = .int i := hv
    exact iteT ⟨.int i, rfl, i, 0, rfl, rfl, qq⟩
  | _ => exact iteF qq
theorem ok_is_level {f fI fN : Addr} {fd fdI fdN : FuncData} (D : At K mg "is_level" s_is_level ["levels", "value"] f fd) (DN : At K mg "is_number" s_is_number ["value"] fN fdN) (DI : At K mg "is_integer" s_is_integer ["value"] fI fdI)
    (m_isinstance : mg "isinstance" = none) (m_int : mg "int" = none) (m_bool : mg "bool" = none) : FnOk P w K mg base CX0 3 f fd ["levels", "value"] (spQ C0 rLev) := by
  have GN : FnOk P w K mg base CX0 2 fN fdN ["value"] (spQ C0 rNum) := ok_is_number DN DI m_isinstance m_int m_bool
  refine D.F.ok sc_is_level (fun vs H Q E h => ?_) (fun cdv A outer s H vs Q E hr h => ?_)
  · obtain ⟨T, _, _, _, hd, ⟨n, d, rfl, rfl⟩, _⟩ := h
    exact hd.len
  obtain ⟨T, _, _, sT, hd, ⟨n, d, rfl, rfl⟩, _, q⟩ := h
  obtain ⟨u, _, rfl, hu, v, _, rfl, hv, rfl⟩ := hd
  obtain rfl : u = .int n := hu
  refine ⟨_, (pss_one (ps_ret (pe_and (pe_call GN hr (by rfl) DN.g DN.F.kp DN.b .nil pass0 (pa_cons (pv 1) pa_nil)) (pe_one (pe_cmpR op_lt (pv 1) (pv 0) (nomark _)))))), ?_⟩
  refine ⟨v, rfl, T, [d], _, sT, .one hv, ⟨d, rfl, rfl⟩, trivial, fun H1 T1 x1 => ⟨_, rfl, ?_⟩⟩
  have qq := q H1 T1 x1
  cases d with
  | int i =>
    obtain rfl : v = .int i := hv
    refine ite2 (fun e => ?_) (fun e => ?_)
    · refine ⟨.int i, rfl, .int n, rfl, i, n, rfl, rfl, ?_⟩
      have e' : decide (0 ≤ i) = true := e
      rw [show isLev n (.int i) = (decide (0 ≤ i) && decide (i < n)) from rfl, e', Bool.true_and] at qq
      exact qq
    · have e' : decide (0 ≤ i) = false := Bool.eq_false_iff.mpr e
      rw [show isLev n (.int i) = (decide (0 ≤ i) && decide (i < n)) from rfl, e', Bool.false_and] at qq
      exact qq
  | _ => exact iteF qq
end
end K02
end

section
set_option maxHeartbeats 1000000
set_option pp.maxSteps 400
namespace K02
open PySem PySem.Spec PyProof.Rows L2 Zc
/-! ### lots, orders, records as data -/
def natD (n : Nat) : PyData := .int (n : Int)
def natsT (l : List Nat) : PyData := .tuple (l.map natD)
def ordD (O : List (List Nat)) : PyData := .tuple (O.map natsT)
def natV (n : Nat) : V := .int (n : Int)
theorem nats_of {T : Hp} : ∀ {l : List Nat} {vs : List V}, DaA T (l.map natD) vs → vs = l.map natV
  | [], _, h => h
  | n :: r, _, ⟨v, vs, q, h, g⟩ => by
    have h' : v = natV n := h
    rw [q, h', nats_of g]
    rfl
theorem nats_da {T : Hp} : ∀ (l : List Nat), DaA T (l.map natD) (l.map natV)
  | [] => rfl
  | n :: r => ⟨natV n, r.map natV, rfl, rfl, nats_da r⟩
theorem flat_nats (l : List Nat) : (l.map natV).all flatV = true := by
  rw [List.all_eq_true]
  intro x hx
  obtain ⟨n, _, rfl⟩ := List.mem_map.mp hx
  rfl
theorem inV_nats (n : Nat) (l : List Nat) : inV (natV n) (l.map natV) = decide (n ∈ l) := by
  unfold inV
  rw [List.any_map, Bool.eq_iff_iff, List.any_eq_true, decide_eq_true_iff]
  constructor
  · rintro ⟨m, hm, e⟩
    have e' : (decide ((m : Int) = (n : Int)) : Bool) = true := by
      have : eqV (natV m) (natV n) = true := e
      simpa [eqV, natV] using this
    have : (m : Int) = n := of_decide_eq_true e'
    have : m = n := by omega
    exact this ▸ hm
  · intro h
    refine ⟨n, h, ?_⟩
    show eqV (natV n) (natV n) = true
    simp [eqV, natV]
/-- a level's lot -/
theorem ord_at {T : Hp} {O : List (List Nat)} {vs : List V} {i : Nat} {ms : List Nat} (h : DaA T (O.map natsT) vs) (e : O[i]? = some ms) :
    ∃ a xs, vs[i]? = some (.ref a) ∧ T a = some (.tup (ms.map natV)) ∧ xs = ms.map natV := by
  obtain ⟨x, hx, a, xs, rfl, ea, hd⟩ := h.at (show (O.map natsT)[i]? = some (natsT ms) by rw [List.getElem?_map, e]; rfl)
  have := nats_of hd
  subst this
  exact ⟨a, _, hx, ea, rfl⟩
/-- lot_within: the lot O[lv] -/
def rWithin (ds : List PyData) (r : Bool) : Prop := ∃ (O : List (List Nat)) (lot : List Nat) (lv : Nat) (ms : List Nat), ds = [ordD O, natsT lot, natD lv] ∧ O[lv]? = some ms ∧ r = lot.all fun l => decide (l ∈ ms)
section
variable {P : Program} {w : World} {K : PySem.W.Frag} {mg : Str → Option Value} {base : Heap}
theorem ok_lot_within {f c p : Addr} {fd : FuncData} (D : AtT K mg base "lot_within" s_lot_within ["order", "lot", "level"] f fd c p) (m_all : mg "all" = none) :
    FnOk P w K mg base CX0 4 f fd ["order", "lot", "level"] (spQ (fun H => H p = some (tabX p)) rWithin) := by
  have TB := D.tab
  refine fn_okC D.at_.F D.code sc_lot_within (fun vs H Q E h => ?_) (fun A outer s H vs Q E hr h => ?_)
  · obtain ⟨T, _, _, _, hd, ⟨O, lot, lv, ms, rfl, _, rfl⟩, _⟩ := h
    exact hd.len
  obtain ⟨T, _, _, sT, hd, ⟨O, lot, lv, ms, rfl, hms, rfl⟩, hP, q⟩ := h
  obtain ⟨v1, _, rfl, ⟨ao, xo, rfl, eo, ho⟩, v2, _, rfl, ⟨al, xl, rfl, el, hl⟩, v3, _, rfl, hv, rfl⟩ := hd
  obtain rfl : v3 = natV lv := hv
  have nd := sc_lot_within.nd
  refine ⟨_, (pss_one (ps_ret (pe_allG (own := [("low", 3)]) (g := gName 3) (tt := tYes) hr rfl (by rfl) m_all (by decide +kernel) TB rfl nd (pi_tup (pv 1)) (blkOk_by (own := [("low", 3)]) (N := ["order", "lot", "level", "low"]) (sc := defScope s_lot_within) (by decide +kernel)) (fun _ _ _ _ _ _ _ _ _ hr => (pg_name (i := 3) nd rfl (Or.inl rfl))) (fun _ _ _ _ _ _ _ _ _ hr => pts_nil) (fun _ _ _ _ _ _ _ _ _ hr => (pe_cmpR (op_in_seqK K (by rfl)) (pv 3) (pe_ix (ix_tupK K (by rfl)) (pv 0) (pv 2) (fun _ _ => rfl)) (by rfl)))))), ?_⟩
  refine ⟨.ref al, rfl, al, rfl, ⟨_, .inl (.inl (sT _ _ el))⟩, hP, ?_⟩
  refine gw_dat (fun _ => true) (fun d => match d with | .int i => decide (i.toNat ∈ ms) | _ => false) sT (gives_tup sT el hl) (fun i d x T2 H2 R R0 hd2 x2 hx2 r r0 => ?_) (fun T' H' x' => ?_)
  · rw [List.getElem?_map] at hd2
    cases e : lot[i]? with
    | none => rw [e] at hd2; cases hd2
    | some l =>
      rw [e] at hd2
      cases hd2
      obtain rfl : x = natV l := hx2
      obtain ⟨a, xs, ha, ea, rfl⟩ := ord_at ho hms
      refine ⟨rfl, natV l, rfl, .ref ao, rfl, natV lv, rfl, ao, xo, lv, .ref a, rfl, rfl, .inl (.inl (x2.th _ _ (x2.tt _ _ eo))), atI_nat ha, ?_⟩
      refine ⟨a, _, rfl, .inr (.inl (.inl (x2.th _ _ (x2.tt _ _ ea)))), rfl, flat_nats ms, ?_⟩
      show R (.bl (inV (natV l) (ms.map natV))) H2
      rw [inV_nats]
      exact r T2 H2 (.refl x2.th) rfl
  · have qq := q H' T' x'
    rw [show (lot.map natD).filter (fun _ => true) = lot.map natD from List.filter_eq_self.mpr fun _ _ => rfl]
    have e : anyAll true (fun d => match d with | .int i => decide (i.toNat ∈ ms) | _ => false) (lot.map natD) = lot.all fun l => decide (l ∈ ms) := by
      show (if true = true then _ else _) = _
      rw [if_pos rfl, List.all_map]
      rfl
    rw [e]
    exact qq
end
end K02
end

section
set_option maxHeartbeats 2000000
set_option pp.maxSteps 400
namespace K02
open PySem PySem.Spec PyProof.Rows L2 Zc
theorem natV_int (xs : List Nat) : (xs.map natV) = (xs.map Int.ofNat).map V.int := by
  rw [List.map_map]
  rfl
theorem ne_nil_nats {K : PySem.W.Frag} {H : Hp} {l p : Addr} {xs : List Nat} {Q : VK} (h : SqL K H l (xs.map natV)) (hp : SqL K H p []) (q : Q (.bl (!xs.isEmpty)) H) : rNeD K (.ref l) (.ref p) H Q := by
  refine ne_nil_read (ns := xs.map Int.ofNat) (by rw [← natV_int]; exact h) hp ?_
  rw [show (xs.map Int.ofNat).isEmpty = xs.isEmpty by cases xs <;> rfl]
  exact q
theorem seqIx {k n : Nat} (h : k < n) : seqIndex? (k : Int) n = some k := by
  unfold seqIndex?
  have h0 : ¬ ((k : Int) < 0) := by omega
  simp only [h0, if_false]
  rw [show (decide (0 ≤ (k : Int)) && decide ((k : Int) < (n : Int))) = true by rw [decide_eq_true (by omega), decide_eq_true (by omega)]; rfl]
  simp
def spMixed (K : PySem.W.Frag) : Sp := fun vs H Q _ => ∃ (d l a : Addr) (xs : List Nat), vs = [.ref d, .ref a] ∧ Deal H d l ∧ SqL K H a (xs.map natV) ∧ xs.length ≤ 1000 ∧
  ∀ (ys : List Nat) (p : Addr) (H' : Hp), ys.Perm xs → H p = none → H' p = some (.lst (ys.map natV)) → Deal H' d l → But d l H H' → Q (.ref p) H'
def pairN (p : Nat × Nat) : PyData := .tuple [natD p.1, natD p.2]
/-- what the closing hands back -/
structure Closed (n : Nat) (ps : List (Nat × Nat)) (O : List (List Nat)) : Prop where
  C : Closing n ps O
  F : Full n ps n O
def spClosed : Sp := fun vs H Q _ => ∃ (T : Hp) (n : Nat) (a : Addr) (xs : List V) (ps : List (Nat × Nat)), vs = [.int (n : Int), .ref a] ∧ Same T H ∧ T a = some (.lst xs) ∧ DaA T (ps.map pairN) xs ∧ n ≤ 100 ∧ ps.length ≤ 1000 ∧ (∀ p ∈ ps, p.1 < n ∧ p.2 < n) ∧
  ∀ O H' T' v, Closed n ps O → Ext T H T' H' → Da T' (ordD O) v → Q v H'
theorem eraseIdx_map {α β : Type} (f : α → β) : ∀ (l : List α) (k : Nat), (l.map f).eraseIdx k = (l.eraseIdx k).map f
  | [], _ => rfl
  | a :: r, 0 => rfl
  | a :: r, k + 1 => by
    rw [List.map_cons, List.eraseIdx_cons_succ, List.eraseIdx_cons_succ, List.map_cons, eraseIdx_map f r k]
theorem perm_take : ∀ {l : List Nat} {k x : Nat}, l[k]? = some x → l.Perm (x :: l.eraseIdx k)
  | [], k, x, h => by cases h
  | a :: r, 0, x, h => by
    cases h
    exact List.Perm.refl _
  | a :: r, k + 1, x, h => by
    have h' : r[k]? = some x := h
    rw [List.eraseIdx_cons_succ]
    exact ((perm_take h').cons a).trans (List.Perm.swap x a _)
section
variable {P : Program} {w : World} {K : PySem.W.Frag} {mg : Str → Option Value} {base : Heap}
theorem ok_mixed {f fA : Addr} {fd fdA : FuncData} (D : At K mg "_law_mixed" s__law_mixed ["deal", "some"] f fd) (DA : At K mg "_law_any" s__law_any ["deal", "bound"] fA fdA)
    (m_int : mg "int" = none) (m_len : mg "len" = none) (m_list : mg "list" = none) : FnOk P w K mg base CX0 2 f fd ["deal", "some"] (spMixed K) := by
  have GA : FnOk P w K mg base CX0 1 fA fdA ["deal", "bound"] spAny := ok_any DA m_int
  refine D.F.ok sc__law_mixed (fun vs H Q E h => ?_) (fun cdv A outer s H vs Q E hr h => ?_)
  · obtain ⟨d, l, a, xs, rfl, _⟩ := h
    rfl
  obtain ⟨d, l, a, xs, rfl, hD, hxs, hlen, q⟩ := h
  have hu := hr.units
  have nd := sc__law_mixed.nd
  have big : (1000 : Nat) < sizeLine := by decide
  refine ⟨_, (pss_cons (ps_par (i := 2) (j := 3) (by rfl) nd rfl rfl (by decide) rfl rfl (pa_cons (pe_callTy call_list_of (by rfl) m_list boot_list (pa_cons (pv 1) pa_nil)) (pa_cons (pe_lst pa_nil) pa_nil)) (by rfl))
  (pss_cons (ps_while PassesOwn.never (pt_cmpR (op_neD hu) (pv 2) (pe_lst pa_nil) (nomark _))
    (pss_one (ps_expr (pe_bm PySem.F.plainAttrs_list PySem.F.slot_list_append PySem.F.type_list_append mt_append (pv 3) (pa_cons (pe_bm PySem.F.plainAttrs_list PySem.F.slot_list_pop PySem.F.type_list_pop mt_popAt (pv 2) (pa_cons (pe_call GA hr (by rfl) DA.g DA.F.kp DA.b .nil pass0 (pa_cons (pv 0) (pa_cons (pe_callB call_len_seq (by rfl) m_len PySem.boot_len (pa_cons (pv 2) pa_nil)) pa_nil))) pa_nil)) pa_nil)))))
  (pss_one (ps_ret (pv 3))))), ?_⟩
  refine ⟨.ref a, rfl, a, _, rfl, .inl hxs, fun L nL => ⟨Nat.zero_le _, fun p np => ⟨_, _, rfl, ?_⟩⟩⟩
  have hLp : L ≠ p := ne_of_none (upd_same (H := H) (a := L)) np
  have np0 : H p = none := (same_new nL).free np
  have nLd := hD.ne nL
  have npd := hD.ne np0
  refine while_by (fun σ H' => ∃ left found : List Nat, σ = [some (.ref d), some (.ref a), some (.ref L), some (.ref p)] ∧ Deal H' d l ∧ But d l H H' ∧ H' L = some (.lst (left.map natV)) ∧ H' p = some (.lst (found.map natV)) ∧ (left ++ found).Perm xs)
    (fun _ H' => match H' L with | some (.lst zs) => zs.length | _ => 0)
    ⟨xs, [], rfl, Deal.same hD ((same_new nL).trans (same_new np)), .of ((same_new nL).trans (same_new np)), by rw [upd_ne hLp]; exact upd_same, upd_same, by rw [List.append_nil]⟩ ?_ ?_
  · rintro σ H1 ⟨left, found, rfl, hD1, hB1, hL1, hp1, hperm⟩
    have nn : ∀ {b : Addr} {o : HO}, H b = none → H1 b = some o → b ≠ d ∧ b ≠ l := fun {b o} e _ => hD.ne e
    refine ⟨.ref L, rfl, Nat.zero_le _, fun m nm => ?_⟩
    have s1 : Same H1 (upd H1 m (.lst [])) := same_new nm
    refine ne_nil_nats (.inl (.inl (s1 _ _ hL1))) (.inl (.inl upd_same)) ⟨_, rfl, ?_⟩
    have hB2 : But d l H (upd H1 m (.lst [])) := hB1.trans (.of s1)
    have hD2 := Deal.same hD1 s1
    have hL2 := s1 _ _ hL1
    have hp2 := s1 _ _ hp1
    generalize (upd H1 m (.lst [])) = H2 at hB2 hD2 hL2 hp2 ⊢
    cases left with
    | nil =>
      refine iteF ?_
      exact ⟨.ref p, rfl, q found p H2 (by simpa using hperm) np0 hp2 hD2 hB2⟩
    | cons z r =>
      refine iteT ?_
      have ll : (z :: r).length + found.length = xs.length := by rw [← List.length_append]; exact hperm.length_eq
      refine ⟨.ref p, rfl, .inl ⟨rfl, _, .inl (.inl hp2)⟩, .ref L, rfl, .inl ⟨rfl, _, .inl (.inl hL2)⟩, .ref d, rfl, .ref L, rfl, L, _, rfl, .inl (.inl (.inl hL2)), ?_⟩
      rw [List.length_map]
      refine ⟨d, l, ((z :: r).length : Nat), rfl, hD2, by rw [List.length_cons]; omega, by omega, fun k H3 k0 k1 hD3 hB3 => ?_⟩
      obtain ⟨k, rfl⟩ : ∃ j : Nat, k = (j : Int) := ⟨k.toNat, by omega⟩
      have hk : k < (z :: r).length := by omega
      have hL3 := hB3 _ _ nLd.1 nLd.2 hL2
      have hp3 := hB3 _ _ npd.1 npd.2 hp2
      have ek : (z :: r)[k]? = some (z :: r)[k] := List.getElem?_eq_getElem hk
      refine ⟨L, _, (k : Int), k, natV (z :: r)[k], rfl, rfl, hL3, by omega, by omega, seqIx (by rw [List.length_map]; exact hk), by rw [List.getElem?_map, ek]; rfl, ?_⟩
      rw [eraseIdx_map]
      refine ⟨p, _, _, rfl, rfl, by rw [upd_ne (Ne.symm hLp)]; exact hp3, by rw [List.length_map]; omega, ?_⟩
      have eL : (upd (upd H3 L (.lst (((z :: r).eraseIdx k).map natV))) p (.lst (found.map natV ++ [natV (z :: r)[k]]))) L = some (.lst (((z :: r).eraseIdx k).map natV)) := by rw [upd_ne hLp]; exact upd_same
      refine ⟨⟨(z :: r).eraseIdx k, found ++ [(z :: r)[k]], rfl, (hD3.upd nLd.1 nLd.2).upd npd.1 npd.2, ?_, eL, ?_, ?_⟩, ?_⟩
      · intro b o n1 n2 e
        rw [upd_ne (ne_of_none e np0), upd_ne (ne_of_none e nL)]
        exact (hB2.trans hB3) b o n1 n2 e
      · rw [upd_same, List.map_append]
        rfl
      · have p1 := perm_take ek
        have p2 : ((z :: r).eraseIdx k ++ (found ++ [(z :: r)[k]])).Perm (z :: r ++ found) := by
          rw [← List.append_assoc]
          refine (List.perm_append_comm).trans ?_
          exact (List.Perm.append_right found p1).symm
        exact p2.trans hperm
      · show (match (upd (upd H3 L (.lst (((z :: r).eraseIdx k).map natV))) p (.lst (found.map natV ++ [natV (z :: r)[k]]))) L with | some (.lst zs) => zs.length | _ => 0) < (match H1 L with | some (.lst zs) => zs.length | _ => 0)
        rw [eL, hL1]
        show (((z :: r).eraseIdx k).map natV).length < ((z :: r).map natV).length
        rw [List.length_map, List.length_map, List.length_eraseIdx_of_lt hk]
        rw [List.length_cons]
        omega
  · intro σ H1 Q1 Q2 hq h
    obtain ⟨v, e1, e2, h2⟩ := h
    refine ⟨v, e1, e2, fun m nm => ?_⟩
    obtain ⟨d1, d2, g1, g2, g3, g4, c, e7, h3⟩ := h2 m nm
    exact ⟨d1, d2, g1, g2, g3, g4, c, e7, hq _ _ h3⟩
/-- everything new stands from now on -/
def fresh (T H H3 : Hp) : Hp := fun b => match H b with
  | none => H3 b
  | some _ => T b
theorem ext_all {T H H3 : Hp} (sT : Same T H) (s : Same H H3) : Ext T H (fresh T H H3) H3 where
  hh := s
  tt := fun b o e => by
    show (match H b with | none => H3 b | some _ => T b) = some o
    rw [sT _ _ e]
    exact e
  th := fun b o e => by
    have e' : (match H b with | none => H3 b | some _ => T b) = some o := e
    cases q : H b with
    | none => rw [q] at e'; exact e'
    | some u => rw [q] at e'; exact s _ _ (sT _ _ e')
  nw := fun b h => by
    cases q : H b with
    | none => exact .inr rfl
    | some u =>
      refine .inl fun z => h ?_
      show (match H b with | none => H3 b | some _ => T b) = none
      rw [q]
      exact z
theorem fresh_at {T H H3 : Hp} {b : Addr} (n : H b = none) : fresh T H H3 b = H3 b := by
  show (match H b with | none => H3 b | some _ => T b) = _
  rw [n]
/-- the lists of the lots so far; H0: the heap at the beginning -/
def IsB (H0 H : Hp) (D : Addr) (B : List (List Nat)) : Prop := ∃ as : List Addr, H D = some (.lst (as.map V.ref)) ∧ as.length = B.length ∧
  ∀ (i : Nat) (b : List Nat), B[i]? = some b → ∃ ad, as[i]? = some ad ∧ ad ≠ D ∧ H0 ad = none ∧ H ad = some (.lst (b.map natV))
theorem IsB.same {H0 H H' : Hp} {D : Addr} {B : List (List Nat)} (h : IsB H0 H D B) (s : Same H H') : IsB H0 H' D B := by
  obtain ⟨as, e1, e2, e3⟩ := h
  refine ⟨as, s _ _ e1, e2, fun i b hb => ?_⟩
  obtain ⟨ad, a1, a2, a3, a4⟩ := e3 i b hb
  exact ⟨ad, a1, a2, a3, s _ _ a4⟩
theorem IsB.set {H0 H : Hp} {D q : Addr} {B : List (List Nat)} {as : List Addr} {h : Nat} {b' : List Nat} (h1 : H D = some (.lst (as.map V.ref))) (h2 : as.length = B.length)
    (h3 : ∀ (i : Nat) (b : List Nat), B[i]? = some b → ∃ ad, as[i]? = some ad ∧ ad ≠ D ∧ H0 ad = none ∧ H ad = some (.lst (b.map natV))) (hq : H q = some (.lst (b'.map natV))) (nq : q ≠ D) (fq : H0 q = none) :
    IsB H0 (upd H D (.lst ((as.set h q).map V.ref))) D (B.set h b') := by
  refine ⟨as.set h q, upd_same, by rw [List.length_set, List.length_set, h2], fun i b hb => ?_⟩
  by_cases e : h = i
  · subst e
    have hl : h < B.length := by
      have := (List.getElem?_eq_some_iff.mp hb).1
      rwa [List.length_set] at this
    rw [List.getElem?_set_self hl] at hb
    cases hb
    exact ⟨q, List.getElem?_set_self (by rw [h2]; exact hl), nq, fq, by rw [upd_ne nq]; exact hq⟩
  · rw [List.getElem?_set_ne e] at hb
    obtain ⟨ad, a1, a2, a3, a4⟩ := h3 i b hb
    exact ⟨ad, by rw [List.getElem?_set_ne e]; exact a1, a2, a3, by rw [upd_ne a2]; exact a4⟩
theorem nat_perm {ns' : List Int} {l : List Nat} (h : ns'.Perm (l.map Int.ofNat)) (s : ns'.Pairwise (· ≤ ·)) : ∃ b' : List Nat, ns' = b'.map Int.ofNat ∧ b'.Perm l ∧ b'.Pairwise (· ≤ ·) := by
  have all : ∀ x ∈ ns', ∃ n : Nat, x = Int.ofNat n := fun x hx => by
    obtain ⟨n, _, e⟩ := List.mem_map.mp (h.mem_iff.mp hx)
    exact ⟨n, e.symm⟩
  have e1 : ns' = (ns'.map Int.toNat).map Int.ofNat := by
    rw [List.map_map]
    have e0 : ns'.map (Int.ofNat ∘ Int.toNat) = ns'.map id := List.map_congr_left fun x hx => by
      obtain ⟨n, rfl⟩ := all x hx
      rfl
    rw [e0, List.map_id]
  refine ⟨ns'.map Int.toNat, e1, ?_, ?_⟩
  · have := h.map Int.toNat
    rw [List.map_map] at this
    have e2 : l.map (Int.toNat ∘ Int.ofNat) = l := by
      refine (List.map_congr_left fun x _ => ?_).trans (List.map_id l)
      rfl
    rw [e2] at this
    exact this
  · rw [List.pairwise_map]
    refine s.imp_of_mem fun {a b} ha hb hab => ?_
    obtain ⟨n, rfl⟩ := all a ha
    obtain ⟨m, rfl⟩ := all b hb
    have : (n : Int) ≤ (m : Int) := hab
    show n ≤ m
    omega
def natsL (l : List Nat) : PyData := .list (l.map natD)
theorem ok_closed {f : Addr} {fd : FuncData} (D : At K mg "_law_closed" s__law_closed ["many", "pairs"] f fd) (m_range : mg "range" = none) (m_sorted : mg "sorted" = none) (m_tuple : mg "tuple" = none) :
    FnOk P w K mg base CX0 1 f fd ["many", "pairs"] spClosed := by
  refine D.F.ok sc__law_closed (fun vs H Q E h => ?_) (fun cdv A outer s H vs Q E hr h => ?_)
  · obtain ⟨T, n, a, xs, ps, rfl, _⟩ := h
    rfl
  obtain ⟨T, n, a, xs, ps, rfl, sT, ea, hxs, hn, hps, hlt, q⟩ := h
  have nd := sc__law_closed.nd
  have big : (100000 : Nat) < sizeLine := by decide
  have lxs : xs.length = ps.length := by rw [hxs.len, List.length_map]
  refine ⟨_, (pss_cons (ps_set (i := 2) nd rfl (.inr rfl) (pe_lc (own := [("level", 6)]) (g := gName 6) (tt := tYes) (by rfl) nd (pi_range1 (by rfl) m_range (pa_cons (pv 0) pa_nil)) (blkOk_by (own := [("level", 6)]) (N := ["many", "pairs", "below", "turn", "low", "high", "level", "one", "lot"]) (sc := defScope s__law_closed) (by decide +kernel)) (fun _ _ _ _ _ => (pg_name (i := 6) nd rfl (Or.inl rfl))) (fun _ _ _ _ _ => pts_nil) (fun _ _ _ _ _ => (pe_lst (pa_cons (pv 6) pa_nil)))))
  (pss_cons (ps_for PassesOwn.never rfl (pi_range1 (by rfl) m_range (pa_cons (pv 0) pa_nil)) (pg_name (i := 3) nd rfl (Or.inl rfl))
    (pss_one (ps_for PassesOwn.never rfl (pi_list (pv 1)) (pg_tup (by rfl) (pgs_cons (pg_name (i := 4) nd rfl (Or.inl rfl)) (pgs_cons (pg_name (i := 5) nd rfl (Or.inr rfl)) pgs_nil)))
        (pss_one (ps_asg (pe_callB cr_sortedI (by rfl) m_sorted (by decide +kernel) (pa_cons (pe_op op_cat (pe_ix ix_list (pv 2) (pv 5) (fun _ _ => rfl)) (pe_lc (own := [("one", 7)]) (g := gName 7)  (by rfl) nd (pi_list (pe_ix ix_list (pv 2) (pv 4) (fun _ _ => rfl))) (blkOk_by (own := [("one", 7)]) (N := ["many", "pairs", "below", "turn", "low", "high", "level", "one", "lot"]) (sc := defScope s__law_closed) (by decide +kernel)) (fun _ _ _ _ _ => (pg_name (i := 7) nd rfl (Or.inl rfl))) (fun _ _ _ _ _ => pts_one (pt_cmpR (op_notIn_seqK K (by rfl)) (pv 7) (pe_ix (ix_listK K (by rfl)) (pv 2) (pv 5) (fun _ _ => rfl)) (by rfl))) (fun _ _ _ _ _ => (pv 7)))) pa_nil)) (pg_sub (pv 2) (pv 5) set_list))))))
  (pss_one (ps_ret (pe_callTy call_tuple_of (by rfl) m_tuple boot_tuple (pa_cons (pe_lc (own := [("lot", 8)]) (g := gName 8) (tt := tYes) (by rfl) nd (pi_list (pv 2)) (blkOk_by (own := [("lot", 8)]) (N := ["many", "pairs", "below", "turn", "low", "high", "level", "one", "lot"]) (sc := defScope s__law_closed) (by decide +kernel)) (fun _ _ _ _ _ => (pg_name (i := 8) nd rfl (Or.inl rfl))) (fun _ _ _ _ _ => pts_nil) (fun _ _ _ _ _ => (pe_callTy (call_tuple_ofK K (by rfl)) (by rfl) m_tuple boot_tuple (pa_cons (pv 8) pa_nil)))) pa_nil)))))), ?_⟩
  refine ⟨.int (n : Int), rfl, (n : Int), rfl, by omega, by omega, fun Dl nD => ?_⟩
  refine lc_range (lo := 0) (n := n) (fun i H' => Same H H' ∧ IsB H H' Dl ((List.range i).map fun k => [k])) ⟨same_new nD, [], upd_same, rfl, fun i b hb => by simp at hb⟩ ?_ ?_
  · rintro i H1 hi ⟨s1, as, e1, e2, e3⟩
    rw [List.length_map, List.length_range] at e2
    refine ⟨rfl, _, rfl, by show 1 ≤ sizeLine; omega, fun p np => ?_⟩
    have npD : p ≠ Dl := fun z => by rw [z, e1] at np; cases np
    refine ⟨_, by rw [upd_ne (Ne.symm npD)]; exact e1, by rw [List.length_map]; omega, fun b o e => ?_, as ++ [p], by rw [upd_same, List.map_append]; rfl, by rw [List.length_append, List.length_map, List.length_range, e2]; rfl, fun j b hb => ?_⟩
    · rw [upd_ne (ne_of_none e nD)]
      exact same_new np _ _ (s1 _ _ e)
    · rw [List.range_succ, List.map_append] at hb
      by_cases hj : j < i
      · rw [List.getElem?_append_left (by rw [List.length_map, List.length_range]; exact hj)] at hb
        obtain ⟨ad, a1, a2, a3, a4⟩ := e3 j b hb
        exact ⟨ad, by rw [List.getElem?_append_left (by rw [e2]; exact hj)]; exact a1, a2, a3, by rw [upd_ne a2]; exact same_new np _ _ a4⟩
      · rw [List.getElem?_append_right (by rw [List.length_map, List.length_range]; omega), List.length_map, List.length_range] at hb
        have ej : j = i := by
          have := (List.getElem?_eq_some_iff.mp hb).1
          simp at this
          omega
        subst ej
        rw [Nat.sub_self] at hb
        cases hb
        refine ⟨p, by rw [List.getElem?_append_right (by rw [e2]; exact Nat.le_refl _), e2, Nat.sub_self]; rfl, npD, s1.free np, ?_⟩
        rw [upd_ne npD, upd_same]
        show some (HO.lst [V.int (0 + (j : Int))]) = some (HO.lst [natV j])
        rw [Int.zero_add]
        rfl
  rintro H1 ⟨s1, hB1⟩
  have C0 : Closing n ps ((List.range n).map fun k => [k]) := by
    refine ⟨by rw [List.length_map, List.length_range], fun i b hb => ?_⟩
    rw [List.getElem?_map] at hb
    by_cases hi : i < n
    · rw [List.getElem?_range hi] at hb
      cases hb
      exact ⟨List.pairwise_singleton _ _, fun x hx => by rw [List.mem_singleton.mp hx]; exact hi, List.mem_singleton.mpr rfl, fun x hx => by rw [List.mem_singleton.mp hx]; exact .refl _⟩
    · rw [List.getElem?_eq_none (by rw [List.length_range]; omega)] at hb
      cases hb
  refine ⟨.int (n : Int), rfl, (n : Int), rfl, by omega, by omega, for_range (lo := 0) (n := n) (fun t σ H' => ∃ (y3 y4 y5 : Option V) (B : List (List Nat)), σ = [some (.int n), some (.ref a), some (.ref Dl), y3, y4, y5, none, none, none] ∧ Same H H' ∧ IsB H H' Dl B ∧ Closing n ps B ∧ Full n ps t B)
    ⟨none, none, none, _, rfl, s1, hB1, C0, Full.zero C0⟩ ?_ ?_⟩
  · rintro t σ H2 ht ⟨y3, y4, y5, B, rfl, s2, hB2, C2, F2⟩
    refine ⟨.ref a, rfl, a, rfl, ⟨_, .inl (.inl (s2 _ _ (sT _ _ ea)))⟩, for_list (K := K) (a := a) (xs := xs) (fun j σ H' => ∃ (y4 y5 : Option V) (B : List (List Nat)), σ = [some (.int n), some (.ref a), some (.ref Dl), some (.int (0 + t)), y4, y5, none, none, none] ∧ Same H H' ∧ IsB H H' Dl B ∧ Closing n ps B ∧ Full n ps t B ∧ Rnd ps t j B)
      ⟨y4, y5, B, rfl, s2, hB2, C2, F2, fun p hp => absurd hp (by rw [List.take_zero]; exact List.not_mem_nil)⟩ (fun j σ H' _ ⟨_, _, _, _, s', _⟩ => .inl (.inl (s' _ _ (sT _ _ ea)))) ?_ ?_⟩
    · rintro j x σ H3 hx ⟨y4, y5, B, rfl, s3, ⟨as, b1, b2, b3⟩, C3, F3, R3⟩
      obtain ⟨d, hd, hdx⟩ := hxs.get hx
      obtain ⟨⟨lo, hi⟩, hpr, rfl⟩ : ∃ pr, ps[j]? = some pr ∧ d = pairN pr := by
        rw [List.getElem?_map] at hd
        cases e : ps[j]? with
        | none => rw [e] at hd; cases hd
        | some pr => rw [e] at hd; exact ⟨pr, rfl, (Option.some.inj hd).symm⟩
      obtain ⟨t2, _, rfl, et, w1, _, rfl, h1, w2, _, rfl, h2, rfl⟩ := hdx
      obtain rfl : w1 = natV lo := h1
      obtain rfl : w2 = natV hi := h2
      have hm := List.mem_of_getElem? hpr
      obtain ⟨hlo, hhi⟩ := hlt _ hm
      have lB : B.length = n := C3.len
      have elo : B[lo]? = some B[lo] := List.getElem?_eq_getElem (by rw [lB]; exact hlo)
      have ehi : B[hi]? = some B[hi] := List.getElem?_eq_getElem (by rw [lB]; exact hhi)
      obtain ⟨al, l1, l2, l3, l4⟩ := b3 lo _ elo
      obtain ⟨ah, g1, g2, g3, g4⟩ := b3 hi _ ehi
      have atR : ∀ {k : Nat} {ad : Addr}, as[k]? = some ad → atI (as.map V.ref) (k : Int) = some (.ref ad) := fun {k ad} e => atI_nat (by rw [List.getElem?_map, e]; rfl)
      refine ⟨t2, _, rfl, .inl (.inl (s3 _ _ (sT _ _ et))), rfl, _, _, rfl, _, _, rfl, ⟨rfl, ?_⟩⟩
      refine ⟨.ref Dl, rfl, natV hi, rfl, Dl, _, hi, .ref ah, rfl, rfl, .inl (.inl b1), atR g1, .ref Dl, rfl, natV lo, rfl, Dl, _, lo, .ref al, rfl, rfl, .inl (.inl b1), atR l1, al, rfl, ⟨_, .inl (.inl l4)⟩, fun E1 nE => ?_⟩
      have bl : ∀ (i : Nat) (b : List Nat), B[i]? = some b → b.length ≤ 100 := fun i b hb => by
        have hc := C3.lot i b hb
        have := (nodup_of_lt hc.1).length_le_of_subset (l₂ := List.range n) fun x hx => List.mem_range.mpr (hc.2.1 x hx)
        rw [List.length_range] at this
        omega
      refine lc_enc (enc := natD) (p := fun x => !decide (x ∈ B[hi])) (f := natD) (ds := B[lo]) (T := H3) (Same.refl H3) nE (by have := bl _ _ elo; omega) (gives_list (Same.refl H3) l4 (nats_da _)) (fun i v x T2 H4 R R0 hi2 x2 hx2 r1 r0 => ?_) (fun T' H' ys x' hys hda => ?_)
      · obtain rfl : x = natV v := hx2
        refine ⟨rfl, natV v, rfl, .ref Dl, rfl, natV hi, rfl, Dl, _, hi, .ref ah, rfl, rfl, .inl (.inl (x2.hh _ _ b1)), atR g1, ah, _, rfl, .inl (.inl (.inl (x2.hh _ _ g4))), rfl, flat_nats _, _, rfl, ?_⟩
        show if (!inV (natV v) (B[hi].map natV)) = true then _ else _
        rw [inV_nats]
        exact ite2 (fun e => ⟨_, rfl, r1 T2 H4 _ (.refl x2.th) rfl e⟩) (fun e => r0 T2 H4 (.refl x2.th) (Bool.eq_false_iff.mpr e))
      · have eys := nats_of hda
        subst eys
        have hE := x'.th _ _ hys
        have sz1 := bl _ _ ehi
        have sz2 : (B[lo].filter fun x => !decide (x ∈ B[hi])).length ≤ 100 := Nat.le_trans (List.length_filter_le _ _) (bl _ _ elo)
        refine ⟨ah, E1, _, _, rfl, rfl, x'.hh _ _ g4, hE, by rw [List.length_map, List.length_map]; omega, fun c nc => ?_⟩
        rw [← List.map_append, natV_int]
        refine ⟨c, _, rfl, .inl (.inl upd_same), fun ns' q1 hperm hsrt nq => ?_⟩
        obtain ⟨b', rfl, p1, p2⟩ := nat_perm hperm hsrt
        obtain ⟨C4, g4', all4⟩ := C3.step elo ehi hm p1 p2
        have s4 : Same H3 (upd (upd H' c (.lst ((((B[hi] ++ B[lo].filter fun x => !decide (x ∈ B[hi]))).map Int.ofNat).map V.int))) q1 (.lst ((b'.map Int.ofNat).map V.int))) := (x'.hh.trans (same_new nc)).trans (same_new nq)
        have hq1 : (upd (upd H' c (.lst ((((B[hi] ++ B[lo].filter fun x => !decide (x ∈ B[hi]))).map Int.ofNat).map V.int))) q1 (.lst ((b'.map Int.ofNat).map V.int))) q1 = some (.lst (b'.map natV)) := by rw [upd_same, natV_int]
        have nq3 : H3 q1 = none := (x'.hh.trans (same_new nc)).free nq
        generalize (upd (upd H' c (.lst ((((B[hi] ++ B[lo].filter fun x => !decide (x ∈ B[hi]))).map Int.ofNat).map V.int))) q1 (.lst ((b'.map Int.ofNat).map V.int))) = H5 at s4 hq1 ⊢
        have nqD : q1 ≠ Dl := fun z => by rw [z, b1] at nq3; cases nq3
        have hix : ixN (as.map V.ref).length (hi : Int) = some hi := by
          unfold ixN
          rw [if_pos (by omega), if_pos (by rw [List.length_map, b2, lB]; omega), Int.toNat_natCast]
        refine ⟨.ref Dl, rfl, natV hi, rfl, Dl, _, hi, hi, rfl, rfl, s4 _ _ b1, hix, ?_⟩
        have em : (as.map V.ref).set hi (.ref q1) = (as.set hi q1).map V.ref := by rw [List.map_set]
        rw [em]
        refine ⟨_, _, B.set hi b', rfl, fun b o e => ?_, IsB.set (s4 _ _ b1) b2 (fun i b hb => ?_) hq1 nqD (s3.free nq3), C4, F3.grow g4' (List.length_set ..), ?_⟩
        · rw [upd_ne (ne_of_none e nD)]
          exact s4 _ _ (s3 _ _ e)
        · obtain ⟨ad, a1, a2, a3, a4⟩ := b3 i b hb
          exact ⟨ad, a1, a2, a3, s4 _ _ a4⟩
        · exact R3.next F3 g4' (List.length_set ..) hpr hlo elo (List.getElem?_set_self (by rw [lB]; exact hhi)) all4
    · rintro σ H3 ⟨y4, y5, B, rfl, s3, hB3, C3, F3, R3⟩
      rw [lxs] at R3
      exact ⟨_, _, _, B, rfl, s3, hB3, C3, Full.next C3 R3⟩
  · rintro σ H2 ⟨y3, y4, y5, B, rfl, s2, ⟨as, b1, b2, b3⟩, C2, F2⟩
    have xA := ext_all sT s2
    have lB : B.length = n := C2.len
    have fD : fresh T H H2 Dl = some (.lst (as.map V.ref)) := by rw [fresh_at nD]; exact b1
    have hda : DaA (fresh T H H2) (B.map natsL) (as.map V.ref) := by
      have key : ∀ (B' : List (List Nat)) (as' : List Addr), as'.length = B'.length → (∀ (i : Nat) (b : List Nat), B'[i]? = some b → ∃ ad, as'[i]? = some ad ∧ H ad = none ∧ H2 ad = some (.lst (b.map natV))) → DaA (fresh T H H2) (B'.map natsL) (as'.map V.ref) := by
        intro B'
        induction B' with
        | nil =>
          intro as' hl _
          rw [List.length_eq_zero_iff.mp hl]
          rfl
        | cons b r ih =>
          intro as' hl hs
          cases as' with
          | nil => cases hl
          | cons ad r' =>
            obtain ⟨ad2, e1, e2, e3⟩ := hs 0 b rfl
            cases e1
            exact ⟨.ref ad, r'.map V.ref, rfl, ⟨ad, _, rfl, by rw [fresh_at e2]; exact e3, nats_da b⟩, ih r' (Nat.succ.inj hl) fun i c hc => hs (i + 1) c hc⟩
      exact key B as b2 fun i b hb => by
        obtain ⟨ad, a1, a2, a3, a4⟩ := b3 i b hb
        exact ⟨ad, a1, a3, a4⟩
    refine ⟨.ref Dl, rfl, Dl, rfl, ⟨_, .inl (.inl b1)⟩, fun E1 nE => ?_⟩
    refine lc_enc (enc := natsL) (p := fun _ => true) (f := natsT) (ds := B) (T := fresh T H H2) xA.th nE (by omega) (gives_list xA.th fD hda) (fun i b x T2 H4 R R0 hi2 x2 hx2 r1 r0 => ?_) (fun T' H' ys x' hys hda2 => ?_)
    · obtain ⟨ad, zs, rfl, ead, hz⟩ := hx2
      have ez := nats_of hz
      subst ez
      refine ⟨rfl, .ref ad, rfl, ad, _, rfl, .inl ⟨.inl (.inl (x2.th _ _ ead)), fun t nt => ?_⟩⟩
      have x4 := Ext.new (o := .tup (b.map natV)) x2.th nt
      exact r1 _ _ _ x4 ⟨t, _, rfl, upd_same, nats_da b⟩ rfl
    · rw [filter_yes] at hda2
      refine ⟨E1, ys, rfl, .inl ⟨.inl (.inl (x'.th _ _ hys)), fun t nt => ?_⟩⟩
      have x4 := Ext.new (o := .tup ys) x'.th nt
      exact q B _ _ _ ⟨C2, F2⟩ (xA.trans (x'.trans x4)) ⟨t, ys, rfl, upd_same, hda2.keep x4.tt⟩
end
end K02
end

section
set_option maxHeartbeats 2000000
set_option pp.maxSteps 400
namespace K02
open PySem PySem.Spec PyProof.Rows L2 Zc
theorem idx_lt : ∀ {row : List Nat} {x : Nat}, x ∈ row → idx row x < row.length
  | a :: r, x, h => by
    unfold idx
    split
    · exact Nat.succ_pos _
    · rename_i ne
      rcases List.mem_cons.mp h with e | e
      · exact absurd e.symm ne
      · exact Nat.succ_lt_succ (idx_lt e)
theorem rgV_nat (n : Nat) : rgV 0 (n : Int) = (List.range n).map natV := by
  unfold rgV
  rw [show ((n : Int) - 0).toNat = n by omega]
  exact List.map_congr_left fun x _ => by
    show V.int (0 + (x : Int)) = V.int (x : Int)
    rw [Int.zero_add]
section
variable {d l p : Addr} {T H T1 H1 : Hp} {o : HO}
/-- a new thing is laid among what stands -/
theorem _root_.Zc.ExD.lay (x : ExD d l T H T1 H1) (n : H p = none) (h : H1 p = some o) : ExD d l T H (upd T1 p o) H1 where
  hh := x.hh
  tt := fun b u e => by
    have e1 := x.tt _ _ e
    by_cases q : b = p
    · subst q
      rw [upd_same]
      have := x.th _ _ e1
      rw [h] at this
      exact this
    · rw [upd_ne q]
      exact e1
  th := fun b u e => by
    by_cases q : b = p
    · subst q
      rw [upd_same] at e
      cases e
      exact h
    · rw [upd_ne q] at e
      exact x.th _ _ e
  nw := fun b hb => by
    by_cases q : b = p
    · exact .inr (q ▸ n)
    · rw [upd_ne q] at hb
      exact x.nw b hb
theorem _root_.Zc.ExD.td (x : ExD d l T H T1 H1) (hD : Deal H d l) (td : T d = none) (tl : T l = none) : T1 d = none ∧ T1 l = none := by
  obtain ⟨_, _, _, e1, e2, _⟩ := hD
  exact ⟨x.out td e1, x.out tl e2⟩
end
def spOrder : Sp := fun vs H Q _ => ∃ (T : Hp) (d l : Addr), vs = [.ref d] ∧ Same T H ∧ T d = none ∧ T l = none ∧ Deal H d l ∧
  ∀ (n : Nat) (O : List (List Nat)) (T' H' : Hp) (v : V), 1 ≤ n → n ≤ 5 → OrdOk n O → OrdTr O → ExD d l T H T' H' → Deal H' d l → Da T' (ordD O) v → Q v H'
def mn (p : Nat × Nat) : Nat := if p.2 < p.1 then p.2 else p.1
def mx (p : Nat × Nat) : Nat := if p.2 > p.1 then p.2 else p.1
def rowP (row : List Nat) (p : Nat × Nat) : Nat × Nat := (row.getD (mn p) 0, row.getD (mx p) 0)
theorem mn_int (a b : Nat) : (if (b : Int) < (a : Int) then (b : Int) else (a : Int)) = (mn (a, b) : Int) := by
  unfold mn
  by_cases h : b < a
  · rw [if_pos (by omega), if_pos h]
  · rw [if_neg (by omega), if_neg h]
theorem mx_int (a b : Nat) : (if (b : Int) > (a : Int) then (b : Int) else (a : Int)) = (mx (a, b) : Int) := by
  unfold mx
  by_cases h : b > a
  · rw [if_pos (by omega), if_pos h]
  · rw [if_neg (by omega), if_neg h]
theorem mn_mx {a b n : Nat} (ha : a < n) (hb : b < n) : mn (a, b) < n ∧ mx (a, b) < n ∧ (mn (a, b) = mx (a, b) ∨ mn (a, b) < mx (a, b)) := by
  unfold mn mx
  show (if b < a then b else a) < n ∧ (if b > a then b else a) < n ∧ ((if b < a then b else a) = (if b > a then b else a) ∨ (if b < a then b else a) < (if b > a then b else a))
  split <;> split <;> omega
section
variable {P : Program} {w : World} {K : PySem.W.Frag} {mg : Str → Option Value} {base : Heap}
theorem ok_order {f fA fX fC : Addr} {fd fdA fdX fdC : FuncData} (D : At K mg "_law_order" s__law_order ["deal"] f fd) (DA : At K mg "_law_any" s__law_any ["deal", "bound"] fA fdA) (DX : At K mg "_law_mixed" s__law_mixed ["deal", "some"] fX fdX) (DC : At K mg "_law_closed" s__law_closed ["many", "pairs"] fC fdC)
    (m_int : mg "int" = none) (m_len : mg "len" = none) (m_list : mg "list" = none) (m_range : mg "range" = none) (m_sorted : mg "sorted" = none) (m_tuple : mg "tuple" = none) (m_min : mg "min" = none) (m_max : mg "max" = none) :
    FnOk P w K mg base CX0 3 f fd ["deal"] spOrder := by
  have GA : FnOk P w K mg base CX0 2 fA fdA ["deal", "bound"] spAny := (ok_any DA m_int).mono (by decide)
  have GX : FnOk P w K mg base CX0 2 fX fdX ["deal", "some"] (spMixed K) := ok_mixed DX DA m_int m_len m_list
  have GC : FnOk P w K mg base CX0 2 fC fdC ["many", "pairs"] spClosed := (ok_closed DC m_range m_sorted m_tuple).mono (by decide)
  refine D.F.ok sc__law_order (fun vs H Q E h => ?_) (fun cdv A outer s H vs Q E hr h => ?_)
  · obtain ⟨T, d, l, rfl, _⟩ := h
    rfl
  obtain ⟨T, d, l, rfl, sT, td, tl, hD, q⟩ := h
  have hu := hr.units
  have nd := sc__law_order.nd
  have big : (100000 : Nat) < sizeLine := by decide
  refine ⟨_, (pss_cons (ps_set (i := 1) nd rfl (.inr rfl) (pe_op op_add pe_int (pe_call GA hr (by rfl) DA.g DA.F.kp DA.b .nil pass0 (pa_cons (pv 0) (pa_cons pe_int pa_nil)))))
  (pss_cons (ps_set (i := 2) nd rfl (.inr rfl) (pe_call GX hr (by rfl) DX.g DX.F.kp DX.b .nil pass0 (pa_cons (pv 0) (pa_cons (pe_listRg rfl (by rfl) m_list (prg_1 (by rfl) m_range (pv 1))) pa_nil))))
  (pss_cons (ps_setLc (i := 3) (own := [("a", 4), ("b", 5)]) (g := gTup K 2 (gCons (gName 4) (gCons (gName 5) gNil))) (tt := tYes) (by rfl) nd rfl rfl (sw_true rfl rfl rfl (by decide +kernel)) (pi_list (pe_lc (own := [("turn", 6)]) (g := gName 6) (tt := tYes) (by rfl) nd (pi_range1 (by rfl) m_range (pa_cons (pe_call GA hr (by rfl) DA.g DA.F.kp DA.b .nil pass0 (pa_cons (pv 0) (pa_cons (pe_op op_mul pe_int (pv 1)) pa_nil))) pa_nil)) (blkOk_by (own := [("turn", 6)]) (N := ["deal", "many", "row", "pairs", "a", "b", "turn"]) (sc := defScope s__law_order) (by decide +kernel)) (fun _ _ _ _ _ => (pg_name (i := 6) nd rfl (Or.inl rfl))) (fun _ _ _ _ _ => pts_nil) (fun _ _ _ _ _ => (pe_tup (pa_cons (pe_call GA hr (by rfl) DA.g DA.F.kp DA.b .nil pass0 (pa_cons (pv 0) (pa_cons (pv 1) pa_nil))) (pa_cons (pe_call GA hr (by rfl) DA.g DA.F.kp DA.b .nil pass0 (pa_cons (pv 0) (pa_cons (pv 1) pa_nil))) pa_nil)))))) (blkOk_by (own := [("a", 4), ("b", 5)]) (N := ["deal", "many", "row", "pairs", "a", "b", "turn"]) (sc := defScope s__law_order) (by decide +kernel)) (fun _ _ _ _ _ => (pg_tup (by rfl) (pgs_cons (pg_name (i := 4) nd rfl (Or.inl rfl)) (pgs_cons (pg_name (i := 5) nd rfl (Or.inl rfl)) pgs_nil)))) (fun _ _ _ _ _ => pts_nil) (fun _ _ _ _ _ => (pe_tup (pa_cons (pe_ix (ix_listK K (by rfl)) (pv 2) (pe_callB (call_min2 (by rfl)) (by rfl) m_min PyProof.Rows.boot_min (pa_cons (pv 4) (pa_cons (pv 5) pa_nil))) (fun _ _ => rfl)) (pa_cons (pe_ix (ix_listK K (by rfl)) (pv 2) (pe_callB (call_max2 (by rfl)) (by rfl) m_max PyProof.Rows.boot_max (pa_cons (pv 4) (pa_cons (pv 5) pa_nil))) (fun _ _ => rfl)) pa_nil)))))
  (pss_one (ps_ret (pe_call GC hr (by rfl) DC.g DC.F.kp DC.b .nil pass0 (pa_cons (pv 1) (pa_cons (pv 3) pa_nil)))))))), ?_⟩
  refine ⟨.ref d, rfl, d, l, 5, rfl, hD, by decide, by decide, fun k H1 k0 k1 hD1 hB1 => ?_⟩
  obtain ⟨k, rfl⟩ : ∃ j : Nat, k = (j : Int) := ⟨k.toNat, by omega⟩
  refine ⟨1, k, rfl, rfl, ?_⟩
  have x1 := ExD.turn sT td tl hB1
  obtain ⟨n, hn⟩ : ∃ n : Nat, n = 1 + k := ⟨_, rfl⟩
  have en : V.int (1 + (k : Int)) = V.int (n : Int) := congrArg V.int (by omega)
  rw [show (fun i j : Int => V.int (i + j)) 1 (k : Int) = V.int (n : Int) from en]
  refine ⟨.ref d, rfl, .int n, rfl, n, rfl, ⟨by omega, by omega, by omega, by omega, by omega⟩, fun a na => ?_⟩
  rw [rgV_nat]
  have x2 := ExD.trans hD x1 hD1 (Ext.more x1.th (same_new (o := .lst ((List.range n).map natV)) na)).toD
  refine ⟨d, l, a, List.range n, rfl, hD1.same (same_new na), .inl (.inl upd_same), by rw [List.length_range]; omega, fun ys p H2 hperm np hp hD2 hB2 => ?_⟩
  have np1 : H1 p = none := (same_new na).free np
  obtain ⟨npd, npl⟩ := hD1.ne np1
  have np0 : H p = none := hB1.free npd npl np1
  have td2 := x2.td hD td tl
  have x3 := (ExD.trans hD x2 (hD1.same (same_new na)) (ExD.turn x2.th td2.1 td2.2 hB2)).lay np0 hp
  have td3 := x3.td hD td tl
  have hp3 : (upd T p (HO.lst (ys.map natV))) p = some (.lst (ys.map natV)) := upd_same
  generalize upd T p (HO.lst (ys.map natV)) = T3 at x3 td3 hp3
  have hD2' := hD2
  have ly : ys.length = n := by rw [hperm.length_eq, List.length_range]
  refine ⟨.ref d, rfl, .int n, rfl, 2, n, rfl, rfl, .inl ⟨by decide, by decide⟩, d, l, 2 * n, rfl, hD2, by omega, by omega, fun c H3 c0 c1 hD3 hB3 => ?_⟩
  obtain ⟨c, rfl⟩ : ∃ j : Nat, c = (j : Int) := ⟨c.toNat, by omega⟩
  have x4 := ExD.trans hD x3 hD2 (ExD.turn x3.th td3.1 td3.2 hB3)
  refine ⟨_, rfl, by omega, by omega, fun L nL => ?_⟩
  refine lc_draw (T := T3) (fun i es => ∃ ps : List (Nat × Nat), es = ps.map pairN ∧ (∀ p ∈ ps, p.1 < n ∧ p.2 < n) ∧ ps.length ≤ i) x4.th td3.1 td3.2 hD3 nL (by rw [List.length_map, List.length_range]; omega) givT_range ⟨[], rfl, fun _ h => absurd h List.not_mem_nil, Nat.le_refl _⟩ (fun i e0 x T4 H4 es R R0 he hi hx x5 td5 tl5 hD4 hPi r1 r0 => ?_) (fun T' H' zs es x5 hD4 hzs hda hPi => ?_)
  · obtain ⟨ps, rfl, hps, hle⟩ := hPi
    refine ⟨rfl, .ref d, rfl, .int n, rfl, d, l, n, rfl, hD4, by omega, by omega, fun a1 H5 a10 a11 hD5 hB5 => ?_⟩
    refine ⟨.ref d, rfl, .int n, rfl, d, l, n, rfl, hD5, by omega, by omega, fun b1 H6 b10 b11 hD6 hB6 => ?_⟩
    obtain ⟨a1, rfl⟩ : ∃ j : Nat, a1 = (j : Int) := ⟨a1.toNat, by omega⟩
    obtain ⟨b1, rfl⟩ : ∃ j : Nat, b1 = (j : Int) := ⟨b1.toNat, by omega⟩
    refine ⟨by show 2 ≤ sizeLine; omega, fun m nm => ?_⟩
    have x6 := ExD.turn x5.th td5 tl5 (hB5.trans hB6)
    have x7 := Ext.new (o := .tup [.int a1, .int b1]) x6.th nm
    refine r1 _ _ _ (pairN (a1, b1)) (ExD.trans hD4 x6 hD6 x7.toD) (hD6.same (same_new nm)) ⟨m, _, rfl, upd_same, .two rfl rfl⟩ ⟨ps ++ [(a1, b1)], by rw [List.map_append]; rfl, fun p hp => ?_, ?_⟩
    · rcases List.mem_append.mp hp with z | z
      · exact hps p z
      · rw [List.mem_singleton.mp z]
        exact ⟨by show a1 < n; omega, by show b1 < n; omega⟩
    · rw [List.length_append, List.length_singleton]
      omega
  · obtain ⟨ps, rfl, hps, hle⟩ := hPi
    rw [List.length_map, List.length_range] at hle
    have hp5 := x5.tt _ _ hp3
    have xA := ExD.trans hD x4 hD3 x5
    refine ⟨L, rfl, ⟨_, .inl (.inl (x5.th _ _ hzs))⟩, fun E1 nE => ?_⟩
    refine lc_enc (enc := pairN) (p := fun _ => true) (f := fun p => pairN (rowP ys p)) (ds := ps) (T := T') x5.th nE (by omega) (gives_list x5.th hzs hda) (fun i pr x T2 H2 R R0 hi x2 hx2 r1 r0 => ?_) (fun T6 H6 us x6 hus hdu => ?_)
    · obtain ⟨u, v⟩ := pr
      obtain ⟨h1, h2⟩ := hps _ (List.mem_of_getElem? hi)
      obtain ⟨m1, m2, _⟩ := mn_mx h1 h2
      obtain ⟨t2, _, rfl, et, w1, _, rfl, e1, w2, _, rfl, e2, rfl⟩ := hx2
      obtain rfl : w1 = natV u := e1
      obtain rfl : w2 = natV v := e2
      have hrow := x2.th _ _ (x2.tt _ _ hp5)
      have atr : ∀ {k : Nat}, k < n → atI (ys.map natV) (k : Int) = some (natV (ys.getD k 0)) := fun {k} hk => atI_nat (by
        rw [List.getElem?_map, List.getD_eq_getElem?_getD, List.getElem?_eq_getElem (by omega)]
        rfl)
      refine ⟨t2, _, rfl, .inl (.inl (x2.th _ _ et)), rfl, _, _, rfl, _, _, rfl, ⟨rfl, rfl, ?_⟩⟩
      refine ⟨.ref p, rfl, natV u, rfl, natV v, rfl, u, v, rfl, p, _, mn (u, v), natV (ys.getD (mn (u, v)) 0), rfl, congrArg V.int (mn_int u v), .inl (.inl hrow), atr m1, ?_⟩
      refine ⟨.ref p, rfl, natV u, rfl, natV v, rfl, u, v, rfl, p, _, mx (u, v), natV (ys.getD (mx (u, v)) 0), rfl, congrArg V.int (mx_int u v), .inl (.inl hrow), atr m2, ?_⟩
      refine ⟨by show 2 ≤ sizeLine; omega, fun m nm => ?_⟩
      have x7 := Ext.new (o := .tup [natV (ys.getD (mn (u, v)) 0), natV (ys.getD (mx (u, v)) 0)]) x2.th nm
      exact r1 _ _ _ x7 ⟨m, _, rfl, upd_same, .two rfl rfl⟩ rfl
    · rw [filter_yes] at hdu
      have nd2 : ys.Nodup := hperm.nodup_iff.mpr List.nodup_range
      have inR : ∀ {k : Nat}, k < n → ys.getD k 0 < n := fun {k} hk => by
        rw [List.getD_eq_getElem?_getD, List.getElem?_eq_getElem (by omega)]
        exact List.mem_range.mp (hperm.mem_iff.mp (List.getElem_mem (by omega)))
      have hall : ∀ p ∈ ps.map (rowP ys), p.1 < n ∧ p.2 < n ∧ (p.1 = p.2 ∨ idx ys p.1 < idx ys p.2) := fun p hp => by
        obtain ⟨⟨u, v⟩, hq, rfl⟩ := List.mem_map.mp hp
        obtain ⟨h1, h2⟩ := hps _ hq
        obtain ⟨m1, m2, m3⟩ := mn_mx h1 h2
        refine ⟨inR m1, inR m2, ?_⟩
        have id : ∀ {k : Nat}, k < n → idx ys (ys.getD k 0) = k := fun {k} hk => idx_at nd2 (by
          rw [List.getD_eq_getElem?_getD, List.getElem?_eq_getElem (by omega)]
          rfl)
        show ys.getD (mn (u, v)) 0 = ys.getD (mx (u, v)) 0 ∨ idx ys (ys.getD (mn (u, v)) 0) < idx ys (ys.getD (mx (u, v)) 0)
        rw [id m1, id m2]
        rcases m3 with z | z
        · rw [z]
          exact .inl rfl
        · exact .inr z
      refine ⟨.int n, rfl, .ref E1, rfl, T6, n, E1, us, ps.map (rowP ys), rfl, x6.th, hus, by rw [List.map_map]; exact hdu, by omega, by rw [List.length_map]; omega, fun p hp => ⟨(hall p hp).1, (hall p hp).2.1⟩, fun O H7 T7 v hO x7 hv => ?_⟩
      have xx := (ExD.trans hD xA hD4 x6.toD)
      have hD6 := hD4.same x6.hh
      have x8 := ExD.trans hD xx hD6 x7.toD
      refine q n O T7 H7 v (by omega) (by omega) hO.C.ok (ord_trans hO.C hO.F (idx ys) (fun p hp => (hall p hp).2.2) fun i hi => ?_) x8 (hD6.same x7.hh) hv
      rw [← ly]
      exact idx_lt (hperm.mem_iff.mpr (List.mem_range.mpr hi))
end
end K02
end

section
set_option maxHeartbeats 2000000
set_option pp.maxSteps 400
namespace K02
open PySem PySem.Spec PyProof.Rows L2 Zc
/-! ### the program's defs -/
def asc (l : List Nat) : Bool := (List.range (l.length - 1)).all fun k => decide (l.getD k 0 < l.getD (k + 1) 0)
def rAsc (ds : List PyData) (r : Bool) : Prop := ∃ l : List Nat, ds = [natsT l] ∧ l.length ≤ 1000 ∧ r = asc l
def natOf : PyData → Nat
  | .int i => i.toNat
  | _ => 0
def isLotD (n : Int) : PyData → Bool
  | .tuple xs => xs.all (isLev n) && asc (xs.map natOf)
  | _ => false
def rLot (ds : List PyData) (r : Bool) : Prop := ∃ (O : List (List Nat)) (d : PyData), ds = [ordD O, d] ∧ (∀ xs, d = .tuple xs → xs.length ≤ 1000) ∧ r = isLotD (O.length : Nat) d
/-- whether all of l is within v -/
def within (O : List (List Nat)) (l : List Nat) (v : Nat) : Bool := l.all fun x => decide (x ∈ O.getD v [])
def watch (O : List (List Nat)) (l : List Nat) : List Nat := (List.range O.length).filter fun v => within O l v
def rWatch (ds : List PyData) (out : PyData) : Prop := ∃ (O : List (List Nat)) (l : List Nat), ds = [ordD O, natsT l] ∧ O.length ≤ 1000 ∧ out = natsT (watch O l)
def rCov (ds : List PyData) (r : Bool) : Prop := ∃ (O : List (List Nat)) (a b : List Nat), ds = [ordD O, natsT a, natsT b] ∧ O.length ≤ 1000 ∧ r = (watch O b).all fun v => within O a v
def joined (a b : List Nat) : List Nat := (List.range 5).filter fun x => decide (x ∈ a ∨ x ∈ b)
def rJoin (ds : List PyData) (out : PyData) : Prop := ∃ a b : List Nat, ds = [natsT a, natsT b] ∧ a.length ≤ 5 ∧ b.length ≤ 5 ∧ (∀ x ∈ a, x < 5) ∧ (∀ x ∈ b, x < 5) ∧ out = natsT (joined a b)
theorem range_nat (n : Nat) : (List.range n).map (fun (i : Nat) => PyData.int (0 + (i : Int))) = (List.range n).map natD := List.map_congr_left fun i _ => by
  show PyData.int (0 + (i : Int)) = PyData.int (i : Int)
  rw [Int.zero_add]
/-- ints that are ascending are told by their members -/
theorem asc_ext : ∀ {l m : List Int}, l.Pairwise (· < ·) → m.Pairwise (· < ·) → (∀ x, x ∈ l ↔ x ∈ m) → l = m
  | [], [], _, _, _ => rfl
  | [], b :: m, _, _, h => absurd ((h b).2 List.mem_cons_self) List.not_mem_nil
  | a :: l, [], _, _, h => absurd ((h a).1 List.mem_cons_self) List.not_mem_nil
  | a :: l, b :: m, .cons h1 h2, .cons g1 g2, h => by
    have e : a = b := by
      rcases List.mem_cons.mp ((h a).1 List.mem_cons_self) with z | z
      · exact z
      · rcases List.mem_cons.mp ((h b).2 List.mem_cons_self) with y | y
        · exact y.symm
        · have := h1 b y
          have := g1 a z
          omega
    subst e
    congr 1
    refine asc_ext h2 g2 fun x => ⟨fun hx => ?_, fun hx => ?_⟩
    · rcases List.mem_cons.mp ((h x).1 (List.mem_cons_of_mem _ hx)) with z | z
      · have := h1 x hx
        omega
      · exact z
    · rcases List.mem_cons.mp ((h x).2 (List.mem_cons_of_mem _ hx)) with z | z
      · have := g1 x hx
        omega
      · exact z
theorem getD_at {l : List Nat} {k : Nat} (h : k < l.length) : l[k]? = some (l.getD k 0) := by
  rw [List.getD_eq_getElem?_getD, List.getElem?_eq_getElem h]
  rfl
section
variable {P : Program} {w : World} {K : PySem.W.Frag} {mg : Str → Option Value} {base : Heap}
theorem ok_is_ascending {f c p : Addr} {fd : FuncData} (D : AtT K mg base "is_ascending" s_is_ascending ["things"] f fd c p) (m_all : mg "all" = none) (m_len : mg "len" = none) (m_range : mg "range" = none) :
    FnOk P w K mg base CX0 4 f fd ["things"] (spQ (fun H => H p = some (tabX p)) rAsc) := by
  have TB := D.tab
  refine fn_okC D.at_.F D.code sc_is_ascending (fun vs H Q E h => ?_) (fun A outer s H vs Q E hr h => ?_)
  · obtain ⟨T, _, _, _, hd, ⟨l, rfl, _⟩, _⟩ := h
    exact hd.len
  obtain ⟨T, _, _, sT, hd, ⟨l, rfl, hl, rfl⟩, hP, q⟩ := h
  obtain ⟨v1, _, rfl, ⟨al, xl, rfl, el, hx⟩, rfl⟩ := hd
  have ex := nats_of hx
  subst ex
  have nd := sc_is_ascending.nd
  refine ⟨_, (pss_one (ps_ret (pe_allG (own := [("k", 1)]) (g := gName 1) (tt := tYes) hr rfl (by rfl) m_all (by decide +kernel) TB rfl nd (pi_range1 (by rfl) m_range (pa_cons (pe_op op_sub (pe_callB call_len_seq (by rfl) m_len PySem.boot_len (pa_cons (pv 0) pa_nil)) pe_int) pa_nil)) (blkOk_by (own := [("k", 1)]) (N := ["things", "k"]) (sc := defScope s_is_ascending) (by decide +kernel)) (fun _ _ _ _ _ _ _ _ _ hr => (pg_name (i := 1) nd rfl (Or.inl rfl))) (fun _ _ _ _ _ _ _ _ _ hr => pts_nil) (fun _ _ _ _ _ _ _ _ _ hr => (pe_cmpR op_lt (pe_ix (ix_tupK K (by rfl)) (pv 0) (pv 1) (fun _ _ => rfl)) (pe_ix (ix_tupK K (by rfl)) (pv 0) (pe_op op_add (pv 1) pe_int) (fun _ _ => rfl)) (nomark _)))))), ?_⟩
  refine ⟨.ref al, rfl, al, _, rfl, .inr (.inl (.inl (sT _ _ el))), _, 1, rfl, rfl, _, rfl, by rw [List.length_map]; omega, by rw [List.length_map]; omega, hP, ?_⟩
  have eN : (((l.map natV).length : Int) - 1).toNat = l.length - 1 := by rw [List.length_map]; omega
  rw [show ((((l.map natV).length : Nat) : Int) - 1).toNat = l.length - 1 from eN]
  refine gw_enc (ds := List.range (l.length - 1)) natD (fun _ => true) (fun k => decide (l.getD k 0 < l.getD (k + 1) 0)) sT (by rw [← range_nat]; exact gives_range sT) (fun i k x T2 H2 R R0 hk x2 hx2 r r0 => ?_) (fun T' H' x' => ?_)
  · obtain rfl : x = natV k := hx2
    have hk2 := List.mem_range.mp (List.mem_of_getElem? hk)
    have hal := x2.th _ _ (x2.tt _ _ el)
    have at1 : ∀ {j : Nat}, j < l.length → (l.map natV)[j]? = some (natV (l.getD j 0)) := fun {j} hj => by
      rw [List.getElem?_map, getD_at hj]
      rfl
    refine ⟨rfl, .ref al, rfl, natV k, rfl, al, _, k, natV (l.getD k 0), rfl, rfl, .inl (.inl hal), atI_nat (at1 (by omega)), ?_⟩
    refine ⟨.ref al, rfl, natV k, rfl, k, 1, rfl, rfl, al, _, ((k + 1 : Nat) : Int), natV (l.getD (k + 1) 0), rfl, rfl, .inl (.inl hal), atI_nat (at1 (by omega)), ?_⟩
    refine ⟨_, _, rfl, rfl, ?_⟩
    have e0 : decide ((l.getD k 0 : Int) < (l.getD (k + 1) 0 : Int)) = decide (l.getD k 0 < l.getD (k + 1) 0) := decide_eq_decide.mpr (by omega)
    show R (.bl (decide ((l.getD k 0 : Int) < (l.getD (k + 1) 0 : Int)))) H2
    rw [e0]
    exact r T2 H2 (.refl x2.th) rfl
  · have qq := q H' T' x'
    rw [filter_yes]
    exact qq
end
end K02
end

section
set_option maxHeartbeats 2000000
set_option pp.maxSteps 400
namespace K02
open PySem PySem.Spec PyProof.Rows L2 Zc
theorem levs_nat {n : Int} : ∀ {ds : List PyData}, ds.all (isLev n) = true → ∃ l : List Nat, ds = l.map natD
  | [], _ => ⟨[], rfl⟩
  | d :: ds, h => by
    rw [List.all_cons, Bool.and_eq_true] at h
    obtain ⟨l, e⟩ := levs_nat h.2
    cases d with
    | int i =>
      have h1 : (decide (0 ≤ i) && decide (i < n)) = true := h.1
      rw [Bool.and_eq_true, decide_eq_true_eq, decide_eq_true_eq] at h1
      refine ⟨i.toNat :: l, ?_⟩
      rw [List.map_cons, ← e]
      show PyData.int i :: ds = PyData.int ((i.toNat : Nat) : Int) :: ds
      rw [Int.toNat_of_nonneg h1.1]
    | _ => exact absurd h.1 (by simp [isLev])
theorem natOf_map (l : List Nat) : (l.map natD).map natOf = l := by
  rw [List.map_map]
  refine (List.map_congr_left fun x _ => ?_).trans (List.map_id l)
  rfl
theorem within_at {O : List (List Nat)} {v : Nat} {ms : List Nat} (h : O[v]? = some ms) (l : List Nat) : within O l v = l.all fun x => decide (x ∈ ms) := by
  unfold within
  rw [List.getD_eq_getElem?_getD, h]
  rfl
def spLot : Sp := fun vs H Q _ => ∃ (T : Hp) (d l : Addr) (n : Nat), vs = [.ref d, .int (n : Int)] ∧ Same T H ∧ T d = none ∧ T l = none ∧ Deal H d l ∧ n ≤ 100 ∧
  ∀ (A : List Nat) (T' H' : Hp) (v : V), A.Pairwise (· < ·) → (∀ x ∈ A, x < n) → ExD d l T H T' H' → Deal H' d l → Da T' (natsT A) v → Q v H'
section
variable {P : Program} {w : World} {K : PySem.W.Frag} {mg : Str → Option Value} {base : Heap}
theorem ok_is_lot {f c p fA cA pA fL fN fI : Addr} {fd fdA fdL fdN fdI : FuncData} (D : AtT K mg base "is_lot" s_is_lot ["order", "value"] f fd c p) (DA' : AtT K mg base "is_ascending" s_is_ascending ["things"] fA fdA cA pA)
    (DL : At K mg "is_level" s_is_level ["levels", "value"] fL fdL) (DN : At K mg "is_number" s_is_number ["value"] fN fdN) (DI : At K mg "is_integer" s_is_integer ["value"] fI fdI)
    (m_isinstance : mg "isinstance" = none) (m_int : mg "int" = none) (m_bool : mg "bool" = none) (m_tuple : mg "tuple" = none) (m_all : mg "all" = none) (m_len : mg "len" = none) (m_range : mg "range" = none) :
    FnOk P w K mg base CX0 7 f fd ["order", "value"] (spQ (fun H => H p = some (tabX p) ∧ H pA = some (tabX pA)) rLot) := by
  have GL : FnOk P w K mg base CX0 3 fL fdL ["levels", "value"] (spQ C0 rLev) := ok_is_level DL DN DI m_isinstance m_int m_bool
  have Gas : FnOk P w K mg base CX0 6 fA fdA ["things"] (spQ (fun H => H pA = some (tabX pA)) rAsc) := (ok_is_ascending DA' m_all m_len m_range).mono (by decide)
  have Das := DA'.at_
  have TB := D.tab
  refine fn_okC D.at_.F D.code sc_is_lot (fun vs H Q E h => ?_) (fun A outer s H vs Q E hr h => ?_)
  · obtain ⟨T, _, _, _, hd, ⟨O, d, rfl, _⟩, _⟩ := h
    exact hd.len
  obtain ⟨T, _, _, sT, hd, ⟨O, d, rfl, hsz, rfl⟩, hP, q⟩ := h
  obtain ⟨v1, _, rfl, ⟨ao, xo, rfl, eo, ho⟩, v, _, rfl, hv, rfl⟩ := hd
  have lo : xo.length = O.length := by rw [ho.len, List.length_map]
  have nd := sc_is_lot.nd
  obtain ⟨t, ty, _, _, e3, _⟩ := hv.ask (K := K) sT
  refine ⟨_, (pss_cons (ps_if (pt_not (pt_val (pe_callB call_isi (by rfl) m_isinstance boot_isinstance (pa_cons (pv 1) (pa_cons (pe_bltn (v := .ty "tuple") (by rfl) m_tuple boot_tuple rfl) pa_nil)))))
    (pss_one (ps_ret pe_bl))
    pss_nil)
  (pss_one (ps_ret (pe_and (pe_allG (own := [("level", 2)]) (g := gName 2) (tt := tYes) hr rfl (by rfl) m_all (by decide +kernel) TB rfl nd (pi_tup (pv 1)) (blkOk_by (own := [("level", 2)]) (N := ["order", "value", "level"]) (sc := defScope s_is_lot) (by decide +kernel)) (fun _ _ _ _ _ _ _ _ _ hr => (pg_name (i := 2) nd rfl (Or.inl rfl))) (fun _ _ _ _ _ _ _ _ _ hr => pts_nil) (fun _ _ _ _ _ _ _ _ _ hr => (pe_call GL hr (by rfl) DL.g DL.F.kp DL.b .nil pass0 (pa_cons (pe_callB (call_len_seqK K (by rfl)) (by rfl) m_len PySem.boot_len (pa_cons (pv 0) pa_nil)) (pa_cons (pv 2) pa_nil))))) (pe_one (pe_call Gas hr (by rfl) Das.g Das.F.kp Das.b .nil pass0 (pa_cons (pv 1) pa_nil))))))), ?_⟩
  refine ⟨v, rfl, v, .ty "tuple", t, _, _, rfl, .ty _, ty, e3, _, rfl, ?_⟩
  cases d with
  | tuple ds =>
    have hv2 := hv
    obtain ⟨a, xs, rfl, ea, hx⟩ := hv
    refine iteFe rfl ?_
    refine ⟨.ref a, rfl, a, rfl, ⟨_, .inl (.inl (sT _ _ ea))⟩, hP.1, ?_⟩
    refine gw_dat (fun _ => true) (isLev (O.length : Nat)) sT (gives_tup sT ea hx) (fun i d x T2 H2 R R0 hd2 x2 hx2 r r0 => ?_) (fun T' H' x' => ?_)
    · refine ⟨rfl, .ref ao, rfl, ao, xo, rfl, .inr (.inl (.inl (x2.th _ _ (x2.tt _ _ eo)))), x, rfl, T2, [.int (xo.length : Int), d], _, x2.th, .two rfl hx2, ⟨_, d, rfl, rfl⟩, trivial, fun H3 T3 x3 => ?_⟩
      rw [lo]
      exact r T3 H3 x3 rfl
    · rw [show ds.filter (fun _ => true) = ds from List.filter_eq_self.mpr fun _ _ => rfl]
      refine ⟨_, rfl, ?_⟩
      have eB : anyAll true (isLev (O.length : Nat)) ds = ds.all (isLev (O.length : Nat)) := if_pos rfl
      rw [eB]
      have qq := fun T3 H3 (x3 : Ext T H T3 H3) => q H3 T3 x3
      refine ite2 (fun e => ?_) (fun e => ?_)
      · obtain ⟨l, rfl⟩ := levs_nat e
        refine ⟨.ref a, rfl, T', [natsT l], _, x'.th, .one (Da.keep x'.tt _ _ hv2), ⟨l, rfl, by have := hsz _ rfl; rwa [List.length_map] at this, rfl⟩, x'.hh _ _ hP.2, fun H3 T3 x3 => ?_⟩
        have q3 := qq T3 H3 (x'.trans x3)
        rw [show isLotD (O.length : Nat) (.tuple (l.map natD)) = ((l.map natD).all (isLev (O.length : Nat)) && asc ((l.map natD).map natOf)) from rfl, e, natOf_map, Bool.true_and] at q3
        exact q3
      · have q3 := qq T' H' x'
        rw [show isLotD (O.length : Nat) (.tuple ds) = (ds.all (isLev (O.length : Nat)) && asc (ds.map natOf)) from rfl, Bool.eq_false_iff.mpr e, Bool.false_and] at q3
        exact q3
  | _ => exact iteTe rfl (q H T (.refl sT))
theorem ok_joined {f : Addr} {fd : FuncData} (D : At K mg "joined_lots" s_joined_lots ["one", "other"] f fd) (m_set : mg "set" = none) (m_sorted : mg "sorted" = none) (m_tuple : mg "tuple" = none) :
    FnOk P w K mg base CX0 1 f fd ["one", "other"] (spD C0 rJoin) := by
  refine D.F.ok sc_joined_lots (fun vs H Q E h => ?_) (fun cdv A outer s H vs Q E hr h => ?_)
  · obtain ⟨T, _, _, _, hd, ⟨a, b, rfl, _⟩, _⟩ := h
    exact hd.len
  obtain ⟨T, _, _, sT, hd, ⟨a, b, rfl, la, lb, ha, hb, rfl⟩, _, q⟩ := h
  obtain ⟨v1, _, rfl, ⟨a1, x1, rfl, e1, h1⟩, v2, _, rfl, ⟨a2, x2, rfl, e2, h2⟩, rfl⟩ := hd
  have f1 := nats_of h1
  have f2 := nats_of h2
  subst f1 f2
  have sb : (100 : Nat) < scanBound := by decide
  refine ⟨_, (pss_one (ps_ret (pe_callTy call_tuple_of (by rfl) m_tuple boot_tuple (pa_cons (pe_callB (cr_sortedSet (by rfl)) (by rfl) m_sorted (by decide +kernel) (pa_cons (pe_op op_setOr (pe_callTy (cr_setT (by rfl)) (by rfl) m_set PyProof.Rows.boot_set (pa_cons (pv 0) pa_nil)) (pe_callTy (cr_setT (by rfl)) (by rfl) m_set PyProof.Rows.boot_set (pa_cons (pv 1) pa_nil))) pa_nil)) pa_nil)))), ?_⟩
  refine ⟨.ref a1, rfl, a1, a.map Int.ofNat, rfl, .inl (.inl (by rw [← natV_int]; exact sT _ _ e1)), by rw [List.length_map]; omega, fun p c np hc => ?_⟩
  have s1 : Same H (upd H p (SetO w p (fun j => decide (j ∈ a.map Int.ofNat)) c)) := same_new np
  refine ⟨.ref a2, rfl, a2, b.map Int.ofNat, rfl, .inl (.inl (by rw [← natV_int]; exact s1 _ _ (sT _ _ e2))), by rw [List.length_map]; omega, fun p2 c2 np2 hc2 => ?_⟩
  have pp : p ≠ p2 := ne_of_none (upd_same (H := H)) np2
  rw [List.length_map] at hc hc2
  have sm : ∀ l : List Nat, (∀ x ∈ l, x < 5) → SmallS (fun j => decide (j ∈ l.map Int.ofNat)) := fun l hl k hk => by
    have hk' := of_decide_eq_true hk
    obtain ⟨x, hx, rfl⟩ := List.mem_map.mp hk'
    have := hl x hx
    show (0 : Int) ≤ (x : Int) ∧ (x : Int) < 5
    omega
  refine ⟨p, p2, _, _, c, c2, rfl, rfl, by rw [upd_ne pp]; exact upd_same, upd_same, pp, sm a ha, sm b hb, by omega, by omega, fun p3 c3 np3 hc3 => ?_⟩
  refine ⟨p3, _, c3, rfl, upd_same, by omega, fun ns p4 hpw hmem hlen np4 => ?_⟩
  have ens : ns = (joined a b).map Int.ofNat := by
    refine asc_ext hpw ?_ fun x => ?_
    · rw [List.pairwise_map]
      refine (List.Pairwise.filter _ (List.pairwise_lt_range)).imp fun {i j} h => ?_
      show (i : Int) < (j : Int)
      omega
    · rw [hmem x]
      show (decide (x ∈ a.map Int.ofNat) || decide (x ∈ b.map Int.ofNat)) = true ↔ _
      rw [Bool.or_eq_true, decide_eq_true_eq, decide_eq_true_eq]
      constructor
      · rintro (z | z)
        · obtain ⟨y, hy, rfl⟩ := List.mem_map.mp z
          exact List.mem_map.mpr ⟨y, List.mem_filter.mpr ⟨List.mem_range.mpr (ha y hy), decide_eq_true (.inl hy)⟩, rfl⟩
        · obtain ⟨y, hy, rfl⟩ := List.mem_map.mp z
          exact List.mem_map.mpr ⟨y, List.mem_filter.mpr ⟨List.mem_range.mpr (hb y hy), decide_eq_true (.inr hy)⟩, rfl⟩
      · intro z
        obtain ⟨y, hy, rfl⟩ := List.mem_map.mp z
        rcases of_decide_eq_true (List.mem_filter.mp hy).2 with g | g
        · exact .inl (List.mem_map.mpr ⟨y, g, rfl⟩)
        · exact .inr (List.mem_map.mpr ⟨y, g, rfl⟩)
  subst ens
  rw [← natV_int]
  refine ⟨p4, _, rfl, .inl ⟨.inl (.inl upd_same), fun t nt => ?_⟩⟩
  have s5 := (((s1.trans (same_new np2)).trans (same_new np3)).trans (same_new (o := .lst ((joined a b).map natV)) np4))
  have x6 := (Ext.more sT s5).trans (Ext.new (o := .tup ((joined a b).map natV)) (sT.trans s5) nt)
  exact q _ _ _ x6 ⟨t, _, rfl, upd_same, nats_da _⟩
end
end K02
end

section
set_option maxHeartbeats 2000000
set_option pp.maxSteps 400
namespace K02
open PySem PySem.Spec PyProof.Rows L2 Zc
section
variable {P : Program} {w : World} {K : PySem.W.Frag} {mg : Str → Option Value} {base : Heap}
theorem ok_watchers {f fW cW pW : Addr} {fd fdW : FuncData} (D : At K mg "watchers" s_watchers ["order", "lot"] f fd) (DW' : AtT K mg base "lot_within" s_lot_within ["order", "lot", "level"] fW fdW cW pW)
    (m_all : mg "all" = none) (m_len : mg "len" = none) (m_range : mg "range" = none) (m_tuple : mg "tuple" = none) : FnOk P w K mg base CX0 5 f fd ["order", "lot"] (spD (fun H => H pW = some (tabX pW)) rWatch) := by
  have GW : FnOk P w K mg base CX0 4 fW fdW ["order", "lot", "level"] (spQ (fun H => H pW = some (tabX pW)) rWithin) := ok_lot_within DW' m_all
  have DW := DW'.at_
  refine D.F.ok sc_watchers (fun vs H Q E h => ?_) (fun cdv A outer s H vs Q E hr h => ?_)
  · obtain ⟨T, _, _, _, hd, ⟨O, l, rfl, _⟩, _⟩ := h
    exact hd.len
  obtain ⟨T, _, _, sT, hd, ⟨O, l, rfl, hO, rfl⟩, hP, q⟩ := h
  obtain ⟨v1, _, rfl, hO1, v2, _, rfl, hl2, rfl⟩ := hd
  obtain ⟨ao, xo, rfl, eo, ho⟩ := id hO1
  have lo : xo.length = O.length := by rw [ho.len, List.length_map]
  have nd := sc_watchers.nd
  have big : (1000 : Nat) < sizeLine := by decide
  refine ⟨_, (pss_one (ps_ret (pe_callTy call_tuple_of (by rfl) m_tuple boot_tuple (pa_cons (pe_lc (own := [("level", 2)]) (g := gName 2)  (by rfl) nd (pi_range1 (by rfl) m_range (pa_cons (pe_callB call_len_seq (by rfl) m_len PySem.boot_len (pa_cons (pv 0) pa_nil)) pa_nil)) (blkOk_by (own := [("level", 2)]) (N := ["order", "lot", "level"]) (sc := defScope s_watchers) (by decide +kernel)) (fun _ _ _ _ _ => (pg_name (i := 2) nd rfl (Or.inl rfl))) (fun _ _ _ _ _ => pts_one (pt_val (pe_call GW hr (by rfl) DW.g DW.F.kp DW.b .nil pass0 (pa_cons (pv 0) (pa_cons (pv 1) (pa_cons (pv 2) pa_nil)))))) (fun _ _ _ _ _ => (pv 2))) pa_nil)))), ?_⟩
  refine ⟨.ref ao, rfl, ao, xo, rfl, .inr (.inl (.inl (sT _ _ eo))), _, rfl, by omega, by omega, fun L nL => ?_⟩
  rw [show ((xo.length : Nat) : Int).toNat = O.length by rw [Int.toNat_natCast, lo]]
  refine lc_enc (enc := natD) (p := fun v => within O l v) (f := natD) (ds := List.range O.length) (T := T) sT nL (by rw [List.length_range]; omega) (by rw [← range_nat]; exact gives_range sT) (fun i v x T2 H2 R R0 hi x2 hx2 r1 r0 => ?_) (fun T' H' ys x' hys hda => ?_)
  · obtain rfl : x = natV v := hx2
    have hv := List.mem_range.mp (List.mem_of_getElem? hi)
    obtain ⟨ms, hms⟩ : ∃ ms, O[v]? = some ms := ⟨_, List.getElem?_eq_getElem hv⟩
    refine ⟨rfl, .ref ao, rfl, v2, rfl, natV v, rfl, T2, [ordD O, natsT l, natD v], _, x2.th, .three (Da.keep x2.tt _ _ hO1) (Da.keep x2.tt _ _ hl2) rfl, ⟨O, l, v, ms, rfl, hms, rfl⟩, x2.hh _ _ hP, fun H3 T3 x3 => ⟨_, rfl, ?_⟩⟩
    rw [← within_at hms l]
    exact ite2 (fun e => ⟨natV v, rfl, r1 T3 H3 _ x3 rfl e⟩) (fun e => r0 T3 H3 x3 (Bool.eq_false_iff.mpr e))
  · refine ⟨L, ys, rfl, .inl ⟨.inl (.inl (x'.th _ _ hys)), fun t nt => ?_⟩⟩
    have x4 := Ext.new (o := .tup ys) x'.th nt
    exact q _ _ _ (x'.trans x4) ⟨t, ys, rfl, upd_same, hda.keep x4.tt⟩
theorem ok_covered {f c p fw fW cW pW : Addr} {fd fdw fdW : FuncData} (D : AtT K mg base "covered" s_covered ["order", "one", "other"] f fd c p) (Dwa : At K mg "watchers" s_watchers ["order", "lot"] fw fdw) (DW' : AtT K mg base "lot_within" s_lot_within ["order", "lot", "level"] fW fdW cW pW)
    (m_all : mg "all" = none) (m_len : mg "len" = none) (m_range : mg "range" = none) (m_tuple : mg "tuple" = none) : FnOk P w K mg base CX0 8 f fd ["order", "one", "other"] (spQ (fun H => H p = some (tabX p) ∧ H pW = some (tabX pW)) rCov) := by
  have GW : FnOk P w K mg base CX0 4 fW fdW ["order", "lot", "level"] (spQ (fun H => H pW = some (tabX pW)) rWithin) := ok_lot_within DW' m_all
  have DW := DW'.at_
  have Gwa : FnOk P w K mg base CX0 7 fw fdw ["order", "lot"] (spD (fun H => H pW = some (tabX pW)) rWatch) := (ok_watchers Dwa DW' m_all m_len m_range m_tuple).mono (by decide)
  have TB := D.tab
  refine fn_okC D.at_.F D.code sc_covered (fun vs H Q E h => ?_) (fun A outer s H vs Q E hr h => ?_)
  · obtain ⟨T, _, _, _, hd, ⟨O, a, b, rfl, _⟩, _⟩ := h
    exact hd.len
  obtain ⟨T, _, _, sT, hd, ⟨O, a, b, rfl, hO, rfl⟩, hP, q⟩ := h
  obtain ⟨v1, _, rfl, hO1, v2, _, rfl, ha2, v3, _, rfl, hb2, rfl⟩ := hd
  have nd := sc_covered.nd
  refine ⟨_, (pss_one (ps_ret (pe_allG (own := [("level", 3)]) (g := gName 3) (tt := tYes) hr rfl (by rfl) m_all (by decide +kernel) TB rfl nd (pi_tup (pe_call Gwa hr (by rfl) Dwa.g Dwa.F.kp Dwa.b .nil pass0 (pa_cons (pv 0) (pa_cons (pv 2) pa_nil)))) (blkOk_by (own := [("level", 3)]) (N := ["order", "one", "other", "level"]) (sc := defScope s_covered) (by decide +kernel)) (fun _ _ _ _ _ _ _ _ _ hr => (pg_name (i := 3) nd rfl (Or.inl rfl))) (fun _ _ _ _ _ _ _ _ _ hr => pts_nil) (fun _ _ _ _ _ _ _ _ _ hr => (pe_call GW hr (by rfl) DW.g DW.F.kp DW.b .nil pass0 (pa_cons (pv 0) (pa_cons (pv 1) (pa_cons (pv 3) pa_nil)))))))), ?_⟩
  refine ⟨v1, rfl, v3, rfl, T, [ordD O, natsT b], _, sT, .two hO1 hb2, ⟨O, b, rfl, hO, rfl⟩, hP.2, fun H1 T1 v x1 hv => ?_⟩
  obtain ⟨aw, xw, rfl, ew, hw⟩ := hv
  refine ⟨aw, rfl, ⟨_, .inl (.inl (x1.th _ _ ew))⟩, x1.hh _ _ hP.1, ?_⟩
  refine gw_enc (ds := watch O b) natD (fun _ => true) (fun v => within O a v) x1.th (gives_tup x1.th ew hw) (fun i v x T2 H2 R R0 hi x2 hx2 r r0 => ?_) (fun T' H' x' => ?_)
  · obtain rfl : x = natV v := hx2
    have hv := List.mem_range.mp (List.mem_filter.mp (List.mem_of_getElem? hi)).1
    obtain ⟨ms, hms⟩ : ∃ ms, O[v]? = some ms := ⟨_, List.getElem?_eq_getElem hv⟩
    have g := x1.tt.trans x2.tt
    refine ⟨rfl, v1, rfl, v2, rfl, natV v, rfl, T2, [ordD O, natsT a, natD v], _, x2.th, .three (Da.keep g _ _ hO1) (Da.keep g _ _ ha2) rfl, ⟨O, a, v, ms, rfl, hms, rfl⟩, x2.hh _ _ (x1.hh _ _ hP.2), fun H3 T3 x3 => ?_⟩
    rw [← within_at hms a]
    exact r T3 H3 x3 rfl
  · have qq := q H' T' (x1.trans x')
    rw [filter_yes]
    exact qq
theorem ok_llot {f fA : Addr} {fd fdA : FuncData} (D : At K mg "_law_lot" s__law_lot ["deal", "many"] f fd) (DA : At K mg "_law_any" s__law_any ["deal", "bound"] fA fdA)
    (m_int : mg "int" = none) (m_range : mg "range" = none) (m_tuple : mg "tuple" = none) : FnOk P w K mg base CX0 2 f fd ["deal", "many"] spLot := by
  have GA : FnOk P w K mg base CX0 1 fA fdA ["deal", "bound"] spAny := ok_any DA m_int
  refine D.F.ok sc__law_lot (fun vs H Q E h => ?_) (fun cdv A outer s H vs Q E hr h => ?_)
  · obtain ⟨T, d, l, n, rfl, _⟩ := h
    rfl
  obtain ⟨T, d, l, n, rfl, sT, td, tl, hD, hn, q⟩ := h
  have nd := sc__law_lot.nd
  have big : (1000 : Nat) < sizeLine := by decide
  refine ⟨_, (pss_one (ps_ret (pe_callTy call_tuple_of (by rfl) m_tuple boot_tuple (pa_cons (pe_lc (own := [("level", 2)]) (g := gName 2)  (by rfl) nd (pi_range1 (by rfl) m_range (pa_cons (pv 1) pa_nil)) (blkOk_by (own := [("level", 2)]) (N := ["deal", "many", "level"]) (sc := defScope s__law_lot) (by decide +kernel)) (fun _ _ _ _ _ => (pg_name (i := 2) nd rfl (Or.inl rfl))) (fun _ _ _ _ _ => pts_one (pt_cmpR op_eq (pe_call GA hr (by rfl) DA.g DA.F.kp DA.b .nil pass0 (pa_cons (pv 0) (pa_cons pe_int pa_nil))) pe_int (nomark _))) (fun _ _ _ _ _ => (pv 2))) pa_nil)))), ?_⟩
  refine ⟨.int (n : Int), rfl, (n : Int), rfl, by omega, by omega, fun L nL => ?_⟩
  refine lc_draw (T := T) (fun i es => ∃ B : List Nat, es = B.map natD ∧ B.Pairwise (· < ·) ∧ ∀ x ∈ B, x < i) sT td tl hD nL (by rw [List.length_map, List.length_range]; omega) givT_range ⟨[], rfl, .nil, fun _ h => absurd h List.not_mem_nil⟩ (fun i e0 x T2 H2 es R R0 he hi hx x2 td2 tl2 hD2 hPi r1 r0 => ?_) (fun T' H' us es x' hD' hus hdu hPi => ?_)
  · obtain ⟨B, rfl, hB, hlt⟩ := hPi
    have e0' : e0 = natD i := by
      have hi' := hi
      rw [List.length_map, List.length_range] at hi'
      rw [List.getElem?_map, List.getElem?_range hi'] at he
      rw [← Option.some.inj he]
      show PyData.int (0 + (i : Int)) = PyData.int (i : Int)
      rw [Int.zero_add]
    subst e0'
    refine ⟨rfl, .ref d, rfl, d, l, 3, rfl, hD2, by decide, by decide, fun c H3 c0 c1 hD3 hB3 => ⟨rfl, _, rfl, ite2 (fun e => ?_) (fun e => ?_)⟩⟩
    · refine ⟨x, rfl, r1 T2 H3 x (natD i) (ExD.turn x2.th td2 tl2 hB3) hD3 hx ⟨B ++ [i], by rw [List.map_append]; rfl, List.pairwise_append.mpr ⟨hB, List.pairwise_singleton _ _, fun y hy z hz => by rw [List.mem_singleton.mp hz]; exact hlt y hy⟩, fun y hy => ?_⟩⟩
      rcases List.mem_append.mp hy with z | z
      · exact Nat.lt_succ_of_lt (hlt y z)
      · rw [List.mem_singleton.mp z]; exact Nat.lt_succ_self _
    · exact r0 T2 H3 (ExD.turn x2.th td2 tl2 hB3) hD3 ⟨B, rfl, hB, fun y hy => Nat.lt_succ_of_lt (hlt y hy)⟩
  · obtain ⟨B, rfl, hB, hlt⟩ := hPi
    rw [List.length_map, List.length_range] at hlt
    refine ⟨L, us, rfl, .inl ⟨.inl (.inl (x'.th _ _ hus)), fun t nt => ?_⟩⟩
    have x4 := Ext.new (o := .tup us) x'.th nt
    exact q B _ _ _ hB (fun y hy => by have := hlt y hy; omega) (ExD.trans hD x' hD' x4.toD) (hD'.same x4.hh) ⟨t, us, rfl, upd_same, hdu.keep x4.tt⟩
end
end K02
end

section
set_option maxHeartbeats 2000000
set_option pp.maxSteps 400
namespace K02
open PySem PySem.Spec PyProof.Rows L2 Zc
/-! ### what is so of lots -/
theorem eq_nil_nats {K : PySem.W.Frag} {H : Hp} {l p : Addr} {xs : List Nat} {Q : VK} (h : SqL K H l (xs.map natV)) (hp : SqL K H p []) (q : Q (.bl xs.isEmpty) H) : rEqD K (.ref l) (.ref p) H Q := by
  rw [natV_int] at h
  refine ⟨.list ((xs.map Int.ofNat).map .int), .list [], .lst h (dp_ints _), .lst hp .nil, shaped_ints _, shaped_nil, ?_⟩
  rw [show PyData.eqv (.list ((xs.map Int.ofNat).map .int)) (.list []) = xs.isEmpty by
    cases xs <;> simp [PyData.eqv, PyData.eqvAll]]
  exact q
theorem none_not {α : Type} (p : α → Bool) : ∀ lt : List α, (lt.filter fun x => !p x).isEmpty = lt.all p
  | [] => rfl
  | x :: r => by
    rw [List.filter_cons, List.all_cons]
    cases e : p x with
    | true =>
      rw [if_neg (by simp), Bool.true_and]
      exact none_not p r
    | false => rfl
theorem asc_nat {l m : List Nat} (h1 : l.Pairwise (· < ·)) (h2 : m.Pairwise (· < ·)) (h : ∀ x, x ∈ l ↔ x ∈ m) : l = m := by
  have up : ∀ {k : List Nat}, k.Pairwise (· < ·) → (k.map Int.ofNat).Pairwise (· < ·) := fun {k} hk => by
    rw [List.pairwise_map]
    refine hk.imp fun {i j} h => ?_
    show (i : Int) < (j : Int)
    omega
  have e := asc_ext (up h1) (up h2) fun x => by
    constructor
    · intro z
      obtain ⟨y, hy, rfl⟩ := List.mem_map.mp z
      exact List.mem_map.mpr ⟨y, (h y).1 hy, rfl⟩
    · intro z
      obtain ⟨y, hy, rfl⟩ := List.mem_map.mp z
      exact List.mem_map.mpr ⟨y, (h y).2 hy, rfl⟩
  have e2 := congrArg (List.map Int.toNat) e
  have back : ∀ k : List Nat, (k.map Int.ofNat).map Int.toNat = k := fun k => by
    rw [List.map_map]
    refine (List.map_congr_left fun x _ => ?_).trans (List.map_id k)
    rfl
  rwa [back, back] at e2
theorem joined_mem {a b : List Nat} (ha : ∀ x ∈ a, x < 5) (hb : ∀ x ∈ b, x < 5) (x : Nat) : x ∈ joined a b ↔ x ∈ a ∨ x ∈ b := by
  unfold joined
  rw [List.mem_filter, List.mem_range, decide_eq_true_eq]
  exact ⟨fun h => h.2, fun h => ⟨h.elim (ha x) (hb x), h⟩⟩
theorem joined_law {a b : List Nat} {n : Nat} (hn : n ≤ 5) (ha : ∀ x ∈ a, x < n) (hb : ∀ x ∈ b, x < n) : (List.range n).filter (fun x => decide (x ∈ a) || decide (x ∈ b)) = joined a b := by
  refine asc_nat (List.Pairwise.filter _ List.pairwise_lt_range) (List.Pairwise.filter _ List.pairwise_lt_range) fun x => ?_
  rw [show x ∈ joined a b ↔ x ∈ a ∨ x ∈ b from joined_mem (fun y hy => by have := ha y hy; omega) (fun y hy => by have := hb y hy; omega) x, List.mem_filter, List.mem_range, Bool.or_eq_true, decide_eq_true_eq, decide_eq_true_eq]
  exact ⟨fun h => h.2, fun h => ⟨h.elim (ha x) (hb x), h⟩⟩
theorem within_joined {O : List (List Nat)} {a b : List Nat} (ha : ∀ x ∈ a, x < 5) (hb : ∀ x ∈ b, x < 5) (v : Nat) : within O (joined a b) v = (within O a v && within O b v) := by
  unfold within
  rw [Bool.eq_iff_iff, Bool.and_eq_true, List.all_eq_true, List.all_eq_true, List.all_eq_true]
  constructor
  · intro h
    exact ⟨fun x hx => h x ((joined_mem ha hb x).2 (.inl hx)), fun x hx => h x ((joined_mem ha hb x).2 (.inr hx))⟩
  · rintro ⟨h1, h2⟩ x hx
    exact ((joined_mem ha hb x).1 hx).elim (h1 x) (h2 x)
theorem watch_mem {O : List (List Nat)} {a : List Nat} {v : Nat} (hv : v < O.length) : decide (v ∈ watch O a) = within O a v := by
  unfold watch
  rw [Bool.eq_iff_iff, decide_eq_true_eq, List.mem_filter, List.mem_range]
  exact ⟨fun h => h.2, fun h => ⟨hv, h⟩⟩
theorem watch_joined {O : List (List Nat)} {a b : List Nat} (ha : ∀ x ∈ a, x < 5) (hb : ∀ x ∈ b, x < 5) : (watch O a).filter (fun v => decide (v ∈ watch O b)) = watch O (joined a b) := by
  unfold watch
  rw [List.filter_filter]
  refine List.filter_congr fun v hv => ?_
  have hv' := List.mem_range.mp hv
  have e := watch_mem (a := b) hv'
  unfold watch at e
  rw [e, within_joined ha hb, Bool.and_comm]
theorem due_is {O : List (List Nat)} {a b : List Nat} : ((watch O b).all fun v => decide (v ∈ watch O a)) = (watch O b).all fun v => within O a v := by
  rw [Bool.eq_iff_iff, List.all_eq_true, List.all_eq_true]
  have e : ∀ v ∈ watch O b, decide (v ∈ watch O a) = within O a v := fun v hv => watch_mem (List.mem_range.mp (List.mem_filter.mp hv).1)
  exact ⟨fun h v hv => by rw [← e v hv]; exact h v hv, fun h v hv => by rw [e v hv]; exact h v hv⟩
theorem watch_lt {O : List (List Nat)} {a : List Nat} : ∀ v ∈ watch O a, v < O.length := fun v hv => List.mem_range.mp (List.mem_filter.mp hv).1
theorem watch_len (O : List (List Nat)) (a : List Nat) : (watch O a).length ≤ O.length := by
  have := List.length_filter_le (fun v => within O a v) (List.range O.length)
  rw [List.length_range] at this
  exact this
theorem asc_of {l : List Nat} (h : l.Pairwise (· < ·)) : asc l = true := by
  unfold asc
  rw [List.all_eq_true]
  intro k hk
  have hk' := List.mem_range.mp hk
  have e1 := getD_at (l := l) (k := k) (by omega)
  have e2 := getD_at (l := l) (k := k + 1) (by omega)
  have := List.pairwise_iff_getElem.mp h k (k + 1) (by omega) (by omega) (by omega)
  rw [List.getElem?_eq_getElem (by omega)] at e1 e2
  rw [← Option.some.inj e1, ← Option.some.inj e2]
  exact decide_eq_true this
theorem lev_nat {n x : Nat} (h : x < n) : isLev (n : Int) (natD x) = true := by
  show (decide (0 ≤ (x : Int)) && decide ((x : Int) < (n : Int))) = true
  rw [decide_eq_true (by omega), decide_eq_true (by omega)]
  rfl
theorem lot_ok {n : Nat} {l : List Nat} (h : l.Pairwise (· < ·)) (hb : ∀ x ∈ l, x < n) : isLotD (n : Int) (natsT l) = true := by
  show ((l.map natD).all (isLev (n : Int)) && asc ((l.map natD).map natOf)) = true
  rw [natOf_map, asc_of h, Bool.and_true, List.all_map, List.all_eq_true]
  exact fun x hx => lev_nat (hb x hx)
theorem lot_bad_mem {n : Int} {xs : List PyData} {x : PyData} (hx : x ∈ xs) (h : isLev n x = false) : isLotD n (.tuple xs) = false := by
  show (xs.all (isLev n) && asc (xs.map natOf)) = false
  have e : xs.all (isLev n) = false := by
    rw [Bool.eq_false_iff]
    intro z
    rw [List.all_eq_true.mp z x hx] at h
    cases h
  rw [e, Bool.false_and]
theorem asc_bad {l : List Nat} {k : Nat} (hk : k + 1 < l.length) (h : ¬ l.getD k 0 < l.getD (k + 1) 0) : asc l = false := by
  unfold asc
  rw [Bool.eq_false_iff]
  intro z
  exact h (of_decide_eq_true (List.all_eq_true.mp z k (List.mem_range.mpr (by omega))))
theorem lot_bad_asc {n : Int} {l : List Nat} (h : asc l = false) : isLotD n (.tuple (l.map natD)) = false := by
  show ((l.map natD).all (isLev n) && asc ((l.map natD).map natOf)) = false
  rw [natOf_map, h, Bool.and_false]
def bads (n : Nat) (l : List Nat) : List PyData :=
  [.tuple (l.map natD ++ [.int (n : Int)]), .tuple ((l.map natD).reverse ++ (l.map natD).take 1), .tuple (l.map natD ++ [.bool true]), .list (l.map natD), .none, .tuple [.int (-1)], .tuple (l.map natD ++ l.map natD), .tuple [.str "0"]]
def keepB (d : PyData) : Bool := !PyData.eqv d (.tuple [])
theorem bads_bad {n : Nat} {l : List Nat} (hp : l.Pairwise (· < ·)) : ∀ d ∈ (bads n l).filter keepB, isLotD (n : Int) d = false := fun d hd => by
  obtain ⟨hd, hk⟩ := List.mem_filter.mp hd
  unfold bads at hd
  simp only [List.mem_cons, List.not_mem_nil, or_false] at hd
  rcases hd with rfl | rfl | rfl | rfl | rfl | rfl | rfl | rfl
  · refine lot_bad_mem (List.mem_append_right _ (List.mem_singleton.mpr rfl)) ?_
    show (decide (0 ≤ (n : Int)) && decide ((n : Int) < (n : Int))) = false
    rw [decide_eq_false (by omega : ¬ (n : Int) < (n : Int)), Bool.and_false]
  · cases l with
    | nil => exact absurd hk (by simp [keepB, PyData.eqv, PyData.eqvAll])
    | cons a r =>
      have e : ((a :: r).map natD).reverse ++ ((a :: r).map natD).take 1 = (r.reverse ++ [a, a]).map natD := by
        rw [← List.map_reverse, List.map_append]
        simp
      rw [e]
      refine lot_bad_asc (asc_bad (k := r.length) (by simp) ?_)
      rw [List.getD_eq_getElem?_getD, List.getD_eq_getElem?_getD, List.getElem?_append_right (by simp), List.getElem?_append_right (by simp)]
      simp
  · exact lot_bad_mem (List.mem_append_right _ (List.mem_singleton.mpr rfl)) rfl
  · rfl
  · rfl
  · exact lot_bad_mem (List.mem_singleton.mpr rfl) rfl
  · cases l with
    | nil => exact absurd hk (by simp [keepB, PyData.eqv, PyData.eqvAll])
    | cons a r =>
      rw [← List.map_append]
      refine lot_bad_asc (asc_bad (k := r.length) (by simp only [List.length_append, List.length_cons]; omega) ?_)
      rw [List.getD_eq_getElem?_getD, List.getD_eq_getElem?_getD, List.getElem?_append_left (by simp), List.getElem?_append_right (by simp)]
      rw [show r.length + 1 - (a :: r).length = 0 from Nat.sub_self _]
      show ¬ ((a :: r)[r.length]?).getD 0 < a
      rw [List.getElem?_eq_getElem (by simp)]
      show ¬ (a :: r)[r.length] < a
      have hge : ∀ x ∈ a :: r, a ≤ x := fun x hx => by
        rcases List.mem_cons.mp hx with z | z
        · omega
        · cases hp with
          | cons h1 _ => exact Nat.le_of_lt (h1 x z)
      have := hge _ (List.getElem_mem (l := a :: r) (n := r.length) (by simp))
      omega
  · exact lot_bad_mem (List.mem_singleton.mpr rfl) rfl
theorem plain_all : ∀ {xs : List PyData}, (∀ x ∈ xs, plainD x = true) → plainAll xs = true
  | [], _ => by simp [plainAll]
  | x :: r, h => by
    simp only [plainAll, h x List.mem_cons_self, plain_all fun y hy => h y (List.mem_cons_of_mem _ hy), Bool.and_self]
theorem nat_plain {x : Nat} (h : x < 1000) : plainD (natD x) = true := by
  have : (1000 : Nat) < 2 ^ 64 := by decide
  show plainD (.int (x : Int)) = true
  simp only [plainD]
  exact decide_eq_true (by omega)
theorem bads_plain {n : Nat} {l : List Nat} (hn : n < 1000) (hl : ∀ x ∈ l, x < 1000) : ∀ d ∈ bads n l, plainD d = true ∧ d.depth ≤ 64 := by
  have base : ∀ x ∈ l.map natD, plainD x = true ∧ x.depth = 0 := fun x hx => by
    obtain ⟨y, hy, rfl⟩ := List.mem_map.mp hx
    exact ⟨nat_plain (hl y hy), by simp [natD, PyData.depth]⟩
  have flat : ∀ {xs : List PyData}, (∀ x ∈ xs, plainD x = true ∧ x.depth = 0) → (plainD (.tuple xs) = true ∧ (PyData.tuple xs).depth ≤ 64) ∧ (plainD (.list xs) = true ∧ (PyData.list xs).depth ≤ 64) := fun {xs} h => by
    have h1 := plain_all fun x hx => (h x hx).1
    have h2 : PyData.depthAll xs = 0 := depth_flat _ fun d hd => (h d hd).2
    simp [plainD, PyData.depth, h1, h2]
  have app : ∀ {xs ys : List PyData}, (∀ x ∈ xs, plainD x = true ∧ x.depth = 0) → (∀ x ∈ ys, plainD x = true ∧ x.depth = 0) → ∀ x ∈ xs ++ ys, plainD x = true ∧ x.depth = 0 := fun {xs ys} h g x hx => (List.mem_append.mp hx).elim (h x) (g x)
  have one : ∀ {y : PyData}, plainD y = true ∧ y.depth = 0 → ∀ x ∈ [y], plainD x = true ∧ x.depth = 0 := fun {y} h x hx => by rw [List.mem_singleton.mp hx]; exact h
  intro d hd
  unfold bads at hd
  simp only [List.mem_cons, List.not_mem_nil, or_false] at hd
  rcases hd with rfl | rfl | rfl | rfl | rfl | rfl | rfl | rfl
  · exact (flat (app base (one (y := natD n) ⟨nat_plain hn, by simp [natD, PyData.depth]⟩))).1
  · exact (flat (app (fun x hx => base x (List.mem_reverse.mp hx)) fun x hx => base x (List.mem_of_mem_take hx))).1
  · exact (flat (app base (one (y := .bool true) ⟨by simp [plainD], by simp [PyData.depth]⟩))).1
  · exact (flat base).2
  · exact ⟨rfl, by simp [PyData.depth]⟩
  · exact (flat (one (y := .int (-1)) ⟨by simp [plainD], by simp [PyData.depth]⟩)).1
  · exact (flat (app base base)).1
  · exact (flat (one (y := .str "0") ⟨by simp only [plainD]; decide +kernel, by simp [PyData.depth]⟩)).1
theorem shownN {l : List Nat} (h : ∀ x ∈ l, x < 1000) (hl : l.length ≤ 100) : (natsT l).showable = true ∧ (natsT l).hasDict = false ∧ (natsT l).depth < 40 ∧ (natsT l).shown.length ≤ sizeLine := by
  have p1 : plainD (natsT l) = true := by
    simp only [natsT, plainD]
    exact plain_all fun x hx => by
      obtain ⟨y, hy, rfl⟩ := List.mem_map.mp hx
      exact nat_plain (h y hy)
  have d1 : PyData.depthAll (l.map natD) = 0 := depth_flat _ fun d hd => by
    obtain ⟨y, _, rfl⟩ := List.mem_map.mp hd
    simp [natD, PyData.depth]
  have b1 : bulkAll (l.map natD) = 68 * l.length := bulk_intsG (fun x : Nat => (x : Int)) l
  refine ⟨(plain_lay _ p1).2.2, (plain_lay _ p1).2.1, by simp only [natsT, PyData.depth, d1]; decide, Nat.le_trans (bulk_shown _ p1) ?_⟩
  simp only [natsT, bulk, b1]
  have : (100000 : Nat) < sizeLine := by decide
  omega
end K02
end

section
set_option maxHeartbeats 4000000
set_option pp.maxSteps 400
namespace K02
open PySem PySem.Spec PyProof.Rows L2 Zc
structure LawCtx (P : Program) (w : World) (K : PySem.W.Frag) (mg : Str → Option Value) (base : Heap) (cs : List (Addr × Addr)) where
  fR : Addr
  fdR : FuncData
  DR : At K mg "_law_draw" s__law_draw ["script", "salt"] fR fdR
  fA : Addr
  fdA : FuncData
  DA : At K mg "_law_any" s__law_any ["deal", "bound"] fA fdA
  fO : Addr
  fdO : FuncData
  DO : At K mg "_law_of" s__law_of ["deal", "some"] fO fdO
  fX : Addr
  fdX : FuncData
  DX : At K mg "_law_mixed" s__law_mixed ["deal", "some"] fX fdX
  fC : Addr
  fdC : FuncData
  DC : At K mg "_law_closed" s__law_closed ["many", "pairs"] fC fdC
  fOr : Addr
  fdOr : FuncData
  DOr : At K mg "_law_order" s__law_order ["deal"] fOr fdOr
  fLo : Addr
  fdLo : FuncData
  DLo : At K mg "_law_lot" s__law_lot ["deal", "many"] fLo fdLo
  fI : Addr
  fdI : FuncData
  DI : At K mg "is_integer" s_is_integer ["value"] fI fdI
  fN : Addr
  fdN : FuncData
  DN : At K mg "is_number" s_is_number ["value"] fN fdN
  fas : Addr
  fdas : FuncData
  cas : Addr
  pas : Addr
  Das' : AtT K mg base "is_ascending" s_is_ascending ["things"] fas fdas cas pas
  tas : (cas, pas) ∈ cs
  fL : Addr
  fdL : FuncData
  DL : At K mg "is_level" s_is_level ["levels", "value"] fL fdL
  flt : Addr
  fdlt : FuncData
  clt : Addr
  plt : Addr
  Dlt' : AtT K mg base "is_lot" s_is_lot ["order", "value"] flt fdlt clt plt
  tlt : (clt, plt) ∈ cs
  fW : Addr
  fdW : FuncData
  cW : Addr
  pW : Addr
  DW' : AtT K mg base "lot_within" s_lot_within ["order", "lot", "level"] fW fdW cW pW
  tW : (cW, pW) ∈ cs
  fjo : Addr
  fdjo : FuncData
  Djo : At K mg "joined_lots" s_joined_lots ["one", "other"] fjo fdjo
  fwa : Addr
  fdwa : FuncData
  Dwa : At K mg "watchers" s_watchers ["order", "lot"] fwa fdwa
  fco : Addr
  fdco : FuncData
  cco : Addr
  pco : Addr
  Dco' : AtT K mg base "covered" s_covered ["order", "one", "other"] fco fdco cco pco
  tco : (cco, pco) ∈ cs
  kw_is_lot : KBinds K fdlt ["order", "value"] ["value", "order"] revK revK
  kw_lot_within : KBinds K fdW ["order", "lot", "level"] ["level", "lot", "order"] revK revK
  kw_joined_lots : KBinds K fdjo ["one", "other"] ["other", "one"] revK revK
  kw_watchers : KBinds K fdwa ["order", "lot"] ["lot", "order"] revK revK
  kw_covered : KBinds K fdco ["order", "one", "other"] ["other", "one", "order"] revK revK
  m_int : mg "int" = none
  m_len : mg "len" = none
  m_list : mg "list" = none
  m_range : mg "range" = none
  m_sorted : mg "sorted" = none
  m_tuple : mg "tuple" = none
  m_min : mg "min" = none
  m_max : mg "max" = none
  m_isinstance : mg "isinstance" = none
  m_bool : mg "bool" = none
  m_all : mg "all" = none
  m_abs : mg "abs" = none
  m_repr : mg "repr" = none
  m_set : mg "set" = none
def spLaw (cs : List (Addr × Addr)) (K : PySem.W.Frag) : Sp := fun vs H Q _ => ∃ (a : Addr) (ns : List Int), vs = [.ref a] ∧ Tabs cs H ∧ SqL K H a (ns.map V.int) ∧ ns.length ≤ 63 ∧ ∀ H', Tabs cs H' → Q (.bl true) H'
theorem revs {T : Hp} (A : List Nat) : DaA T ((A.map natD).reverse ++ (A.map natD).take 1) ((A.map natV).reverse ++ cutV (A.map natV) none (some 1)) := by
  have e : cutV (A.map natV) none (some 1) = (A.map natV).take 1 := by
    unfold cutV
    rw [show HT.sIx (A.map natV).length (A.map natV).length (some 1) = min 1 (A.map natV).length from HT.sIx_nat _ _ 1, HT.sIx_none, List.drop_zero, Nat.sub_zero]
    by_cases h : 1 ≤ (A.map natV).length
    · rw [Nat.min_eq_left h]
    · rw [Nat.min_eq_right (by omega), List.take_of_length_le (by omega), List.take_of_length_le (by omega)]
  rw [e, ← List.map_reverse, ← List.map_reverse, ← List.map_take, ← List.map_take]
  exact (nats_da _).app (nats_da _)
theorem bads_len {n : Nat} {A : List Nat} (hA : A.length ≤ 5) : ∀ d ∈ bads n A, ∀ xs, d = .tuple xs → xs.length ≤ 1000 := fun d hd xs e => by
  unfold bads at hd
  simp only [List.mem_cons, List.not_mem_nil, or_false] at hd
  rcases hd with rfl | rfl | rfl | rfl | rfl | rfl | rfl | rfl <;> cases e <;> simp <;> omega
section
variable {P : Program} {w : World} {K : PySem.W.Frag} {mg : Str → Option Value} {base : Heap} {cs : List (Addr × Addr)}
set_option maxHeartbeats 8000000 in
theorem ok_law {f : Addr} {fd : FuncData} (D : At K mg "law" s_law ["script"] f fd) (C : LawCtx P w K mg base cs) : FnG P w K mg base 9 f fd ["script"] (spLaw cs K) := by
  obtain ⟨fR, fdR, DR, fA, fdA, DA, fO, fdO, DO, fX, fdX, DX, fC, fdC, DC, fOr, fdOr, DOr, fLo, fdLo, DLo, fI, fdI, DI, fN, fdN, DN, fas, fdas, cas, pas, Das', tas, fL, fdL, DL, flt, fdlt, clt, plt, Dlt', tlt, fW, fdW, cW, pW, DW', tW, fjo, fdjo, Djo, fwa, fdwa, Dwa, fco, fdco, cco, pco, Dco', tco, kw_is_lot, kw_lot_within, kw_joined_lots, kw_watchers, kw_covered, m_int, m_len, m_list, m_range, m_sorted, m_tuple, m_min, m_max, m_isinstance, m_bool, m_all, m_abs, m_repr, m_set⟩ := C
  have DW := DW'.at_
  have Dlt := Dlt'.at_
  have Dco := Dco'.at_
  have GR : FnOk P w K mg base CX0 8 fR fdR ["script", "salt"] (spDraw K) := (ok_draw DR m_int m_abs).mono (by decide)
  have GA : FnOk P w K mg base CX0 8 fA fdA ["deal", "bound"] spAny := (ok_any DA m_int).mono (by decide)
  have GO : FnOk P w K mg base CX0 8 fO fdO ["deal", "some"] (spOf K) := (ok_of DO DA m_int m_len).mono (by decide)
  have GOr : FnOk P w K mg base CX0 8 fOr fdOr ["deal"] spOrder := (ok_order DOr DA DX DC m_int m_len m_list m_range m_sorted m_tuple m_min m_max).mono (by decide)
  have GLo : FnOk P w K mg base CX0 8 fLo fdLo ["deal", "many"] spLot := (ok_llot DLo DA m_int m_range m_tuple).mono (by decide)
  have Glt : FnOk P w K mg base CX0 8 flt fdlt ["order", "value"] (spQ (fun H => H plt = some (tabX plt) ∧ H pas = some (tabX pas)) rLot) := (ok_is_lot Dlt' Das' DL DN DI m_isinstance m_int m_bool m_tuple m_all m_len m_range).mono (by decide)
  have GW : FnOk P w K mg base CX0 8 fW fdW ["order", "lot", "level"] (spQ (fun H => H pW = some (tabX pW)) rWithin) := (ok_lot_within DW' m_all).mono (by decide)
  have Gjo : FnOk P w K mg base CX0 8 fjo fdjo ["one", "other"] (spD C0 rJoin) := (ok_joined Djo m_set m_sorted m_tuple).mono (by decide)
  have Gwa : FnOk P w K mg base CX0 8 fwa fdwa ["order", "lot"] (spD (fun H => H pW = some (tabX pW)) rWatch) := (ok_watchers Dwa DW' m_all m_len m_range m_tuple).mono (by decide)
  have Gco : FnOk P w K mg base CX0 8 fco fdco ["order", "one", "other"] (spQ (fun H => H pco = some (tabX pco) ∧ H pW = some (tabX pW)) rCov) := ok_covered Dco' Dwa DW' m_all m_len m_range m_tuple
  have nd := sc_law.nd
  refine fnG_ok D.F sc_law (fun vs H Q E h => ?_) (fun cdv A outer s H vs Q E hr hg h => ?_)
  · obtain ⟨a, ns, rfl, _⟩ := h
    rfl
  obtain ⟨a, ns, rfl, hT, hS, hlen, q⟩ := h
  have hu := hr.units
  have big : (100000 : Nat) < sizeLine := by decide
  refine ⟨_, (pss_cons (ps_set (i := 1) nd rfl (.inl rfl) (pe_call GR hr (by rfl) DR.g DR.F.kp DR.b .nil pass0 (pa_cons (pv 0) (pa_cons pe_int pa_nil))))
  (pss_cons (ps_set (i := 2) nd rfl (.inr rfl) (pe_call GOr hr (by rfl) DOr.g DOr.F.kp DOr.b .nil pass0 (pa_cons (pv 1) pa_nil)))
  (pss_cons (ps_set (i := 3) nd rfl (.inl rfl) (pe_callB call_len_seq (by rfl) m_len PySem.boot_len (pa_cons (pv 2) pa_nil)))
  (pss_cons (ps_for PassesOwn.never rfl (pi_range1 (by rfl) m_range (pa_cons pe_int pa_nil)) (pg_name (i := 4) nd rfl (Or.inl rfl))
    (pss_cons (ps_asg (pe_tup (pa_cons (pe_call GLo hr (by rfl) DLo.g DLo.F.kp DLo.b .nil pass0 (pa_cons (pv 1) (pa_cons (pv 3) pa_nil))) (pa_cons (pe_call GLo hr (by rfl) DLo.g DLo.F.kp DLo.b .nil pass0 (pa_cons (pv 1) (pa_cons (pv 3) pa_nil))) (pa_cons (pe_call GA hr (by rfl) DA.g DA.F.kp DA.b .nil pass0 (pa_cons (pv 1) (pa_cons (pv 3) pa_nil))) pa_nil)))) (pg_tup (by rfl) (pgs_cons (pg_name (i := 5) nd rfl (Or.inr rfl)) (pgs_cons (pg_name (i := 6) nd rfl (Or.inr rfl)) (pgs_cons (pg_name (i := 7) nd rfl (Or.inl rfl)) pgs_nil)))))
      (pss_cons (ps_set (i := 8) nd rfl (.inr rfl) (pe_lc (own := [("spot", 13)]) (g := gName 13)  (by rfl) nd (pi_range1 (by rfl) m_range (pa_cons (pv 3) pa_nil)) (blkOk_by (own := [("spot", 13)]) (N := ["script", "deal", "order", "many", "turn", "one", "other", "level", "first", "second", "both", "due", "bad", "spot", "a", "value"]) (sc := defScope s_law) (by decide +kernel)) (fun _ _ _ _ _ => (pg_name (i := 13) nd rfl (Or.inr rfl))) (fun _ _ _ _ _ => pts_one (pt_cmpR (op_eqDK K (by rfl) hu) (pe_lc (own := [("a", 14)]) (g := gName 14)  (by rfl) nd ((pi_tupK K (by rfl)) (pv 5)) (blkOk_any (own := [("a", 14)]) (N := ["script", "deal", "order", "many", "turn", "one", "other", "level", "first", "second", "both", "due", "bad", "spot", "a", "value"])  (by kernel_rfl)) (fun _ _ _ _ _ => (pg_name (i := 14) nd rfl (Or.inl rfl))) (fun _ _ _ _ _ => pts_one (pt_cmpR (op_notIn_seqK K (by rfl)) (pv 14) (pe_ix (ix_tupK K (by rfl)) (pv 2) (pv 13) (fun _ _ => rfl)) (by rfl))) (fun _ _ _ _ _ => (pv 14))) (pe_lst pa_nil) (nomark _))) (fun _ _ _ _ _ => (pv 13))))
      (pss_cons (ps_set (i := 9) nd rfl (.inr rfl) (pe_lc (own := [("spot", 13)]) (g := gName 13)  (by rfl) nd (pi_range1 (by rfl) m_range (pa_cons (pv 3) pa_nil)) (blkOk_by (own := [("spot", 13)]) (N := ["script", "deal", "order", "many", "turn", "one", "other", "level", "first", "second", "both", "due", "bad", "spot", "a", "value"]) (sc := defScope s_law) (by decide +kernel)) (fun _ _ _ _ _ => (pg_name (i := 13) nd rfl (Or.inr rfl))) (fun _ _ _ _ _ => pts_one (pt_cmpR (op_eqDK K (by rfl) hu) (pe_lc (own := [("a", 14)]) (g := gName 14)  (by rfl) nd ((pi_tupK K (by rfl)) (pv 6)) (blkOk_any (own := [("a", 14)]) (N := ["script", "deal", "order", "many", "turn", "one", "other", "level", "first", "second", "both", "due", "bad", "spot", "a", "value"])  (by kernel_rfl)) (fun _ _ _ _ _ => (pg_name (i := 14) nd rfl (Or.inl rfl))) (fun _ _ _ _ _ => pts_one (pt_cmpR (op_notIn_seqK K (by rfl)) (pv 14) (pe_ix (ix_tupK K (by rfl)) (pv 2) (pv 13) (fun _ _ => rfl)) (by rfl))) (fun _ _ _ _ _ => (pv 14))) (pe_lst pa_nil) (nomark _))) (fun _ _ _ _ _ => (pv 13))))
      (pss_cons (ps_if (PW.pt (pw_or (pt_cmpR op_isnot_bl (pe_callKw Glt hr (by rfl) Dlt.g Dlt.F.kp kw_is_lot pass0 (pk_cons (pv 5) (pk_cons (pv 2) pk_nil))) pe_bl (nomark _)) (pw_or1 (pt_cmpR op_ne (pe_callB call_repr_bl (by rfl) m_repr PyProof.Rows.boot_repr (pa_cons (pe_callKw GW hr (by rfl) DW.g DW.F.kp kw_lot_within pass0 (pk_cons (pv 7) (pk_cons (pv 5) (pk_cons (pv 2) pk_nil)))) pa_nil)) (pe_callB call_repr_bl (by rfl) m_repr PyProof.Rows.boot_repr (pa_cons (pe_cmpR op_in_seq (pv 7) (pv 8) (by rfl)) pa_nil)) (nomark _)))))
        (pss_one (ps_ret pe_bl))
        pss_nil)
      (pss_cons (ps_set (i := 10) nd rfl (.inl rfl) (pe_callKw Gjo hr (by rfl) Djo.g Djo.F.kp kw_joined_lots pass0 (pk_cons (pv 6) (pk_cons (pv 5) pk_nil))))
      (pss_cons (ps_if (pt_cmpR op_ne (pe_callB (call_repr_D hg hu) (by rfl) m_repr PyProof.Rows.boot_repr (pa_cons (pv 10) pa_nil)) (pe_callB (call_repr_D hg hu) (by rfl) m_repr PyProof.Rows.boot_repr (pa_cons (pe_callTy call_tuple_of (by rfl) m_tuple boot_tuple (pa_cons (pe_lc (own := [("a", 14)]) (g := gName 14)  (by rfl) nd (pi_range1 (by rfl) m_range (pa_cons (pv 3) pa_nil)) (blkOk_by (own := [("a", 14)]) (N := ["script", "deal", "order", "many", "turn", "one", "other", "level", "first", "second", "both", "due", "bad", "spot", "a", "value"]) (sc := defScope s_law) (by decide +kernel)) (fun _ _ _ _ _ => (pg_name (i := 14) nd rfl (Or.inl rfl))) (fun _ _ _ _ _ => pts_one (PW.pt (pw_or (pt_cmpR (op_in_seqK K (by rfl)) (pv 14) (pv 5) (by rfl)) (pw_or1 (pt_cmpR (op_in_seqK K (by rfl)) (pv 14) (pv 6) (by rfl)))))) (fun _ _ _ _ _ => (pv 14))) pa_nil)) pa_nil)) (nomark _))
        (pss_one (ps_ret pe_bl))
        pss_nil)
      (pss_cons (ps_if (pt_cmpR op_ne (pe_callB (call_repr_D hg hu) (by rfl) m_repr PyProof.Rows.boot_repr (pa_cons (pe_callKw Gwa hr (by rfl) Dwa.g Dwa.F.kp kw_watchers pass0 (pk_cons (pv 5) (pk_cons (pv 2) pk_nil))) pa_nil)) (pe_callB (call_repr_D hg hu) (by rfl) m_repr PyProof.Rows.boot_repr (pa_cons (pe_callTy call_tuple_of (by rfl) m_tuple boot_tuple (pa_cons (pv 8) pa_nil)) pa_nil)) (nomark _))
        (pss_one (ps_ret pe_bl))
        pss_nil)
      (pss_cons (ps_if (pt_cmpR op_ne (pe_callB (call_repr_D hg hu) (by rfl) m_repr PyProof.Rows.boot_repr (pa_cons (pe_call Gwa hr (by rfl) Dwa.g Dwa.F.kp Dwa.b .nil pass0 (pa_cons (pv 2) (pa_cons (pv 10) pa_nil))) pa_nil)) (pe_callB (call_repr_D hg hu) (by rfl) m_repr PyProof.Rows.boot_repr (pa_cons (pe_callTy call_tuple_of (by rfl) m_tuple boot_tuple (pa_cons (pe_lc (own := [("spot", 13)]) (g := gName 13)  (by rfl) nd (pi_list (pv 8)) (blkOk_by (own := [("spot", 13)]) (N := ["script", "deal", "order", "many", "turn", "one", "other", "level", "first", "second", "both", "due", "bad", "spot", "a", "value"]) (sc := defScope s_law) (by decide +kernel)) (fun _ _ _ _ _ => (pg_name (i := 13) nd rfl (Or.inl rfl))) (fun _ _ _ _ _ => pts_one (pt_cmpR (op_in_seqK K (by rfl)) (pv 13) (pv 9) (by rfl))) (fun _ _ _ _ _ => (pv 13))) pa_nil)) pa_nil)) (nomark _))
        (pss_one (ps_ret pe_bl))
        pss_nil)
      (pss_cons (ps_set (i := 11) nd rfl (.inl rfl) (pe_cmpR (op_eqD hu) (pe_lc (own := [("spot", 13)]) (g := gName 13)  (by rfl) nd (pi_list (pv 9)) (blkOk_by (own := [("spot", 13)]) (N := ["script", "deal", "order", "many", "turn", "one", "other", "level", "first", "second", "both", "due", "bad", "spot", "a", "value"]) (sc := defScope s_law) (by decide +kernel)) (fun _ _ _ _ _ => (pg_name (i := 13) nd rfl (Or.inl rfl))) (fun _ _ _ _ _ => pts_one (pt_cmpR (op_notIn_seqK K (by rfl)) (pv 13) (pv 8) (by rfl))) (fun _ _ _ _ _ => (pv 13))) (pe_lst pa_nil) (nomark _)))
      (pss_cons (ps_if (pt_cmpR op_ne (pe_callB call_repr_bl (by rfl) m_repr PyProof.Rows.boot_repr (pa_cons (pe_callKw Gco hr (by rfl) Dco.g Dco.F.kp kw_covered pass0 (pk_cons (pv 6) (pk_cons (pv 5) (pk_cons (pv 2) pk_nil)))) pa_nil)) (pe_callB call_repr_bl (by rfl) m_repr PyProof.Rows.boot_repr (pa_cons (pv 11) pa_nil)) (nomark _))
        (pss_one (ps_ret pe_bl))
        pss_nil)
      (pss_cons (ps_set (i := 12) nd rfl (.inl rfl) (pe_lst (pa_cons (pe_op op_catA (pv 5) (pe_tup (pa_cons (pv 3) pa_nil))) (pa_cons (pe_op op_catA (pe_revT (pv 5)) (pe_slice sl_tupA (pv 5) po_none (po_some pe_int))) (pa_cons (pe_op op_catA (pv 5) (pe_tup (pa_cons pe_bl pa_nil))) (pa_cons (pe_callTy call_list_of (by rfl) m_list boot_list (pa_cons (pv 5) pa_nil)) (pa_cons pe_non (pa_cons (pe_tup (pa_cons (pe_un un_neg pe_int) pa_nil)) (pa_cons (pe_op op_catA (pv 5) (pv 5)) (pa_cons (pe_tup (pa_cons pe_str pa_nil)) pa_nil))))))))))
      (pss_one (ps_if (pt_cmpR op_isnot_bl (pe_call Glt hr (by rfl) Dlt.g Dlt.F.kp Dlt.b .nil pass0 (pa_cons (pv 2) (pa_cons (pe_call GO hr (by rfl) DO.g DO.F.kp DO.b .nil pass0 (pa_cons (pv 1) (pa_cons (pe_lc (own := [("value", 15)]) (g := gName 15)  (by rfl) nd (pi_list (pv 12)) (blkOk_by (own := [("value", 15)]) (N := ["script", "deal", "order", "many", "turn", "one", "other", "level", "first", "second", "both", "due", "bad", "spot", "a", "value"]) (sc := defScope s_law) (by decide +kernel)) (fun _ _ _ _ _ => (pg_name (i := 15) nd rfl (Or.inl rfl))) (fun _ _ _ _ _ => pts_one (pt_cmpR (op_neDK K (by rfl) hu) (pv 15) (pe_tup pa_nil) (nomark _))) (fun _ _ _ _ _ => (pv 15))) pa_nil))) pa_nil))) pe_bl (nomark _))
        (pss_one (ps_ret pe_bl))
        pss_nil))))))))))))))
  (pss_one (ps_ret pe_bl)))))), ?_⟩
  refine ⟨.ref a, rfl, a, ns, 2, rfl, hS, hlen, by decide, by decide, fun d l H1 nd0 nl0 hD1 s1 => ?_⟩
  refine ⟨.ref d, rfl, H, d, l, rfl, s1, nd0, nl0, hD1, fun n O T2 H2 vO n1 n5 ok tr x2 hD2 hO => ?_⟩
  obtain ⟨ao, xo, rfl, eo, ho⟩ := id hO
  have okn := ok.len
  have lo : xo.length = n := by rw [ho.len, List.length_map, okn]
  have t2 := x2.td hD1 nd0 nl0
  have tabs2 : ∀ p ∈ cs, T2 p.2 = some (tabX p.2) := fun p hp => x2.tt _ _ (hT p hp)
  refine ⟨.ref ao, rfl, ao, xo, rfl, .inr (.inl (.inl (x2.th _ _ eo))), ?_⟩
  rw [lo]
  refine ⟨4, rfl, by decide, by decide, for_range (lo := 0) (n := 4) (fun t σ H' => ∃ (T' : Hp) (y4 y5 y6 y7 y8 y9 y10 y11 y12 : Option V), σ = [some (.ref a), some (.ref d), some (.ref ao), some (.int (n : Int)), y4, y5, y6, y7, y8, y9, y10, y11, y12, none, none, none] ∧ ExD d l T2 H2 T' H' ∧ Deal H' d l)
    ⟨T2, _, _, _, _, _, _, _, _, _, rfl, .refl x2.th, hD2⟩ ?_ ?_⟩
  · rintro t σ H3 ht ⟨T3, y4, y5, y6, y7, y8, y9, y10, y11, y12, rfl, x3, hD3⟩
    have t3 := x3.td hD2 t2.1 t2.2
    refine ⟨.ref d, rfl, .int (n : Int), rfl, T3, d, l, n, rfl, x3.th, t3.1, t3.2, hD3, by omega, fun A T5 H5 v5 hA1 hA2 x5 hD5 hv5 => ?_⟩
    have t5 := x5.td hD3 t3.1 t3.2
    refine ⟨.ref d, rfl, .int (n : Int), rfl, T5, d, l, n, rfl, x5.th, t5.1, t5.2, hD5, by omega, fun B T6 H6 v6 hB1 hB2 x6 hD6 hv6 => ?_⟩
    have t6 := x6.td hD5 t5.1 t5.2
    refine ⟨.ref d, rfl, .int (n : Int), rfl, d, l, n, rfl, hD6, by omega, by omega, fun lv H7 lv0 lv1 hD7 hB7 => ?_⟩
    obtain ⟨lv, rfl⟩ : ∃ j : Nat, lv = (j : Int) := ⟨lv.toNat, by omega⟩
    obtain ⟨a1, _, rfl, ea1, h1⟩ := hv5
    obtain ⟨a2, _, rfl, ea2, h2⟩ := hv6
    have f1 := nats_of h1
    have f2 := nats_of h2
    subst f1 f2
    refine ⟨by show 3 ≤ sizeLine; omega, fun m nm => ⟨m, _, rfl, .inl (.inl upd_same), rfl, _, _, rfl, _, _, rfl, _, _, rfl, ⟨rfl, ?_⟩⟩⟩
    have x7 := ExD.turn x6.th t6.1 t6.2 hB7
    have x8 := Ext.more x7.th (same_new (o := .tup [.ref a1, .ref a2, .int (lv : Int)]) nm)
    have X := ExD.trans hD2 (ExD.trans hD2 (ExD.trans hD2 (ExD.trans hD2 x3 hD3 x5) hD5 x6) hD6 x7) hD7 x8.toD
    have hD := hD7.same x8.hh
    generalize upd H7 m (.tup [.ref a1, .ref a2, .int (lv : Int)]) = H8 at x8 X hD ⊢
    have s6 := X.th
    have G := X.tt
    replace ea1 := x6.tt _ _ ea1
    have lA : A.length ≤ 5 := by
      have := (nodup_of_lt hA1).length_le_of_subset (l₂ := List.range n) fun x hx => List.mem_range.mpr (hA2 x hx)
      rw [List.length_range] at this
      omega
    have lB : B.length ≤ 5 := by
      have := (nodup_of_lt hB1).length_le_of_subset (l₂ := List.range n) fun x hx => List.mem_range.mpr (hB2 x hx)
      rw [List.length_range] at this
      omega
    have hA5 : ∀ x ∈ A, x < 5 := fun x hx => by have := hA2 x hx; omega
    have hB5 : ∀ x ∈ B, x < 5 := fun x hx => by have := hB2 x hx; omega
    clear x3 x5 x6 x7 x8 hD3 hD5 hD6 hD7 hB7 t3 t5 h1 h2 nm m

    refine ⟨.int (n : Int), rfl, (n : Int), rfl, by omega, by omega, fun aF naF => ?_⟩
    rw [show ((n : Nat) : Int).toNat = n from Int.toNat_natCast n]
    refine lc_enc (enc := natD) (p := fun v => within O A v) (f := natD) (ds := List.range n) (T := T6) s6 naF (by rw [List.length_range]; omega) (by rw [← range_nat]; exact gives_range s6) (fun i v x T9 H9 R R0 hi x9 hx9 r1 r0 => ?_) (fun T12 H12 ys z1 hys hdy => ?_)
    · obtain rfl : x = natV v := hx9
      have hv := List.mem_range.mp (List.mem_of_getElem? hi)
      obtain ⟨ms, hms⟩ : ∃ ms, O[v]? = some ms := ⟨_, List.getElem?_eq_getElem (by omega)⟩
      obtain ⟨am, _, ha, eam, rfl⟩ := ord_at ho hms
      have g9 := G.trans x9.tt
      refine ⟨rfl, .ref a1, rfl, a1, rfl, ⟨_, .inl (.inl (x9.th _ _ (x9.tt _ _ ea1)))⟩, fun L2 nL2 => ?_⟩
      refine lc_enc (enc := natD) (p := fun x => !decide (x ∈ ms)) (f := natD) (ds := A) (T := T9) x9.th nL2 (by omega) (gives_tup x9.th (x9.tt _ _ ea1) (nats_da _)) (fun j y x T10 H10 R2 R20 hj x10 hx10 p1 p0 => ?_) (fun T10 H10 us x10 hus hdu => ?_)
      · obtain rfl : x = natV y := hx10
        have g10 := g9.trans x10.tt
        refine ⟨rfl, natV y, rfl, .ref ao, rfl, natV v, rfl, ao, xo, v, .ref am, rfl, rfl, .inl (.inl (x10.th _ _ (g10 _ _ eo))), atI_nat ha, am, _, rfl, .inr (.inl (.inl (x10.th _ _ (g10 _ _ eam)))), rfl, flat_nats _, _, rfl, ?_⟩
        show if (!inV (natV y) (ms.map natV)) = true then _ else _
        rw [inV_nats]
        exact ite2 (fun e => ⟨_, rfl, p1 T10 H10 _ (.refl x10.th) rfl e⟩) (fun e => p0 T10 H10 (.refl x10.th) (Bool.eq_false_iff.mpr e))
      · have eus := nats_of hdu
        subst eus
        refine ⟨Nat.zero_le _, fun p np => eq_nil_nats (.inl (.inl (same_new np _ _ (x10.th _ _ hus)))) (.inl (.inl upd_same)) ⟨_, rfl, ?_⟩⟩
        rw [none_not, ← within_at hms A]
        have x11 := x10.trans (Ext.more x10.th (same_new (o := .lst []) np))
        exact ite2 (fun e => ⟨natV v, rfl, r1 _ _ _ x11 rfl e⟩) (fun e => r0 _ _ x11 (Bool.eq_false_iff.mpr e))
    rw [show (List.range n).filter (fun v => within O A v) = watch O A by rw [← okn]; rfl] at hdy
    have e1y := nats_of hdy
    subst e1y
    have eF := hys
    have g12 := G.trans z1.tt
    have ea1b := z1.tt _ _ ea1
    have ea2b := z1.tt _ _ ea2

    refine ⟨.int (n : Int), rfl, (n : Int), rfl, by omega, by omega, fun aS naS => ?_⟩
    rw [show ((n : Nat) : Int).toNat = n from Int.toNat_natCast n]
    refine lc_enc (enc := natD) (p := fun v => within O B v) (f := natD) (ds := List.range n) (T := T12) z1.th naS (by rw [List.length_range]; omega) (by rw [← range_nat]; exact gives_range z1.th) (fun i v x T9 H9 R R0 hi x9 hx9 r1 r0 => ?_) (fun T13 H13 ys z2 hys hdy => ?_)
    · obtain rfl : x = natV v := hx9
      have hv := List.mem_range.mp (List.mem_of_getElem? hi)
      obtain ⟨ms, hms⟩ : ∃ ms, O[v]? = some ms := ⟨_, List.getElem?_eq_getElem (by omega)⟩
      obtain ⟨am, _, ha, eam, rfl⟩ := ord_at ho hms
      have g9 := g12.trans x9.tt
      refine ⟨rfl, .ref a2, rfl, a2, rfl, ⟨_, .inl (.inl (x9.th _ _ (x9.tt _ _ ea2b)))⟩, fun L2 nL2 => ?_⟩
      refine lc_enc (enc := natD) (p := fun x => !decide (x ∈ ms)) (f := natD) (ds := B) (T := T9) x9.th nL2 (by omega) (gives_tup x9.th (x9.tt _ _ ea2b) (nats_da _)) (fun j y x T10 H10 R2 R20 hj x10 hx10 p1 p0 => ?_) (fun T10 H10 us x10 hus hdu => ?_)
      · obtain rfl : x = natV y := hx10
        have g10 := g9.trans x10.tt
        refine ⟨rfl, natV y, rfl, .ref ao, rfl, natV v, rfl, ao, xo, v, .ref am, rfl, rfl, .inl (.inl (x10.th _ _ (g10 _ _ eo))), atI_nat ha, am, _, rfl, .inr (.inl (.inl (x10.th _ _ (g10 _ _ eam)))), rfl, flat_nats _, _, rfl, ?_⟩
        show if (!inV (natV y) (ms.map natV)) = true then _ else _
        rw [inV_nats]
        exact ite2 (fun e => ⟨_, rfl, p1 T10 H10 _ (.refl x10.th) rfl e⟩) (fun e => p0 T10 H10 (.refl x10.th) (Bool.eq_false_iff.mpr e))
      · have eus := nats_of hdu
        subst eus
        refine ⟨Nat.zero_le _, fun p np => eq_nil_nats (.inl (.inl (same_new np _ _ (x10.th _ _ hus)))) (.inl (.inl upd_same)) ⟨_, rfl, ?_⟩⟩
        rw [none_not, ← within_at hms B]
        have x11 := x10.trans (Ext.more x10.th (same_new (o := .lst []) np))
        exact ite2 (fun e => ⟨natV v, rfl, r1 _ _ _ x11 rfl e⟩) (fun e => r0 _ _ x11 (Bool.eq_false_iff.mpr e))
    rw [show (List.range n).filter (fun v => within O B v) = watch O B by rw [← okn]; rfl] at hdy
    have e2y := nats_of hdy
    subst e2y
    have eS := hys
    replace eF := z2.tt _ _ eF
    have Z := z1.trans z2
    replace ea1 := Z.tt _ _ ea1
    replace ea2 := Z.tt _ _ ea2
    replace G := G.trans Z.tt
    clear z1 z2 g12 ea1b ea2b hys hdy
    have hOd : Da T13 (ordD O) (.ref ao) := ⟨ao, xo, rfl, G _ _ eo, ho.keep G⟩
    have hAd : Da T13 (natsT A) (.ref a1) := ⟨a1, _, rfl, ea1, nats_da _⟩
    have hBd : Da T13 (natsT B) (.ref a2) := ⟨a2, _, rfl, ea2, nats_da _⟩
    have tabs : ∀ p ∈ cs, T13 p.2 = some (tabX p.2) := fun p hp => G _ _ (tabs2 p hp)
    have lvn : lv < n := by omega
    obtain ⟨ms, hms⟩ : ∃ ms, O[lv]? = some ms := ⟨_, List.getElem?_eq_getElem (by omega)⟩
    have sh : ∀ {l : List Nat}, (∀ x ∈ l, x < n) → l.length ≤ 5 → (natsT l).showable = true ∧ (natsT l).hasDict = false ∧ (natsT l).depth < 40 ∧ (natsT l).shown.length ≤ sizeLine := fun {l} h1 h2 => shownN (fun x hx => by have := h1 x hx; omega) (by omega)
    have wl : ∀ l : List Nat, (watch O l).length ≤ 5 := fun l => by have := watch_len O l; omega
    have wn : ∀ l : List Nat, ∀ x ∈ watch O l, x < n := fun l x hx => by have := watch_lt x hx; omega
    refine ⟨.ref a1, rfl, .ref ao, rfl, T13, [ordD O, natsT A], true, Z.th, .two hOd hAd, ⟨O, natsT A, rfl, fun xs e => (by cases e; rw [List.length_map]; omega), by rw [okn]; exact (lot_ok hA1 hA2).symm⟩, ⟨Z.th _ _ (tabs _ tlt), Z.th _ _ (tabs _ tas)⟩, fun H14 T14 x14 => ⟨true, true, rfl, rfl, _, rfl, iteFe rfl ?_⟩⟩
    refine ⟨.int (lv : Int), rfl, .ref a1, rfl, .ref ao, rfl, T14, [ordD O, natsT A, natD lv], _, x14.th, .three (Da.keep x14.tt _ _ hOd) (Da.keep x14.tt _ _ hAd) rfl, ⟨O, A, lv, ms, rfl, hms, rfl⟩, x14.th _ _ (x14.tt _ _ (tabs _ tW)), fun H15 T15 x15 => ⟨_, rfl, ?_⟩⟩
    have y15 := x14.trans x15
    refine ⟨.int (lv : Int), rfl, .ref aF, rfl, aF, _, rfl, .inl (.inl (.inl (y15.th _ _ (y15.tt _ _ eF)))), rfl, flat_nats _, ?_⟩
    refine ⟨_, rfl, rfl, _, rfl, ?_⟩
    have eqL : (A.all fun l => decide (l ∈ ms)) = inV (natV lv) ((watch O A).map natV) := by
      rw [inV_nats, watch_mem (by omega), within_at hms]
    refine iteFe (by rw [eqL]; show (!decide (V.str (blS (inV (natV lv) ((watch O A).map natV))) = V.str (blS (inV (natV lv) ((watch O A).map natV))))) = false; rw [decide_eq_true rfl]; rfl) ?_
    replace Z := Z.trans y15
    have g15 := y15.tt
    clear x14 x15
    -- both
    refine ⟨.ref a2, rfl, .ref a1, rfl, T15, [natsT A, natsT B], _, Z.th, .two (Da.keep g15 _ _ hAd) (Da.keep g15 _ _ hBd), ⟨A, B, rfl, lA, lB, hA5, hB5, rfl⟩, trivial, fun H16 T16 v16 x16 hv16 => ?_⟩
    obtain ⟨aj, _, rfl, ej, hj⟩ := hv16
    have fj := nats_of hj
    subst fj
    have J1 : ∀ x ∈ joined A B, x < n := fun x hx => ((joined_mem hA5 hB5 x).1 hx).elim (hA2 x) (hB2 x)
    have J2 : (joined A B).length ≤ 5 := by
      have := List.length_filter_le (fun x => decide (x ∈ A ∨ x ∈ B)) (List.range 5)
      rw [List.length_range] at this
      exact this
    replace Z := Z.trans x16
    have g16 := g15.trans x16.tt
    obtain ⟨ra, rb, rc, rd⟩ := sh J1 J2
    refine ⟨.ref aj, rfl, .ref aj, _, rfl, rfl, (show Da T16 (natsT (joined A B)) (.ref aj) from ⟨aj, _, rfl, ej, nats_da _⟩).dpH Z.th, ra, rb, rc, rd, ?_⟩
    refine ⟨.int (n : Int), rfl, (n : Int), rfl, by omega, by omega, fun L nL => ?_⟩
    rw [show ((n : Nat) : Int).toNat = n from Int.toNat_natCast n]
    refine lc_enc (enc := natD) (p := fun x => decide (x ∈ A) || decide (x ∈ B)) (f := natD) (ds := List.range n) (T := T16) Z.th nL (by rw [List.length_range]; omega) (by rw [← range_nat]; exact gives_range Z.th) (fun i y x T9 H9 R R0 hi x9 hx9 r1 r0 => ?_) (fun T17 H17 us x17 hus hdu => ?_)
    · obtain rfl : x = natV y := hx9
      have g9 := g16.trans x9.tt
      refine ⟨rfl, natV y, rfl, .ref a1, rfl, a1, _, rfl, .inr (.inl (.inl (x9.th _ _ (g9 _ _ ea1)))), rfl, flat_nats _, _, rfl, ?_⟩
      show if inV (natV y) (A.map natV) = true then _ else _
      rw [inV_nats]
      refine ite2 (fun e => ⟨natV y, rfl, r1 T9 H9 _ (.refl x9.th) rfl (by show (decide (y ∈ A) || decide (y ∈ B)) = true; rw [e]; rfl)⟩) (fun e => ?_)
      refine ⟨natV y, rfl, .ref a2, rfl, a2, _, rfl, .inr (.inl (.inl (x9.th _ _ (g9 _ _ ea2)))), rfl, flat_nats _, _, rfl, ?_⟩
      show if inV (natV y) (B.map natV) = true then _ else _
      rw [inV_nats]
      refine ite2 (fun e2 => ⟨natV y, rfl, r1 T9 H9 _ (.refl x9.th) rfl (by show (decide (y ∈ A) || decide (y ∈ B)) = true; rw [e2, Bool.or_true])⟩) (fun e2 => r0 T9 H9 (.refl x9.th) (by show (decide (y ∈ A) || decide (y ∈ B)) = false; rw [Bool.eq_false_iff.mpr e, Bool.eq_false_iff.mpr e2]; rfl))
    rw [joined_law n5 hA2 hB2] at hdu
    refine ⟨L, us, rfl, .inl ⟨.inl (.inl (x17.th _ _ hus)), fun t1 nt1 => ?_⟩⟩
    have x18 := Ext.new (o := .tup us) x17.th nt1
    have hd18 : Da (upd T17 t1 (.tup us)) (natsT (joined A B)) (.ref t1) := ⟨t1, us, rfl, upd_same, hdu.keep x18.tt⟩
    refine ⟨.ref t1, _, rfl, rfl, hd18.dpH x18.th, ra, rb, rc, rd, rfl, _, rfl, iteFe (by rw [decide_eq_true rfl]; rfl) ?_⟩
    replace Z := Z.trans (x17.trans x18)
    have g18 := g16.trans (x17.tt.trans x18.tt)
    replace ej := x18.tt _ _ (x17.tt _ _ ej)
    generalize upd T17 t1 (.tup us) = T18 at Z g18 ej
    generalize upd H17 t1 (.tup us) = H18 at Z ⊢
    clear hd18 x17 x18 hus hdu nL g16 g15 x16
    -- watchers of one
    obtain ⟨wa', wb', wc', wd'⟩ := sh (wn A) (wl A)
    refine ⟨.ref a1, rfl, .ref ao, rfl, T18, [ordD O, natsT A], _, Z.th, .two (Da.keep g18 _ _ hOd) (Da.keep g18 _ _ hAd), ⟨O, A, rfl, by omega, rfl⟩, Z.th _ _ (g18 _ _ (tabs _ tW)), fun H19 T19 v19 x19 hv19 => ?_⟩
    refine ⟨v19, _, rfl, rfl, hv19.dpH x19.th, wa', wb', wc', wd', ?_⟩
    replace Z := Z.trans x19
    have g19 := g18.trans x19.tt
    refine ⟨.ref aF, rfl, aF, _, rfl, .inl ⟨.inl (.inl (Z.th _ _ (g19 _ _ eF))), fun t1 nt1 => ?_⟩⟩
    have x20 := Ext.new (o := .tup ((watch O A).map natV)) Z.th nt1
    have hd20 : Da (upd T19 t1 (.tup ((watch O A).map natV))) (natsT (watch O A)) (.ref t1) := ⟨t1, _, rfl, upd_same, nats_da _⟩
    refine ⟨.ref t1, _, rfl, rfl, hd20.dpH x20.th, wa', wb', wc', wd', rfl, _, rfl, iteFe (by rw [decide_eq_true rfl]; rfl) ?_⟩
    replace Z := Z.trans x20
    have g20 := g19.trans x20.tt
    replace ej := x20.tt _ _ (x19.tt _ _ ej)
    generalize upd T19 t1 (.tup ((watch O A).map natV)) = T20 at Z g20 ej
    generalize upd H19 t1 (.tup ((watch O A).map natV)) = H20 at Z ⊢
    clear hd20 x20 x19 hv19 g18 g19
    -- watchers of both
    obtain ⟨ja, jb, jc, jd⟩ := sh (wn (joined A B)) (wl (joined A B))
    refine ⟨.ref ao, rfl, .ref aj, rfl, T20, [ordD O, natsT (joined A B)], _, Z.th, .two (Da.keep g20 _ _ hOd) ⟨aj, _, rfl, ej, nats_da _⟩, ⟨O, joined A B, rfl, by omega, rfl⟩, Z.th _ _ (g20 _ _ (tabs _ tW)), fun H21 T21 v21 x21 hv21 => ?_⟩
    refine ⟨v21, _, rfl, rfl, hv21.dpH x21.th, ja, jb, jc, jd, ?_⟩
    replace Z := Z.trans x21
    have g21 := g20.trans x21.tt
    refine ⟨.ref aF, rfl, aF, rfl, ⟨_, .inl (.inl (Z.th _ _ (g21 _ _ eF)))⟩, fun L nL => ?_⟩
    refine lc_enc (enc := natD) (p := fun v => decide (v ∈ watch O B)) (f := natD) (ds := watch O A) (T := T21) Z.th nL (by have := wl A; omega) (gives_list Z.th (g21 _ _ eF) (nats_da _)) (fun i y x T9 H9 R R0 hi x9 hx9 r1 r0 => ?_) (fun T22 H22 us x22 hus hdu => ?_)
    · obtain rfl : x = natV y := hx9
      refine ⟨rfl, natV y, rfl, .ref aS, rfl, aS, _, rfl, .inl (.inl (.inl (x9.th _ _ (x9.tt _ _ (g21 _ _ eS))))), rfl, flat_nats _, _, rfl, ?_⟩
      show if inV (natV y) ((watch O B).map natV) = true then _ else _
      rw [inV_nats]
      exact ite2 (fun e => ⟨_, rfl, r1 T9 H9 _ (.refl x9.th) rfl e⟩) (fun e => r0 T9 H9 (.refl x9.th) (Bool.eq_false_iff.mpr e))
    rw [watch_joined hA5 hB5] at hdu
    refine ⟨L, us, rfl, .inl ⟨.inl (.inl (x22.th _ _ hus)), fun t1 nt1 => ?_⟩⟩
    have x23 := Ext.new (o := .tup us) x22.th nt1
    have hd23 : Da (upd T22 t1 (.tup us)) (natsT (watch O (joined A B))) (.ref t1) := ⟨t1, us, rfl, upd_same, hdu.keep x23.tt⟩
    refine ⟨.ref t1, _, rfl, rfl, hd23.dpH x23.th, ja, jb, jc, jd, rfl, _, rfl, iteFe (by rw [decide_eq_true rfl]; rfl) ?_⟩
    replace Z := Z.trans (x22.trans x23)
    have g23 := g21.trans (x22.tt.trans x23.tt)
    generalize upd T22 t1 (.tup us) = T23 at Z g23
    generalize upd H22 t1 (.tup us) = H23 at Z ⊢
    clear hd23 x23 x22 x21 hv21 hus hdu nL g20 g21 ej
    -- covered
    refine ⟨.ref aS, rfl, aS, rfl, ⟨_, .inl (.inl (Z.th _ _ (g23 _ _ eS)))⟩, fun L nL => ?_⟩
    refine lc_enc (enc := natD) (p := fun v => !decide (v ∈ watch O A)) (f := natD) (ds := watch O B) (T := T23) Z.th nL (by have := wl B; omega) (gives_list Z.th (g23 _ _ eS) (nats_da _)) (fun i y x T9 H9 R R0 hi x9 hx9 r1 r0 => ?_) (fun T24 H24 us x24 hus hdu => ?_)
    · obtain rfl : x = natV y := hx9
      refine ⟨rfl, natV y, rfl, .ref aF, rfl, aF, _, rfl, .inl (.inl (.inl (x9.th _ _ (x9.tt _ _ (g23 _ _ eF))))), rfl, flat_nats _, _, rfl, ?_⟩
      show if (!inV (natV y) ((watch O A).map natV)) = true then _ else _
      rw [inV_nats]
      exact ite2 (fun e => ⟨_, rfl, r1 T9 H9 _ (.refl x9.th) rfl e⟩) (fun e => r0 T9 H9 (.refl x9.th) (Bool.eq_false_iff.mpr e))
    have eus := nats_of hdu
    subst eus
    refine ⟨Nat.zero_le _, fun p np => eq_nil_nats (.inl (.inl (same_new np _ _ (x24.th _ _ hus)))) (.inl (.inl upd_same)) ?_⟩
    rw [none_not, due_is]
    replace Z := Z.trans (x24.trans (Ext.more x24.th (same_new (o := .lst []) np)))
    have g24 := g23.trans x24.tt
    generalize upd H24 p (.lst []) = H25 at Z ⊢
    clear x24 hus hdu nL g23 np
    refine ⟨.ref a2, rfl, .ref a1, rfl, .ref ao, rfl, T24, [ordD O, natsT A, natsT B], _, Z.th, .three (Da.keep g24 _ _ hOd) (Da.keep g24 _ _ hAd) (Da.keep g24 _ _ hBd), ⟨O, A, B, rfl, by omega, rfl⟩, ⟨Z.th _ _ (g24 _ _ (tabs _ tco)), Z.th _ _ (g24 _ _ (tabs _ tW))⟩, fun H26 T26 x26 => ⟨_, rfl, .bl _, rfl, _, rfl, rfl, _, rfl, iteFe (by rw [decide_eq_true rfl]; rfl) ?_⟩⟩
    replace Z := Z.trans x26
    have g26 := g24.trans x26.tt
    clear x26 g24
    have z0 := Ext.refl Z.th
    have b1 := g26 _ _ ea1
    refine ⟨.ref a1, rfl, .int (n : Int), rfl, ?_⟩
    refine ⟨by show 1 ≤ sizeLine; omega, fun m1 nm1 => ?_⟩
    have y1 := Ext.new (o := (.tup [.int (n : Int)])) z0.th nm1
    have em1 := @upd_same T26 m1 (.tup [.int (n : Int)])
    generalize upd T26 m1 (.tup [.int (n : Int)]) = TB1 at y1 em1
    generalize upd H26 m1 (.tup [.int (n : Int)]) = HB1 at y1 ⊢
    have z1 := z0.trans y1
    refine catA_da z1.th (z1.tt _ _ b1) em1 (by rw [List.length_map]; show A.length + 1 ≤ sizeLine; omega) (fun m2 TB2 HB2 y2 em2 => ?_)
    have z2 := z1.trans y2
    refine ⟨.ref a1, rfl, a1, _, rfl, .inl (.inl (z2.th _ _ (z2.tt _ _ b1))), ?_⟩
    intro m3 nm3
    have y3 := Ext.new (o := (.tup (A.map natV).reverse)) z2.th nm3
    have em3 := @upd_same TB2 m3 (.tup (A.map natV).reverse)
    generalize upd TB2 m3 (.tup (A.map natV).reverse) = TB3 at y3 em3
    generalize upd HB2 m3 (.tup (A.map natV).reverse) = HB3 at y3 ⊢
    have z3 := z2.trans y3
    refine ⟨.ref a1, rfl, 1, rfl, slA_da z3.th (z3.tt _ _ b1) (fun m4 TB4 HB4 y4 em4 => ?_)⟩
    have z4 := z3.trans y4
    refine catA_da z4.th (y4.tt _ _ em3) em4 (by rw [List.length_reverse, List.length_map]; have := cutV_length (A.map natV) none (some 1); rw [List.length_map] at this; omega) (fun m5 TB5 HB5 y5 em5 => ?_)
    have z5 := z4.trans y5
    refine ⟨.ref a1, rfl, ?_⟩
    refine ⟨by show 1 ≤ sizeLine; omega, fun m6 nm6 => ?_⟩
    have y6 := Ext.new (o := (.tup [.bl true])) z5.th nm6
    have em6 := @upd_same TB5 m6 (.tup [.bl true])
    generalize upd TB5 m6 (.tup [.bl true]) = TB6 at y6 em6
    generalize upd HB5 m6 (.tup [.bl true]) = HB6 at y6 ⊢
    have z6 := z5.trans y6
    refine catA_da z6.th (z6.tt _ _ b1) em6 (by rw [List.length_map]; show A.length + 1 ≤ sizeLine; omega) (fun m7 TB7 HB7 y7 em7 => ?_)
    have z7 := z6.trans y7
    refine ⟨.ref a1, rfl, a1, _, rfl, .inr (.inl (.inl (z7.th _ _ (z7.tt _ _ b1)))), ?_⟩
    intro m8 nm8
    have y8 := Ext.new (o := (.lst (A.map natV))) z7.th nm8
    have em8 := @upd_same TB7 m8 (.lst (A.map natV))
    generalize upd TB7 m8 (.lst (A.map natV)) = TB8 at y8 em8
    generalize upd HB7 m8 (.lst (A.map natV)) = HB8 at y8 ⊢
    have z8 := z7.trans y8
    refine ⟨1, rfl, ?_⟩
    refine ⟨by show 1 ≤ sizeLine; omega, fun m9 nm9 => ?_⟩
    have y9 := Ext.new (o := (.tup [.int (-1)])) z8.th nm9
    have em9 := @upd_same TB8 m9 (.tup [.int (-1)])
    generalize upd TB8 m9 (.tup [.int (-1)]) = TB9 at y9 em9
    generalize upd HB8 m9 (.tup [.int (-1)]) = HB9 at y9 ⊢
    have z9 := z8.trans y9
    refine ⟨.ref a1, rfl, .ref a1, rfl, ?_⟩
    refine catA_da z9.th (z9.tt _ _ b1) (z9.tt _ _ b1) (by rw [List.length_map]; omega) (fun m10 TB10 HB10 y10 em10 => ?_)
    have z10 := z9.trans y10
    refine ⟨by show 1 ≤ sizeLine; omega, fun m11 nm11 => ?_⟩
    have y11 := Ext.new (o := (.tup [.str "0"])) z10.th nm11
    have em11 := @upd_same TB10 m11 (.tup [.str "0"])
    generalize upd TB10 m11 (.tup [.str "0"]) = TB11 at y11 em11
    generalize upd HB10 m11 (.tup [.str "0"]) = HB11 at y11 ⊢
    have z11 := z10.trans y11
    refine ⟨by show 8 ≤ sizeLine; omega, fun m12 nm12 => ?_⟩
    have y12 := Ext.new (o := (.lst [.ref m2, .ref m5, .ref m7, .ref m8, .non, .ref m9, .ref m10, .ref m11])) z11.th nm12
    have em12 := @upd_same TB11 m12 (.lst [.ref m2, .ref m5, .ref m7, .ref m8, .non, .ref m9, .ref m10, .ref m11])
    generalize upd TB11 m12 (.lst [.ref m2, .ref m5, .ref m7, .ref m8, .non, .ref m9, .ref m10, .ref m11]) = TB12 at y12 em12
    generalize upd HB11 m12 (.lst [.ref m2, .ref m5, .ref m7, .ref m8, .non, .ref m9, .ref m10, .ref m11]) = HB12 at y12 ⊢
    have z12 := z11.trans y12
    have gb : DaA TB12 (bads n A) [.ref m2, .ref m5, .ref m7, .ref m8, .non, .ref m9, .ref m10, .ref m11] :=
      ⟨_, _, rfl, ⟨m2, _, rfl, (((((((((y3.tt.trans y4.tt).trans y5.tt).trans y6.tt).trans y7.tt).trans y8.tt).trans y9.tt).trans y10.tt).trans y11.tt).trans y12.tt) _ _ em2, (nats_da A).app (.one rfl)⟩, ⟨_, _, rfl, ⟨m5, _, rfl, ((((((y6.tt.trans y7.tt).trans y8.tt).trans y9.tt).trans y10.tt).trans y11.tt).trans y12.tt) _ _ em5, revs A⟩, ⟨_, _, rfl, ⟨m7, _, rfl, ((((y8.tt.trans y9.tt).trans y10.tt).trans y11.tt).trans y12.tt) _ _ em7, (nats_da A).app (.one rfl)⟩, ⟨_, _, rfl, ⟨m8, _, rfl, (((y9.tt.trans y10.tt).trans y11.tt).trans y12.tt) _ _ em8, nats_da A⟩, ⟨_, _, rfl, rfl, ⟨_, _, rfl, ⟨m9, _, rfl, ((y10.tt.trans y11.tt).trans y12.tt) _ _ em9, .one rfl⟩, ⟨_, _, rfl, ⟨m10, _, rfl, (y11.tt.trans y12.tt) _ _ em10, (nats_da A).app (nats_da A)⟩, ⟨_, _, rfl, ⟨m11, _, rfl, y12.tt _ _ em11, .one rfl⟩, rfl⟩⟩⟩⟩⟩⟩⟩⟩
    replace Z := Z.trans z12
    have g27 := g26.trans z12.tt
    clear y1 y2 y3 y4 y5 y6 y7 y8 y9 y10 y11 y12 z0 z1 z2 z3 z4 z5 z6 z7 z8 z9 z10 z11 z12
    generalize TB12 = T27 at *
    generalize HB12 = H27 at *
    have bp := bads_plain (n := n) (l := A) (by omega) (fun x hx => by have := hA5 x hx; omega)
    refine ⟨.ref ao, rfl, .ref d, rfl, .ref m12, rfl, m12, rfl, ⟨_, .inl (.inl (Z.th _ _ em12))⟩, fun L nL => ?_⟩
    refine lc_dat (ds := bads n A) keepB (fun d => d) Z.th nL (by show 8 < sizeLine; omega) (gives_list Z.th em12 gb) (fun i bd x T9 H9 R R0 hi x9 hx9 r1 r0 => ?_) (fun T28 H28 us x28 hus hdu => ?_)
    · obtain ⟨p1, p2⟩ := bp bd (List.mem_of_getElem? hi)
      refine ⟨rfl, x, rfl, Nat.zero_le _, fun p np => ?_⟩
      have x10 := Ext.new (o := .tup []) x9.th np
      have hn : Da (upd T9 p (.tup [])) (.tuple []) (.ref p) := ⟨p, [], rfl, upd_same, rfl⟩
      refine ne_ans ((Da.keep x10.tt _ _ hx9).dpH x10.th) (hn.dpH x10.th) p1 (by simp [plainD, plainAll]) p2 (by simp [PyData.depth, PyData.depthAll]) ⟨_, rfl, ?_⟩
      exact ite2 (fun e => ⟨x, rfl, r1 _ _ _ x10 (Da.keep x10.tt _ _ hx9) e⟩) (fun e => r0 _ _ x10 (Bool.eq_false_iff.mpr e))
    rw [List.map_id'] at hdu
    have hpos : 0 < ((bads n A).filter keepB).length := List.length_pos_of_mem (a := .none) (List.mem_filter.mpr ⟨by simp [bads], by simp [keepB, PyData.eqv]⟩)
    have hle : ((bads n A).filter keepB).length ≤ 8 := List.length_filter_le _ _
    have lus := hdu.len
    have Y := ExD.trans hD2 X hD (Z.trans x28).toD
    have hD28 := hD.same (Z.trans x28).hh
    have t28 := Y.td hD2 t2.1 t2.2
    have ofL : L ≠ d ∧ L ≠ l := ⟨fun z => (by rw [z, t28.1] at hus; cases hus), fun z => (by rw [z, t28.2] at hus; cases hus)⟩
    refine ⟨d, l, L, us, rfl, hD28, fun H' B' => .inl (.inl (B' _ _ ofL.1 ofL.2 (x28.th _ _ hus))), by omega, by omega, fun bi bx H29 hbx hD29 hB29 => ?_⟩
    obtain ⟨bd, hbd, hbdx⟩ := hdu.get hbx
    have hmem := List.mem_of_getElem? hbd
    have x29 := ExD.turn Y.th t28.1 t28.2 hB29
    have g28 := g27.trans x28.tt
    refine ⟨T28, [ordD O, bd], false, x29.th, .two (Da.keep g28 _ _ hOd) hbdx, ⟨O, bd, rfl, fun xs e => ?_, by rw [okn]; exact (bads_bad hA1 bd hmem).symm⟩, ⟨x29.th _ _ (g28 _ _ (tabs _ tlt)), x29.th _ _ (g28 _ _ (tabs _ tas))⟩, fun H30 T30 x30 => ⟨false, false, rfl, rfl, _, rfl, iteFe rfl ?_⟩⟩
    · exact bads_len (n := n) lA bd (List.mem_filter.mp hmem).1 xs e
    · exact ⟨T30, _, _, _, _, _, _, _, _, _, rfl, ExD.trans hD2 (ExD.trans hD2 Y hD28 x29) hD29 x30.toD, hD29.same x30.hh⟩
  · rintro σ H3 ⟨T3, y4, y5, y6, y7, y8, y9, y10, y11, y12, rfl, x3, hD3⟩
    exact q H3 fun p hp => x3.th _ _ (x3.tt _ _ (tabs2 p hp))

end
end K02
end

section
set_option maxHeartbeats 4000000
namespace K02
open PySem PySem.Spec PyProof.Rows L2 Zc
theorem all_mk {l : PySem.W.OpenLaw} {w : World} {K : PySem.W.Frag} {h : Heap} {mg : Str → Option Value} {fa : Addr}
    (X : K.In h) (G : h.Ns mainGlobals mg) (hfa : mg "law" = some (.ref fa)) (own : ∀ y ∈ [("is_ascending" : Str), ("is_lot" : Str), ("lot_within" : Str), ("covered" : Str)], OwnT K mg h y)
    {f0 : Addr} {od0 an0 : Option Addr} {sl0 : Array (Option Value)} {oc0 kV0 dc0 pm0 cd0 ct0 : Value}
    {f1 : Addr} {od1 an1 : Option Addr} {sl1 : Array (Option Value)} {oc1 kV1 dc1 pm1 cd1 ct1 : Value}
    {f2 : Addr} {od2 an2 : Option Addr} {sl2 : Array (Option Value)} {oc2 kV2 dc2 pm2 cd2 ct2 : Value}
    {f3 : Addr} {od3 an3 : Option Addr} {sl3 : Array (Option Value)} {oc3 kV3 dc3 pm3 cd3 ct3 : Value}
    {f4 : Addr} {od4 an4 : Option Addr} {sl4 : Array (Option Value)} {oc4 kV4 dc4 pm4 cd4 ct4 : Value}
    {f5 : Addr} {od5 an5 : Option Addr} {sl5 : Array (Option Value)} {oc5 kV5 dc5 pm5 cd5 ct5 : Value}
    {f6 : Addr} {od6 an6 : Option Addr} {sl6 : Array (Option Value)} {oc6 kV6 dc6 pm6 cd6 ct6 : Value}
    {f7 : Addr} {od7 an7 : Option Addr} {sl7 : Array (Option Value)} {oc7 kV7 dc7 pm7 cd7 ct7 : Value}
    {f8 : Addr} {od8 an8 : Option Addr} {sl8 : Array (Option Value)} {oc8 kV8 dc8 pm8 cd8 ct8 : Value}
    {f9 : Addr} {od9 an9 : Option Addr} {sl9 : Array (Option Value)} {oc9 kV9 dc9 pm9 cd9 ct9 : Value}
    {f10 : Addr} {od10 an10 : Option Addr} {sl10 : Array (Option Value)} {oc10 kV10 dc10 pm10 cd10 ct10 : Value}
    {f11 : Addr} {od11 an11 : Option Addr} {sl11 : Array (Option Value)} {oc11 kV11 dc11 pm11 cd11 ct11 : Value}
    {f12 : Addr} {od12 an12 : Option Addr} {sl12 : Array (Option Value)} {oc12 kV12 dc12 pm12 cd12 ct12 : Value}
    {f13 : Addr} {od13 an13 : Option Addr} {sl13 : Array (Option Value)} {oc13 kV13 dc13 pm13 cd13 ct13 : Value}
    {f14 : Addr} {od14 an14 : Option Addr} {sl14 : Array (Option Value)} {oc14 kV14 dc14 pm14 cd14 ct14 : Value}
    {f15 : Addr} {od15 an15 : Option Addr} {sl15 : Array (Option Value)} {oc15 kV15 dc15 pm15 cd15 ct15 : Value}
    {f16 : Addr} {od16 an16 : Option Addr} {sl16 : Array (Option Value)} {oc16 kV16 dc16 pm16 cd16 ct16 : Value}
    (a0 : PySem.W.nsIn K mainGlobals "law" = some (some (.ref f0)))
    (l0 : K.lookup f0 = some ⟨oc0, od0, .func (PySem.W.fnOf "law" "law" (defArgs s_law) (defBody s_law)
      (defScope s_law) .none kV0 dc0 pm0 an0 cd0 ct0), sl0⟩)
    (c0 : PySem.W.codeIn K cd0 "law" = true) (k0 : PySem.W.keepIn K (.ref f0) = true)
    (a1 : PySem.W.nsIn K mainGlobals "_law_draw" = some (some (.ref f1)))
    (l1 : K.lookup f1 = some ⟨oc1, od1, .func (PySem.W.fnOf "_law_draw" "_law_draw" (defArgs s__law_draw) (defBody s__law_draw)
      (defScope s__law_draw) .none kV1 dc1 pm1 an1 cd1 ct1), sl1⟩)
    (c1 : PySem.W.codeIn K cd1 "_law_draw" = true) (k1 : PySem.W.keepIn K (.ref f1) = true)
    (a2 : PySem.W.nsIn K mainGlobals "_law_any" = some (some (.ref f2)))
    (l2 : K.lookup f2 = some ⟨oc2, od2, .func (PySem.W.fnOf "_law_any" "_law_any" (defArgs s__law_any) (defBody s__law_any)
      (defScope s__law_any) .none kV2 dc2 pm2 an2 cd2 ct2), sl2⟩)
    (c2 : PySem.W.codeIn K cd2 "_law_any" = true) (k2 : PySem.W.keepIn K (.ref f2) = true)
    (a3 : PySem.W.nsIn K mainGlobals "_law_of" = some (some (.ref f3)))
    (l3 : K.lookup f3 = some ⟨oc3, od3, .func (PySem.W.fnOf "_law_of" "_law_of" (defArgs s__law_of) (defBody s__law_of)
      (defScope s__law_of) .none kV3 dc3 pm3 an3 cd3 ct3), sl3⟩)
    (c3 : PySem.W.codeIn K cd3 "_law_of" = true) (k3 : PySem.W.keepIn K (.ref f3) = true)
    (a4 : PySem.W.nsIn K mainGlobals "_law_mixed" = some (some (.ref f4)))
    (l4 : K.lookup f4 = some ⟨oc4, od4, .func (PySem.W.fnOf "_law_mixed" "_law_mixed" (defArgs s__law_mixed) (defBody s__law_mixed)
      (defScope s__law_mixed) .none kV4 dc4 pm4 an4 cd4 ct4), sl4⟩)
    (c4 : PySem.W.codeIn K cd4 "_law_mixed" = true) (k4 : PySem.W.keepIn K (.ref f4) = true)
    (a5 : PySem.W.nsIn K mainGlobals "_law_closed" = some (some (.ref f5)))
    (l5 : K.lookup f5 = some ⟨oc5, od5, .func (PySem.W.fnOf "_law_closed" "_law_closed" (defArgs s__law_closed) (defBody s__law_closed)
      (defScope s__law_closed) .none kV5 dc5 pm5 an5 cd5 ct5), sl5⟩)
    (c5 : PySem.W.codeIn K cd5 "_law_closed" = true) (k5 : PySem.W.keepIn K (.ref f5) = true)
    (a6 : PySem.W.nsIn K mainGlobals "_law_order" = some (some (.ref f6)))
    (l6 : K.lookup f6 = some ⟨oc6, od6, .func (PySem.W.fnOf "_law_order" "_law_order" (defArgs s__law_order) (defBody s__law_order)
      (defScope s__law_order) .none kV6 dc6 pm6 an6 cd6 ct6), sl6⟩)
    (c6 : PySem.W.codeIn K cd6 "_law_order" = true) (k6 : PySem.W.keepIn K (.ref f6) = true)
    (a7 : PySem.W.nsIn K mainGlobals "_law_lot" = some (some (.ref f7)))
    (l7 : K.lookup f7 = some ⟨oc7, od7, .func (PySem.W.fnOf "_law_lot" "_law_lot" (defArgs s__law_lot) (defBody s__law_lot)
      (defScope s__law_lot) .none kV7 dc7 pm7 an7 cd7 ct7), sl7⟩)
    (c7 : PySem.W.codeIn K cd7 "_law_lot" = true) (k7 : PySem.W.keepIn K (.ref f7) = true)
    (a8 : PySem.W.nsIn K mainGlobals "is_integer" = some (some (.ref f8)))
    (l8 : K.lookup f8 = some ⟨oc8, od8, .func (PySem.W.fnOf "is_integer" "is_integer" (defArgs s_is_integer) (defBody s_is_integer)
      (defScope s_is_integer) .none kV8 dc8 pm8 an8 cd8 ct8), sl8⟩)
    (c8 : PySem.W.codeIn K cd8 "is_integer" = true) (k8 : PySem.W.keepIn K (.ref f8) = true)
    (a9 : PySem.W.nsIn K mainGlobals "is_number" = some (some (.ref f9)))
    (l9 : K.lookup f9 = some ⟨oc9, od9, .func (PySem.W.fnOf "is_number" "is_number" (defArgs s_is_number) (defBody s_is_number)
      (defScope s_is_number) .none kV9 dc9 pm9 an9 cd9 ct9), sl9⟩)
    (c9 : PySem.W.codeIn K cd9 "is_number" = true) (k9 : PySem.W.keepIn K (.ref f9) = true)
    (a10 : PySem.W.nsIn K mainGlobals "is_ascending" = some (some (.ref f10)))
    (l10 : K.lookup f10 = some ⟨oc10, od10, .func (PySem.W.fnOf "is_ascending" "is_ascending" (defArgs s_is_ascending) (defBody s_is_ascending)
      (defScope s_is_ascending) .none kV10 dc10 pm10 an10 cd10 ct10), sl10⟩)
    (c10 : PySem.W.codeIn K cd10 "is_ascending" = true) (k10 : PySem.W.keepIn K (.ref f10) = true)
    (a11 : PySem.W.nsIn K mainGlobals "is_level" = some (some (.ref f11)))
    (l11 : K.lookup f11 = some ⟨oc11, od11, .func (PySem.W.fnOf "is_level" "is_level" (defArgs s_is_level) (defBody s_is_level)
      (defScope s_is_level) .none kV11 dc11 pm11 an11 cd11 ct11), sl11⟩)
    (c11 : PySem.W.codeIn K cd11 "is_level" = true) (k11 : PySem.W.keepIn K (.ref f11) = true)
    (a12 : PySem.W.nsIn K mainGlobals "is_lot" = some (some (.ref f12)))
    (l12 : K.lookup f12 = some ⟨oc12, od12, .func (PySem.W.fnOf "is_lot" "is_lot" (defArgs s_is_lot) (defBody s_is_lot)
      (defScope s_is_lot) .none kV12 dc12 pm12 an12 cd12 ct12), sl12⟩)
    (c12 : PySem.W.codeIn K cd12 "is_lot" = true) (k12 : PySem.W.keepIn K (.ref f12) = true)
    (a13 : PySem.W.nsIn K mainGlobals "lot_within" = some (some (.ref f13)))
    (l13 : K.lookup f13 = some ⟨oc13, od13, .func (PySem.W.fnOf "lot_within" "lot_within" (defArgs s_lot_within) (defBody s_lot_within)
      (defScope s_lot_within) .none kV13 dc13 pm13 an13 cd13 ct13), sl13⟩)
    (c13 : PySem.W.codeIn K cd13 "lot_within" = true) (k13 : PySem.W.keepIn K (.ref f13) = true)
    (a14 : PySem.W.nsIn K mainGlobals "joined_lots" = some (some (.ref f14)))
    (l14 : K.lookup f14 = some ⟨oc14, od14, .func (PySem.W.fnOf "joined_lots" "joined_lots" (defArgs s_joined_lots) (defBody s_joined_lots)
      (defScope s_joined_lots) .none kV14 dc14 pm14 an14 cd14 ct14), sl14⟩)
    (c14 : PySem.W.codeIn K cd14 "joined_lots" = true) (k14 : PySem.W.keepIn K (.ref f14) = true)
    (a15 : PySem.W.nsIn K mainGlobals "watchers" = some (some (.ref f15)))
    (l15 : K.lookup f15 = some ⟨oc15, od15, .func (PySem.W.fnOf "watchers" "watchers" (defArgs s_watchers) (defBody s_watchers)
      (defScope s_watchers) .none kV15 dc15 pm15 an15 cd15 ct15), sl15⟩)
    (c15 : PySem.W.codeIn K cd15 "watchers" = true) (k15 : PySem.W.keepIn K (.ref f15) = true)
    (a16 : PySem.W.nsIn K mainGlobals "covered" = some (some (.ref f16)))
    (l16 : K.lookup f16 = some ⟨oc16, od16, .func (PySem.W.fnOf "covered" "covered" (defArgs s_covered) (defBody s_covered)
      (defScope s_covered) .none kV16 dc16 pm16 an16 cd16 ct16), sl16⟩)
    (c16 : PySem.W.codeIn K cd16 "covered" = true) (k16 : PySem.W.keepIn K (.ref f16) = true)
    (z_int : PySem.W.nsIn K mainGlobals "int" = some none)
    (z_len : PySem.W.nsIn K mainGlobals "len" = some none)
    (z_list : PySem.W.nsIn K mainGlobals "list" = some none)
    (z_range : PySem.W.nsIn K mainGlobals "range" = some none)
    (z_sorted : PySem.W.nsIn K mainGlobals "sorted" = some none)
    (z_tuple : PySem.W.nsIn K mainGlobals "tuple" = some none)
    (z_min : PySem.W.nsIn K mainGlobals "min" = some none)
    (z_max : PySem.W.nsIn K mainGlobals "max" = some none)
    (z_isinstance : PySem.W.nsIn K mainGlobals "isinstance" = some none)
    (z_bool : PySem.W.nsIn K mainGlobals "bool" = some none)
    (z_all : PySem.W.nsIn K mainGlobals "all" = some none)
    (z_abs : PySem.W.nsIn K mainGlobals "abs" = some none)
    (z_repr : PySem.W.nsIn K mainGlobals "repr" = some none)
    (z_set : PySem.W.nsIn K mainGlobals "set" = some none)
    {q10 p10 : Addr} {oq10 : Value} {dq10 : Option Addr} {sq10 : Array (Option Value)} {vs10 : Array Value}
    (r10 : cd10 = .ref q10) (w10 : K.lookup q10 = some ⟨oq10, dq10, .fields vs10, sq10⟩) (v10 : vs10[11]? = some (.ref p10)) (n10 : K.lookup p10 = none)
    {q12 p12 : Addr} {oq12 : Value} {dq12 : Option Addr} {sq12 : Array (Option Value)} {vs12 : Array Value}
    (r12 : cd12 = .ref q12) (w12 : K.lookup q12 = some ⟨oq12, dq12, .fields vs12, sq12⟩) (v12 : vs12[11]? = some (.ref p12)) (n12 : K.lookup p12 = none)
    {q13 p13 : Addr} {oq13 : Value} {dq13 : Option Addr} {sq13 : Array (Option Value)} {vs13 : Array Value}
    (r13 : cd13 = .ref q13) (w13 : K.lookup q13 = some ⟨oq13, dq13, .fields vs13, sq13⟩) (v13 : vs13[11]? = some (.ref p13)) (n13 : K.lookup p13 = none)
    {q16 p16 : Addr} {oq16 : Value} {dq16 : Option Addr} {sq16 : Array (Option Value)} {vs16 : Array Value}
    (r16 : cd16 = .ref q16) (w16 : K.lookup q16 = some ⟨oq16, dq16, .fields vs16, sq16⟩) (v16 : vs16[11]? = some (.ref p16)) (n16 : K.lookup p16 = none) :
    ∃ (fd : FuncData) (cs : List (Addr × Addr)) (sp : Sp), (∀ p ∈ cs, h.get? p.2 = some { cls := .none, data := .fields #[] } ∧ K.lookup p.2 = none ∧ PySem.W.CodeHd h p.1 p.2) ∧
      (∀ (s : Shared) (v : Value), BindsTo s fd ⟨[v], []⟩ [("script", v)]) ∧
      (∀ base : Heap, K.In base → base.Ns mainGlobals mg → (∀ p ∈ cs, GxR.TabB base mg p.1 p.2) → FnG l.prog w K mg base 9 fa fd ["script"] sp) ∧
      (∀ (H : Hp) (a : Addr) (ns : List Int), ns.length ≤ 63 → Tabs cs H → SqL K H a (ns.map V.int) → sp [.ref a] H (fun v H' => v = .bl true ∧ Tabs cs H') fun _ _ _ => False) := by
  have e := hfa.symm.trans (PySem.W.mg_of X G a0)
  cases e
  subst r10
  subst r12
  subst r13
  subst r16
  have F0 := fun_mk (st := s_law) l0 c0 k0
  have D0 : At K mg "law" s_law ["script"] fa _ := ⟨F0, PySem.W.mg_of X G a0,
    F0.binds (ps := ["script"]) fun _ _ _ _ _ _ us hl => match us, hl with | [_], _ => rfl⟩
  have F1 := fun_mk (st := s__law_draw) l1 c1 k1
  have D1 : At K mg "_law_draw" s__law_draw ["script", "salt"] f1 _ := ⟨F1, PySem.W.mg_of X G a1,
    F1.binds (ps := ["script", "salt"]) fun _ _ _ _ _ _ us hl => match us, hl with | [_, _], _ => rfl⟩
  have F2 := fun_mk (st := s__law_any) l2 c2 k2
  have D2 : At K mg "_law_any" s__law_any ["deal", "bound"] f2 _ := ⟨F2, PySem.W.mg_of X G a2,
    F2.binds (ps := ["deal", "bound"]) fun _ _ _ _ _ _ us hl => match us, hl with | [_, _], _ => rfl⟩
  have F3 := fun_mk (st := s__law_of) l3 c3 k3
  have D3 : At K mg "_law_of" s__law_of ["deal", "some"] f3 _ := ⟨F3, PySem.W.mg_of X G a3,
    F3.binds (ps := ["deal", "some"]) fun _ _ _ _ _ _ us hl => match us, hl with | [_, _], _ => rfl⟩
  have F4 := fun_mk (st := s__law_mixed) l4 c4 k4
  have D4 : At K mg "_law_mixed" s__law_mixed ["deal", "some"] f4 _ := ⟨F4, PySem.W.mg_of X G a4,
    F4.binds (ps := ["deal", "some"]) fun _ _ _ _ _ _ us hl => match us, hl with | [_, _], _ => rfl⟩
  have F5 := fun_mk (st := s__law_closed) l5 c5 k5
  have D5 : At K mg "_law_closed" s__law_closed ["many", "pairs"] f5 _ := ⟨F5, PySem.W.mg_of X G a5,
    F5.binds (ps := ["many", "pairs"]) fun _ _ _ _ _ _ us hl => match us, hl with | [_, _], _ => rfl⟩
  have F6 := fun_mk (st := s__law_order) l6 c6 k6
  have D6 : At K mg "_law_order" s__law_order ["deal"] f6 _ := ⟨F6, PySem.W.mg_of X G a6,
    F6.binds (ps := ["deal"]) fun _ _ _ _ _ _ us hl => match us, hl with | [_], _ => rfl⟩
  have F7 := fun_mk (st := s__law_lot) l7 c7 k7
  have D7 : At K mg "_law_lot" s__law_lot ["deal", "many"] f7 _ := ⟨F7, PySem.W.mg_of X G a7,
    F7.binds (ps := ["deal", "many"]) fun _ _ _ _ _ _ us hl => match us, hl with | [_, _], _ => rfl⟩
  have F8 := fun_mk (st := s_is_integer) l8 c8 k8
  have D8 : At K mg "is_integer" s_is_integer ["value"] f8 _ := ⟨F8, PySem.W.mg_of X G a8,
    F8.binds (ps := ["value"]) fun _ _ _ _ _ _ us hl => match us, hl with | [_], _ => rfl⟩
  have F9 := fun_mk (st := s_is_number) l9 c9 k9
  have D9 : At K mg "is_number" s_is_number ["value"] f9 _ := ⟨F9, PySem.W.mg_of X G a9,
    F9.binds (ps := ["value"]) fun _ _ _ _ _ _ us hl => match us, hl with | [_], _ => rfl⟩
  have F10 := fun_mk (st := s_is_ascending) l10 c10 k10
  have D10 : At K mg "is_ascending" s_is_ascending ["things"] f10 _ := ⟨F10, PySem.W.mg_of X G a10,
    F10.binds (ps := ["things"]) fun _ _ _ _ _ _ us hl => match us, hl with | [_], _ => rfl⟩
  have F11 := fun_mk (st := s_is_level) l11 c11 k11
  have D11 : At K mg "is_level" s_is_level ["levels", "value"] f11 _ := ⟨F11, PySem.W.mg_of X G a11,
    F11.binds (ps := ["levels", "value"]) fun _ _ _ _ _ _ us hl => match us, hl with | [_, _], _ => rfl⟩
  have F12 := fun_mk (st := s_is_lot) l12 c12 k12
  have D12 : At K mg "is_lot" s_is_lot ["order", "value"] f12 _ := ⟨F12, PySem.W.mg_of X G a12,
    F12.binds (ps := ["order", "value"]) fun _ _ _ _ _ _ us hl => match us, hl with | [_, _], _ => rfl⟩
  have F13 := fun_mk (st := s_lot_within) l13 c13 k13
  have D13 : At K mg "lot_within" s_lot_within ["order", "lot", "level"] f13 _ := ⟨F13, PySem.W.mg_of X G a13,
    F13.binds (ps := ["order", "lot", "level"]) fun _ _ _ _ _ _ us hl => match us, hl with | [_, _, _], _ => rfl⟩
  have F14 := fun_mk (st := s_joined_lots) l14 c14 k14
  have D14 : At K mg "joined_lots" s_joined_lots ["one", "other"] f14 _ := ⟨F14, PySem.W.mg_of X G a14,
    F14.binds (ps := ["one", "other"]) fun _ _ _ _ _ _ us hl => match us, hl with | [_, _], _ => rfl⟩
  have F15 := fun_mk (st := s_watchers) l15 c15 k15
  have D15 : At K mg "watchers" s_watchers ["order", "lot"] f15 _ := ⟨F15, PySem.W.mg_of X G a15,
    F15.binds (ps := ["order", "lot"]) fun _ _ _ _ _ _ us hl => match us, hl with | [_, _], _ => rfl⟩
  have F16 := fun_mk (st := s_covered) l16 c16 k16
  have D16 : At K mg "covered" s_covered ["order", "one", "other"] f16 _ := ⟨F16, PySem.W.mg_of X G a16,
    F16.binds (ps := ["order", "one", "other"]) fun _ _ _ _ _ _ us hl => match us, hl with | [_, _, _], _ => rfl⟩
  have O10 := own "is_ascending" (by simp) f10 q10 p10 _ _ _ _ (PySem.W.mg_of X G a10) l10 rfl rfl w10 rfl v10
  have O12 := own "is_lot" (by simp) f12 q12 p12 _ _ _ _ (PySem.W.mg_of X G a12) l12 rfl rfl w12 rfl v12
  have O13 := own "lot_within" (by simp) f13 q13 p13 _ _ _ _ (PySem.W.mg_of X G a13) l13 rfl rfl w13 rfl v13
  have O16 := own "covered" (by simp) f16 q16 p16 _ _ _ _ (PySem.W.mg_of X G a16) l16 rfl rfl w16 rfl v16
  refine ⟨_, [(q10, p10), (q12, p12), (q13, p13), (q16, p16)], spLaw [(q10, p10), (q12, p12), (q13, p13), (q16, p16)] K, fun p hp => ?_, fun s v => .of_eq rfl, fun base _ _ TB => ok_law (P := l.prog) (w := w) (K := K) (mg := mg) (base := base) D0 ?_, fun H a ns hl hH hS => ⟨a, ns, rfl, hH, hS, hl, fun H' h => ⟨rfl, h⟩⟩⟩
  · simp only [List.mem_cons, List.not_mem_nil, or_false] at hp
    rcases hp with rfl | rfl | rfl | rfl
    · exact ⟨O10.1, n10, O10.2⟩
    · exact ⟨O12.1, n12, O12.2⟩
    · exact ⟨O13.1, n13, O13.2⟩
    · exact ⟨O16.1, n16, O16.2⟩
  exact ⟨f1, _, D1, f2, _, D2, f3, _, D3, f4, _, D4, f5, _, D5, f6, _, D6, f7, _, D7, f8, _, D8, f9, _, D9, f10, _, q10, p10, ⟨D10, rfl, TB (q10, p10) (by simp)⟩, by simp, f11, _, D11, f12, _, q12, p12, ⟨D12, rfl, TB (q12, p12) (by simp)⟩, by simp, f13, _, q13, p13, ⟨D13, rfl, TB (q13, p13) (by simp)⟩, by simp, f14, _, D14, f15, _, D15, f16, _, q16, p16, ⟨D16, rfl, TB (q16, p16) (by simp)⟩, by simp,
    kb_rev (ks := ["value", "order"]) F12 (by simp) rfl (fun _ _ _ _ _ _ ws hl => match ws, hl with | [_, _], _ => rfl), kb_rev (ks := ["level", "lot", "order"]) F13 (by simp) rfl (fun _ _ _ _ _ _ ws hl => match ws, hl with | [_, _, _], _ => rfl), kb_rev (ks := ["other", "one"]) F14 (by simp) rfl (fun _ _ _ _ _ _ ws hl => match ws, hl with | [_, _], _ => rfl), kb_rev (ks := ["lot", "order"]) F15 (by simp) rfl (fun _ _ _ _ _ _ ws hl => match ws, hl with | [_, _], _ => rfl), kb_rev (ks := ["other", "one", "order"]) F16 (by simp) rfl (fun _ _ _ _ _ _ ws hl => match ws, hl with | [_, _, _], _ => rfl),
    PySem.W.mg_none_of X G z_int, PySem.W.mg_none_of X G z_len, PySem.W.mg_none_of X G z_list, PySem.W.mg_none_of X G z_range, PySem.W.mg_none_of X G z_sorted, PySem.W.mg_none_of X G z_tuple, PySem.W.mg_none_of X G z_min, PySem.W.mg_none_of X G z_max, PySem.W.mg_none_of X G z_isinstance, PySem.W.mg_none_of X G z_bool, PySem.W.mg_none_of X G z_all, PySem.W.mg_none_of X G z_abs, PySem.W.mg_none_of X G z_repr, PySem.W.mg_none_of X G z_set⟩
end K02
open PySem PySem.W PyProof.Rows
set_option maxRecDepth 100000 in
set_option maxHeartbeats 0 in
theorem PySem.Challenge.cw_lookalike_k02_lots_and_watchers_holds : PySem.Challenge.rw_lookalike_k02_lots_and_watchers.Holds := by
  w_on; o_law; k_head; (case hw => w_witness2)
  k_fill
  refine Zc.walkGT (l := PySem.Challenge.rw_lookalike_k02_lots_and_watchers) (n := 63) (k := 9) (x := "script") ["is_ascending", "is_lot", "lot_within", "covered"] rfl (by decide) rfl
    ⟨rfl, by decide, by decide⟩ (fun w h Y => PySem.W.kIn_of Y) (by decide +kernel) ?F
  case F =>
    intro w mg fa h KX G hmg own
    refine' K02.all_mk KX G hmg own ?a0 ?l0 ?c0 ?k0 ?a1 ?l1 ?c1 ?k1 ?a2 ?l2 ?c2 ?k2 ?a3 ?l3 ?c3 ?k3 ?a4 ?l4 ?c4 ?k4 ?a5 ?l5 ?c5 ?k5 ?a6 ?l6 ?c6 ?k6 ?a7 ?l7 ?c7 ?k7 ?a8 ?l8 ?c8 ?k8 ?a9 ?l9 ?c9 ?k9 ?a10 ?l10 ?c10 ?k10 ?a11 ?l11 ?c11 ?k11 ?a12 ?l12 ?c12 ?k12 ?a13 ?l13 ?c13 ?k13 ?a14 ?l14 ?c14 ?k14 ?a15 ?l15 ?c15 ?k15 ?a16 ?l16 ?c16 ?k16 ?z_int ?z_len ?z_list ?z_range ?z_sorted ?z_tuple ?z_min ?z_max ?z_isinstance ?z_bool ?z_all ?z_abs ?z_repr ?z_set ?r10 ?w10 ?v10 ?n10 ?r12 ?w12 ?v12 ?n12 ?r13 ?w13 ?v13 ?n13 ?r16 ?w16 ?v16 ?n16
    (case a0 => k_is)
    (case l0 => k_is)
    (case c0 => k_is)
    (case k0 => k_is)
    (case a1 => k_is)
    (case l1 => k_is)
    (case c1 => k_is)
    (case k1 => k_is)
    (case a2 => k_is)
    (case l2 => k_is)
    (case c2 => k_is)
    (case k2 => k_is)
    (case a3 => k_is)
    (case l3 => k_is)
    (case c3 => k_is)
    (case k3 => k_is)
    (case a4 => k_is)
    (case l4 => k_is)
    (case c4 => k_is)
    (case k4 => k_is)
    (case a5 => k_is)
    (case l5 => k_is)
    (case c5 => k_is)
    (case k5 => k_is)
    (case a6 => k_is)
    (case l6 => k_is)
    (case c6 => k_is)
    (case k6 => k_is)
    (case a7 => k_is)
    (case l7 => k_is)
    (case c7 => k_is)
    (case k7 => k_is)
    (case a8 => k_is)
    (case l8 => k_is)
    (case c8 => k_is)
    (case k8 => k_is)
    (case a9 => k_is)
    (case l9 => k_is)
    (case c9 => k_is)
    (case k9 => k_is)
    (case a10 => k_is)
    (case l10 => k_is)
    (case c10 => k_is)
    (case k10 => k_is)
    (case a11 => k_is)
    (case l11 => k_is)
    (case c11 => k_is)
    (case k11 => k_is)
    (case a12 => k_is)
    (case l12 => k_is)
    (case c12 => k_is)
    (case k12 => k_is)
    (case a13 => k_is)
    (case l13 => k_is)
    (case c13 => k_is)
    (case k13 => k_is)
    (case a14 => k_is)
    (case l14 => k_is)
    (case c14 => k_is)
    (case k14 => k_is)
    (case a15 => k_is)
    (case l15 => k_is)
    (case c15 => k_is)
    (case k15 => k_is)
    (case a16 => k_is)
    (case l16 => k_is)
    (case c16 => k_is)
    (case k16 => k_is)
    (case z_int => k_is)
    (case z_len => k_is)
    (case z_list => k_is)
    (case z_range => k_is)
    (case z_sorted => k_is)
    (case z_tuple => k_is)
    (case z_min => k_is)
    (case z_max => k_is)
    (case z_isinstance => k_is)
    (case z_bool => k_is)
    (case z_all => k_is)
    (case z_abs => k_is)
    (case z_repr => k_is)
    (case z_set => k_is)
    (case r10 => rfl)
    (case w10 => k_is)
    (case v10 => first | rfl | k_is)
    (case n10 => first | k_is | rfl)
    (case r12 => rfl)
    (case w12 => k_is)
    (case v12 => first | rfl | k_is)
    (case n12 => first | k_is | rfl)
    (case r13 => rfl)
    (case w13 => k_is)
    (case v13 => first | rfl | k_is)
    (case n13 => first | k_is | rfl)
    (case r16 => rfl)
    (case w16 => k_is)
    (case v16 => first | rfl | k_is)
    (case n16 => first | k_is | rfl)
end
