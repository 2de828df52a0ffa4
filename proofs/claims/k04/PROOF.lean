import PyProof.Rows.All
import Wide.All
import OpenK.AllK
import Wide.FinOn
import HandS.ForMost
import HandS.Wide
import HandS.IsInst
import HandS.CallLocal
import HandS.Evl
import HandS.Style
import HandS.Iter
import HandS.Walk
import HandS.Deep
import HandS.AnyAll
import HandS.GenOver
import HandS.GenList
import HandS.EndTab
import HandS.TupMul
import HandS.TupAny
import HandS.TupLe
import HandS.RaiseMore
import HandS.SortInts
import HandS.Conv
import PySem.Challenge.RW_lookalike_k04_records_and_what_is_seen
set_option Elab.async false
set_option linter.all false
set_option maxRecDepth 100000
section
set_option maxHeartbeats 4000000
/-! What every law of this program wants: a law's def where nothing is being shown, repr of data, calls by keywords alone. -/
namespace Zc
open PySem PySem.Spec PyProof.Rows L2

section
variable {P : Program} {w : World} {K : PySem.W.Frag} {mg : Str → Option Value} {base : Heap}

/-- a def's promise, kept wherever no repr runs around the call -/
structure FnG (P : Program) (w : World) (K : PySem.W.Frag) (mg : Str → Option Value)
    (base : Heap) (k : Nat) (f : Addr) (fd : FuncData) (ps : List Str) (sp : Sp) : Prop where
  len : ∀ vs H Q E, sp vs H Q E → vs.length = ps.length
  run : ∀ (A : Around) (outer : List Env) (s : Shared) (H : Hp) (args : Args)
    (us : List Value) (vs : List V) (Q : VK) (E : XK), Room k A → A.guards = some [] →
    Env0 P w K mg base A outer s H → BindsTo s fd args (ps.zip us) → Vals vs us → sp vs H Q E →
    codeAny (model P w) A (.call (.ref f) args) (CR CX0 outer P w H s Q E) s

/-- the rule for such a def -/
theorem fnG_ok {x qual : Str} {st : Stmt} {f : Addr} {fd : FuncData} {N ps : List Str} {k : Nat} {sp : Sp}
    (F : Fun K x qual st f fd) (S : FnScope N ps (defScope st))
    (len : ∀ vs H Q E, sp vs H Q E → vs.length = ps.length)
    (body : ∀ (cdv : Value) (A : Around) (outer : List Env) (s : Shared) (H : Hp) (vs : List V) (Q : VK) (E : XK),
      Room k (A.deeper (envOfC qual (defScope st) s.heap.objs.size f cdv)) → A.guards = some [] → sp vs H Q E →
      ∃ t, PSs (cxOf CX0 P w K mg base N qual (defScope st) f cdv A outer s H E).nox (defBody st) t ∧
        t { nx := fun _ H' => Q .non H', rt := Q } (start N vs) H) :
    FnG P w K mg base (k + 1) f fd ps sp := by
  obtain ⟨oc, od, kV, doc, pm, an, cdv, ct, osl, rfl, lk, hcd⟩ := F.ex
  constructor
  · exact len
  intro A outer s H args us vs Q E hr hg e0 hb r hsp
  have l0 := len _ _ _ _ hsp
  have kin : K.In s.heap :=
    e0.mod.kin.keeps fun b o e => (e0.bs b o e).1
  have nolim : s.heap.NoLimit :=
    e0.mod.nolimit.keeps fun b o e => (e0.bs b o e).1
  have kinds : ∀ y ∈ ps.zip us, (defScope st).names.lookup y.1 = some .local ∨
      ((defScope st).names.lookup y.1 = some .cell ∧
        ((cellsFrom (s.heap.objs.size + 1) (defScope st).names []).lookup y.1).isSome = true) := by
    rintro ⟨n, v⟩ hy
    cases S.par n (List.of_mem_zip hy).1 with
    | inl q => exact Or.inl q
    | inr q => exact Or.inr ⟨q, PySem.W.cellsFrom_some _ _ _ (Or.inl q)⟩
  apply codeAny_call_function hr.depth (kin _ _ lk) rfl S.co S.gen rfl (PySem.W.codeRec_of kin hcd)
    (hb _ _ _ _ ?_)
  apply wpAny_newFunctionEnv_cells S.kind kinds
  intro env he s1 x
  subst he
  refine And.intro (nolim.keeps x.toInCall.keep) (codeAny_func ?_)
  obtain ⟨t, ht, hq⟩ := body cdv A outer s H vs Q E (hr.deeper _) hg hsp
  have J : Inv (cxOf CX0 P w K mg base N qual (defScope st) f cdv A outer s H E) [] (start N vs) H s1 :=
    inv_start S hr.hd e0 l0 r x
  apply wpAny_mono (ht.nox.run [] s1 (start N vs) H _ J hq)
  · intro fl s' hs
    have fin : ∀ {σ' : L2.St} {H' : Hp} {v : V} {u : Value},
        Inv (cxOf CX0 P w K mg base N qual (defScope st) f cdv A outer s H E) [] σ' H' s' →
        RelV v u → Q v H' → CE outer P w H s Q u s' := by
      intro σ' H' v u J' rv q
      exact ⟨v, H', J'.os, J'.bare, J'.base, J'.hok, rv, q⟩
    match fl, hs with
    | .ret u, hs =>
      obtain ⟨v, σ', H', J', rv, q⟩ := hs
      exact fin J' rv q
    | .next, hs =>
      obtain ⟨σ', H', J', q⟩ := hs
      exact fin (v := V.non) (u := Value.none) J' rfl q
    | .brk, hs =>
      obtain ⟨_, _, _, q⟩ := hs
      exact q.elim
    | .cont, hs =>
      obtain ⟨_, _, _, q⟩ := hs
      exact q.elim
  · intro e s' hs
    exact hs

/-- a law's call, from such a promise -/
theorem callG {mb : Str → Option Value} {k : Nat} {fa a : Addr} {fd : FuncData} {x : Str} {sp : Sp}
    {s₁ : Shared} {vs : List Value} {ns : List Int}
    (KX : K.In s₁.heap) (gl : s₁.heap.Ns mainGlobals mg) (bn : s₁.heap.Ns builtinsNs mb)
    (bb : ∀ x : Str, x ≠ "__name__" → mb x = bootBuiltins x)
    (lim : s₁.heap.NoLimit) (gens : s₁.gens = #[])
    (ha : s₁.heap.get? a = some { cls := .type "list", data := .seq vs.toArray })
    (hi : IntsAre vs ns) (hl : ns.length ≤ sizeLine) (hr : Room k callerA)
    (F : ∀ base : Heap, K.In base → base.Ns mainGlobals mg → FnG P w K mg base k fa fd [x] sp)
    (bind : ∀ (s : Shared) (u : Value), BindsTo s fd ⟨[u], []⟩ [(x, u)])
    (hsp : ∀ H : Hp, SqL K H a (ns.map V.int) → sp [.ref a] H (fun v _ => v = .bl true) fun _ _ _ => False) :
    codeAny (model P w) callerA (.call (.ref fa) ⟨[.ref a], []⟩)
      (fun r s' => r = .ok (.ret (.bool true)) ∧ OldK s₁.heap s'.heap ∧ s'.os = s₁.os ∧ AllBare s'.gens) s₁ := by
  have rv := vals_ints hi
  have lv := hi.length
  have main : ∀ H : Hp, Only H → SqL K H a (ns.map V.int) → HOk P w H s₁.heap →
      (∀ b, H b ≠ none → b = a) → (H a ≠ none → K.lookup a = none) →
      codeAny (model P w) callerA (.call (.ref fa) ⟨[.ref a], []⟩)
        (fun r s' => r = .ok (.ret (.bool true)) ∧ OldK s₁.heap s'.heap ∧ s'.os = s₁.os ∧ AllBare s'.gens) s₁ := by
    intro H only hS ok one away
    have offA : ∀ {b : Addr} {u : HO}, H b = some u → b = a := fun {b u} q =>
      one b (by rw [q]; intro z; cases z)
    have dictFree : ∀ {b : Addr} {o : Obj} {es : Array DictEntry} {ep : Nat},
        s₁.heap.get? b = some o → o.data = .dict es ep → H b = none := by
      intro b o es ep e d
      match q : H b with
      | none => rfl
      | some u =>
        have z := offA q
        rw [z, ha] at e
        have e' := Option.some.inj e
        rw [← e'] at d
        have d' : Data.seq vs.toArray _ = Data.dict es ep := d
        exact Data.noConfusion d'
    have nsHid : ∀ {b : Addr} {m : Str → Option Value}, s₁.heap.Ns b m → (hidT s₁.heap H).Ns b m := by
      rintro b m ⟨o, es, ep, e, d, r⟩
      exact ⟨o, es, ep, hidT_get e (dictFree e d), d, r⟩
    have kinHid : K.In (hidT s₁.heap H) := by
      intro b o e
      apply hidT_get (KX b o e)
      match q : H b with
      | none => rfl
      | some u =>
        have z := offA q
        rw [z] at e
        have z2 := away (by rw [← z, q]; intro y; cases y)
        rw [z2] at e
        cases e
    have md : Mod K mg (hidT s₁.heap H) := by
      refine ⟨kinHid, nsHid gl, ⟨mb, nsHid bn, bb⟩, ?_⟩
      obtain ⟨mc, h1, h2⟩ := lim
      exact ⟨mc, nsHid h1, h2⟩
    have e0 : Env0 P w K mg (hidT s₁.heap H) callerA [] s₁ H := by
      refine ⟨rfl, md, fun b o e => of_hidT e, Nat.le_of_eq (hidT_size _ _), trivial, ?_, ok, .of_eq gens⟩
      intro b hb
      exact absurd (show b ∈ ([] : List Addr) from hb) List.not_mem_nil
    have run := (F _ kinHid (nsHid gl)).run callerA [] s₁ H ⟨[.ref a], []⟩ [.ref a] [.ref a] _ _ hr rfl e0
      (bind s₁ (.ref a)) (.cons rfl .nil) (hsp H hS)
    apply codeAny_mono run
    intro r s' h
    match r, h with
    | .error e, h => exact False.elim h
    | .ok .next, h => exact False.elim h
    | .ok .brk, h => exact False.elim h
    | .ok .cont, h => exact False.elim h
    | .ok (.ret u), h =>
      obtain ⟨v, H', os, bare, un, ok', r', q⟩ := h
      have q' : v = .bl true := q
      subst q'
      have r2 : u = Value.bool true := r'
      subst r2
      refine ⟨rfl, OldK.of_keep ?_, os, bare⟩
      intro b o e
      match q : H b with
      | none => exact un.keep b o e q (fun z => absurd (show b ∈ ([] : List Addr) from z) List.not_mem_nil) List.not_mem_nil
      | some u =>
        cases only b with
        | inl z =>
          rw [q] at z
          cases z
        | inr z =>
          obtain ⟨ob, xs, z⟩ := z
          obtain ⟨e1, _⟩ := ok b _ z
          obtain ⟨e2, _⟩ := ok' b _ (un.frzs b ob _ z)
          rw [e] at e1
          rw [Option.some.inj e1]
          exact e2
  match hk : K.lookup a with
  | some o =>
    have e := KX a o hk
    rw [ha] at e
    have e' := Option.some.inj e
    subst e'
    apply main (fun _ => none)
    · intro b
      exact Or.inl rfl
    · exact Or.inr ⟨_, vs.toArray, _, hk, rfl, rfl, rfl, by rw [List.size_toArray, lv]; exact hl, by simpa using rv⟩
    · intro b u z
      have z' : (none : Option HO) = some u := z
      cases z'
    · intro b z
      exact absurd rfl z
    · intro z
      exact absurd rfl z
  | none =>
    have yes : ∀ {b : Addr}, b = a → (fun b => if b = a then some (HO.frz { cls := .type "list", data := .seq vs.toArray } (.lst (ns.map V.int))) else none : Hp) b
        = some (HO.frz { cls := .type "list", data := .seq vs.toArray } (.lst (ns.map V.int))) := fun h => if_pos h
    have no : ∀ {b : Addr}, ¬ b = a → (fun b => if b = a then some (HO.frz { cls := .type "list", data := .seq vs.toArray } (.lst (ns.map V.int))) else none : Hp) b = none := fun h => if_neg h
    apply main (fun b => if b = a then some (HO.frz { cls := .type "list", data := .seq vs.toArray } (.lst (ns.map V.int))) else none)
    · intro b
      by_cases hb : b = a
      · exact Or.inr ⟨_, _, yes hb⟩
      · exact Or.inl (no hb)
    · exact Or.inl (Or.inr ⟨_, yes rfl⟩)
    · intro b u z
      by_cases hb : b = a
      · have z' := (yes hb).symm.trans z
        have z2 := Option.some.inj z'
        subst z2
        subst hb
        exact ⟨ha, by rw [List.length_map]; exact hl, vs, _, rv, ha⟩
      · have z' := (no hb).symm.trans z
        cases z'
    · intro b z
      by_cases hb : b = a
      · exact hb
      · exact absurd (no hb) z
    · intro _
      exact hk
end

/-- the goal that the head leaves, from such a promise -/
theorem walkG {l : PySem.W.OpenLaw} {n k : Nat} {q : Program} {loose : List Str}
    {XP : (Str → Option Value) → Heap → Prop} {YP : World → Heap → Prop} {d : DefRec}
    {K : Params → PySem.W.Frag} {sp : PySem.W.Frag → Sp} {x : Str}
    (hn : l.most = some n) (hn2 : n ≤ sizeLine) (hdf : d.params.defaults = []) (hr : Room k callerA)
    (hY : ∀ (w : World) (h : Heap), YP w h → (K w.params).In h)
    (F : ∀ (w : World) (mg : Str → Option Value) (fa : Addr) (h : Heap), (K w.params).In h → h.Ns mainGlobals mg →
      mg d.name = some (.ref fa) →
      ∃ fd : FuncData, (∀ (s : Shared) (u : Value), BindsTo s fd ⟨[u], []⟩ [(x, u)]) ∧
        ∀ base : Heap, (K w.params).In base → base.Ns mainGlobals mg →
          FnG l.prog w (K w.params) mg base k fa fd [x] (sp (K w.params)))
    (hsp : ∀ (K : PySem.W.Frag) (H : Hp) (a : Addr) (ns : List Int), ns.length ≤ n → SqL K H a (ns.map V.int) →
      sp K [.ref a] H (fun v _ => v = .bl true) fun _ _ _ => False) :
    PySem.W.WalkO q loose XP YP l.row.toRowW d [] (fun f vs => PySem.call f vs) := by
  apply Att.attach_call hn hdf
  intro w s₀ s₁ mg mb fa o pm cd doc a vs ns G Y ho hd hcd hmg hobj hints hlen hg
  have kx := hY w _ Y
  obtain ⟨fd, hb, hF⟩ := F w mg fa _ kx G.T.g hmg
  exact callG kx G.T.g G.T.b G.T.builtins G.T.nolimit hg hobj hints (Nat.le_trans hlen hn2) hr hF hb
    (fun H hS => hsp (K w.params) H a ns hlen hS)

section
variable {X : Cx}
/-- repr of data: what Python shows of it -/
theorem call_repr_D (hg : X.A.guards = some []) (hu : X.A.units + 64 < cLine) : CallR X (.builtin "repr")
    (fun xs H Q => ∃ v d, xs = [v] ∧ isDisplay d = true ∧ Dp X.K H v d ∧ d.showable = true ∧ d.hasDict = false ∧ d.depth < 40 ∧ d.shown.length ≤ sizeLine ∧ Q (.str d.shown) H) := by
  intro pins s σ H xs us Q I r h
  obtain ⟨v, d, rfl, hdsp, hD, hsh, hnd, hdp, hsz, q⟩ := h
  obtain ⟨u, rfl, ru⟩ := vals1 r
  obtain ⟨as, rd⟩ := Dp.reads I d v u hD ru
  obtain ⟨a, rfl⟩ := isRef_of_reads rd hdsp
  refine repr_of_reads' rd hsh (PyData.noDict_hsm hnd) hg (by omega) (fun _ _ e => e) (fun h' u tk hk => ?_) hsz
  exact ⟨.str d.shown, H, I.kept hk, ⟨_, rfl⟩, q⟩

/-- f(k = v, ..), no value without a name -/
theorem pe_callKw {CX : CXT} {k : Nat} {f : Addr} {fd : FuncData} {ps ks : List Str} {sp : Sp} {E : XK} {x : Str} {p pos : Pos}
    {kws : List Keyword} {tk : TA} {g : List Value → List Value → List Value} {gV : List V → List V → List V}
    (F : FnOk X.prog X.w X.K X.mg X.base CX k f fd ps sp) (hr : Room k X.A) (hg : Gl X x) (hm : X.mg x = some (.ref f))
    (hk : PySem.W.keepIn X.K (.ref f) = true) (hb : KBinds X.K fd ps ks g gV) (hx : Passes CX X E) (hkw : PK X kws tk)
    (hall : (backToKw pos (keywordEach kws X.env)).all (·.1.isSome) = true := by rfl)
    (hks : (backToKw pos (keywordEach kws X.env)).filterMap (·.1) = ks := by rfl)
    (hdb : (x == ("__debug__" : Str)) = false := by decide)
    (hpl : ((backTo pos (starEach [] X.env)).any (·.1) || (backToKw pos (keywordEach kws X.env)).any (·.1.isNone)) = false := by rfl) :
    PE X (.Call (.Name x p) [] kws pos) (tCallK sp gV E tNil tk) := by
  constructor
  intro pins s σ H Q I h
  apply wpAny_Call_Name_kw (ld_glob I hg hm ?_ hdb)
  apply PySem.W.callWith_KW0 (h₀ := X.base) I.ok.mod.kin hk hall ?_ hpl
  apply thn (hkw.run pos pins s σ H _ I h)
  rintro ws s2 ⟨zs, H2, I2, rz, q2⟩
  refine ⟨I2.kIn, ?_⟩
  rw [hks]
  exact run_fnk (us := []) (vs := []) F hr hb hx I2 .nil rz q2
end
end Zc
end

section
set_option maxHeartbeats 1000000
/-! The deal from which every law of this program draws: what it holds, and that a draw is some number below its bound. -/
namespace Zc
open PySem PySem.Spec PyProof.Rows L2

/-- a def of the text: where it stands, by what name, how its arguments bind -/
structure At (K : PySem.W.Frag) (mg : Str → Option Value) (x : Str) (st : Stmt) (ps : List Str) (f : Addr) (fd : FuncData) : Prop where
  F : Fun K x x st f fd
  g : mg x = some (.ref f)
  b : Binds K fd ps []

/-- a deal at d, its list at l -/
def Deal (H : Hp) (d l : Addr) : Prop := ∃ (xs : List Int) (b : Int), d ≠ l ∧ H d = some (.lst [.ref l, .int b]) ∧
  H l = some (.lst (xs.map V.int)) ∧ xs.length ≤ 48 ∧ (∀ x ∈ xs, 0 ≤ x) ∧ 0 ≤ b ∧ b < 2147483647
/-- all that was tracked beside the deal is as it was -/
def But (d l : Addr) (H H' : Hp) : Prop := ∀ b o, b ≠ d → b ≠ l → H b = some o → H' b = some o
theorem But.refl (d l : Addr) (H : Hp) : But d l H H := fun _ _ _ _ h => h
theorem But.trans {d l : Addr} {H H1 H2 : Hp} (a : But d l H H1) (b : But d l H1 H2) : But d l H H2 :=
  fun c o n1 n2 h => b c o n1 n2 (a c o n1 n2 h)
theorem But.of {d l : Addr} {H H' : Hp} (a : Same H H') : But d l H H' := fun c o _ _ h => a c o h
theorem But.updD {d l : Addr} {H H' : Hp} {o : HO} (a : But d l H H') : But d l H (upd H' d o) := fun c u n1 n2 h => by
  rw [upd_ne n1]
  exact a c u n1 n2 h
theorem But.updL {d l : Addr} {H H' : Hp} {o : HO} (a : But d l H H') : But d l H (upd H' l o) := fun c u n1 n2 h => by
  rw [upd_ne n2]
  exact a c u n1 n2 h
theorem same_new {H : Hp} {p : Addr} {o : HO} (h : H p = none) : Same H (upd H p o) := fun b x e => by
  rw [upd_ne (ne_of_none e h)]
  exact e

/-! ### lists of ints as data -/
theorem dp_ints {K : PySem.W.Frag} {H : Hp} : ∀ ns : List Int, DpAll K H (ns.map V.int) (ns.map PyData.int)
  | [] => .nil
  | n :: r => .cons (.int n) (dp_ints r)
theorem can_ints : ∀ ns : List Int, PyData.canLayAll0 (ns.map PyData.int) = true
  | [] => by simp [PyData.canLayAll0]
  | n :: r => by simp [PyData.canLayAll0, PyData.canLay0, can_ints r]
theorem depth_ints : ∀ ns : List Int, PyData.depthAll (ns.map PyData.int) = 0
  | [] => by simp [PyData.depthAll]
  | n :: r => by simp [PyData.depthAll, PyData.depth, depth_ints r]
theorem shaped_ints (ns : List Int) : SeqAt.shaped (.list (ns.map PyData.int)) = true := by
  simp [SeqAt.shaped, PyData.canLay0, can_ints, PyData.depth, depth_ints]
theorem eqv_nil (ns : List Int) : PyData.eqv (.list (ns.map PyData.int)) (.list []) = ns.isEmpty := by
  cases ns <;> simp [PyData.eqv, PyData.eqvAll]
theorem shaped_nil : SeqAt.shaped (.list []) = true := by decide +kernel
theorem ne_nil_read {K : PySem.W.Frag} {H : Hp} {l p : Addr} {ns : List Int} {Q : VK} (h : SqL K H l (ns.map V.int)) (hp : SqL K H p [])
    (q : Q (.bl (!ns.isEmpty)) H) : rNeD K (.ref l) (.ref p) H Q := by
  refine ⟨.list (ns.map .int), .list [], .lst h (dp_ints ns), .lst hp .nil, shaped_ints ns, shaped_nil, ?_⟩
  rw [eqv_nil]
  exact q

theorem snoc_cases (xs : List Int) : xs = [] ∨ ∃ ys z, xs = ys ++ [z] := by
  cases xs with
  | nil => exact .inl rfl
  | cons x r => exact .inr ⟨_, _, (List.dropLast_concat_getLast (List.cons_ne_nil x r)).symm⟩
theorem snoc_map (ys : List Int) (z : Int) : (ys ++ [z]).map V.int = ys.map V.int ++ [V.int z] := by
  rw [List.map_append]
  rfl
theorem snoc_len (ys : List Int) (z : Int) : (ys ++ [z]).length = ys.length + 1 := by
  rw [List.length_append]
  rfl
theorem snoc_last (ys : List V) (z : V) : (ys ++ [z])[(ys ++ [z]).length - 1]? = some z := by
  rw [List.length_append]
  simp
theorem snoc_ne (ys : List Int) (z : Int) : (!(ys ++ [z]).isEmpty) = true := by
  cases ys <;> rfl
theorem iteTe {c : Bool} {A B : Prop} (e : c = true) (h : A) : if c = true then A else B := by
  rw [if_pos e]
  exact h
theorem iteFe {c : Bool} {A B : Prop} (e : c = false) (h : B) : if c = true then A else B := by
  rw [if_neg (by rw [e]; exact Bool.false_ne_true)]
  exact h
/-- the deal's list after a change of it -/
theorem Deal.list {H : Hp} {d l : Addr} {b : Int} {xs : List Int} (ndl : d ≠ l) (hd : H d = some (.lst [.ref l, .int b])) (hlen : xs.length ≤ 48)
    (hpos : ∀ x ∈ xs, 0 ≤ x) (b0 : 0 ≤ b) (b1 : b < 2147483647) : Deal (upd H l (.lst (xs.map V.int))) d l :=
  ⟨xs, b, ndl, by rw [upd_ne ndl]; exact hd, upd_same, hlen, hpos, b0, b1⟩
theorem Deal.num {H : Hp} {d l : Addr} {b : Int} {xs : List Int} (ndl : d ≠ l) (hl : H l = some (.lst (xs.map V.int))) (hlen : xs.length ≤ 48)
    (hpos : ∀ x ∈ xs, 0 ≤ x) (b0 : 0 ≤ b) (b1 : b < 2147483647) : Deal (upd H d (.lst [.ref l, .int b])) d l :=
  ⟨xs, b, ndl, upd_same, by rw [upd_ne (fun e => ndl e.symm)]; exact hl, hlen, hpos, b0, b1⟩

/-! ### the promises -/
def spAny : Sp := fun vs H Q _ => ∃ (d l : Addr) (n : Int), vs = [.ref d, .int n] ∧ Deal H d l ∧ 0 < n ∧ n < 2 ^ 64 ∧
  ∀ (r : Int) (H' : Hp), 0 ≤ r → r < n → Deal H' d l → But d l H H' → Q (.int r) H'
def spDraw (K : PySem.W.Frag) : Sp := fun vs H Q _ => ∃ (a : Addr) (ns : List Int) (z : Int), vs = [.ref a, .int z] ∧ SqL K H a (ns.map V.int) ∧
  ns.length ≤ 63 ∧ 0 ≤ z ∧ z ≤ 100 ∧ ∀ (d l : Addr) (H' : Hp), H d = none → H l = none → Deal H' d l → Same H H' → Q (.ref d) H'
def spOf (K : PySem.W.Frag) : Sp := fun vs H Q _ => ∃ (d l a : Addr) (xs : List V), vs = [.ref d, .ref a] ∧ Deal H d l ∧
  (∀ H', But d l H H' → SqL K H' a xs) ∧ 0 < xs.length ∧ xs.length ≤ 1000 ∧
  ∀ (i : Nat) (x : V) (H' : Hp), xs[i]? = some x → Deal H' d l → But d l H H' → Q x H'
theorem map_at {ns : List Int} {i : Nat} {x : V} (h : (ns.map V.int)[i]? = some x) : ∃ n, ns[i]? = some n ∧ x = .int n := by
  rw [List.getElem?_map] at h
  cases e : ns[i]? with
  | none =>
    rw [e] at h
    cases h
  | some n =>
    rw [e] at h
    exact ⟨n, rfl, (Option.some.inj h).symm⟩
theorem cut_ints (ns : List Int) (hi : Int) : ∃ ms : List Int, cutV (ns.map V.int) none (some hi) = ms.map V.int ∧ ms.length ≤ ns.length := by
  refine ⟨(ns.drop (HT.sIx ns.length 0 none)).take (HT.sIx ns.length ns.length (some hi) - HT.sIx ns.length 0 none), ?_, ?_⟩
  · unfold cutV
    rw [List.length_map, List.map_take, List.map_drop]
  · rw [List.length_take, List.length_drop]
    omega
theorem cut48 (ns : List Int) : ∃ ms : List Int, cutV (ns.map V.int) none (some 48) = ms.map V.int ∧ ms.length ≤ 48 := by
  refine ⟨ns.take 48, ?_, by rw [List.length_take]; omega⟩
  unfold cutV
  rw [HT.sIx_none, show HT.sIx (ns.map V.int).length (ns.map V.int).length (some 48) = min 48 (ns.map V.int).length from HT.sIx_nat _ _ 48, List.drop_zero, Nat.sub_zero, List.length_map, List.map_take]
  by_cases h : 48 ≤ ns.length
  · rw [Nat.min_eq_left h]
  · rw [Nat.min_eq_right (by omega), List.take_of_length_le (by rw [List.length_map]; omega), List.take_of_length_le (by rw [List.length_map]; omega)]
/-! ### calls by keywords alone, the last parameter's first -/
def revK {α : Type} : List α → List α → List α
  | [], ws => ws.reverse
  | _ :: _, _ => []
theorem kb_rev {K : PySem.W.Frag} {x qual : Str} {st : Stmt} {f : Addr} {fd : FuncData} {ps ks : List Str} (F : Fun K x qual st f fd) (hp : ps ≠ []) (hk : ks.length = ps.length)
    (h : ∀ (kV doc pm : Value) (an : Option Addr) (cdv ct : Value) (ws : List Value), ws.length = ks.length →
      bindArgs (PySem.W.fnOf x qual (defArgs st) (defBody st) (defScope st) .none kV doc pm an cdv ct) ⟨[], ks.zip ws⟩ = pure (ps.zip ws.reverse)) :
    KBinds K fd ps ks revK revK := by
  obtain ⟨oc, od, kV, doc, pm, an, cdv, ct, osl, rfl, lk, hcd⟩ := F.ex
  constructor
  · intro s us ws _ hl
    cases us with
    | cons u r =>
      exact absurd (List.eq_nil_of_length_eq_zero hl.symm) hp
    | nil =>
      have hl' : ws.reverse.length = ps.length := hl
      rw [List.length_reverse] at hl'
      exact .of_eq (h kV doc pm an cdv ct ws (hl'.trans hk.symm))
  · intro vs us zs ws r1 r2
    cases r1 with
    | nil => exact r2.reverse
    | cons _ _ => exact .nil
end Zc
end

section
set_option maxHeartbeats 2000000
/-! enumerate of a text: its signs, each in a new pair with its place. -/
namespace Zc
open PySem PySem.Spec PyProof.Rows L2
def Its2 (z : Str) : It :=
  ⟨fun i _ => i < z.cps.size,
   fun i H v H' => ∃ T c, v = .ref T ∧ H T = none ∧ z.cps[i]? = some c ∧ H' = upd H T (.tup [.int (i : Nat), .str ⟨#[c]⟩]),
   fun i _ => z.cps.size ≤ i⟩
theorem draws_of {prog : Program} {w : World} {A : Around} (hh : A.handled = none) (it : Addr) (z : Str) (t : Tok) :
    Draws prog w A it [it] z.cps.size (fun i v => ∃ c u, z.cps[i]? = some c ∧ v = .str ⟨#[c]⟩ u) (fun i h => h.IsStrIter it (strIterType z) z t i) := by
  cases ha : z.cps.all (· < 128) with
  | true =>
    have e : strIterType z = "str_ascii_iterator" := by simp [strIterType, ha]
    rw [e]
    exact Draws.strAscii hh it z t
  | false =>
    have e : strIterType z = "str_iterator" := by simp [strIterType, ha]
    rw [e]
    exact Draws.strWide hh it z t
theorem turn_enumS {P : Program} {w : World} {K : PySem.W.Frag} {elts : List Expr} {kk : Nat} {tpos : Pos} (z : Str) (t : Tok) (e it : Addr) (hne : e ≠ it) :
    Turn P w K (.Tuple elts kk tpos) (Its2 z) [e, it] e (fun i h => (∃ old, IsEnum h e it ((i : Nat) : Int) old) ∧ h.IsStrIter it (strIterType z) z t i) where
  mem := List.mem_cons_self
  obj := by
    rintro i h ⟨⟨old, he⟩, ⟨o, ho, _, hd⟩⟩ b hb
    rcases List.mem_cons.mp hb with rfl | hb
    · refine ⟨_, he, ?_⟩
      intro v q
      cases q
    · rw [List.mem_singleton.mp hb]
      refine ⟨o, ho, ?_⟩
      intro v q
      rw [hd] at q
      cases q
  keep := by
    rintro i h h' ⟨⟨old, he⟩, ⟨o, ho, r⟩⟩ k
    exact ⟨⟨old, k e List.mem_cons_self _ he⟩, ⟨o, k it (by simp) o ho, r⟩⟩
  item := by
    intro X hP hw hK hc i pins s σ H E I hf st hg
    subst hP hw hK
    obtain ⟨⟨old, he⟩, hit⟩ := st
    have hel : e < s.heap.objs.size := Heap.lt_size he
    have hil : it < s.heap.objs.size := by
      obtain ⟨_, q, _⟩ := hit
      exact Heap.lt_size q
    have hh : X.A.in1.handled = none := I.ok.hd hc
    refine wpAny_pyNext_enum_itemD (draws_of hh it z t) he hit hg hne (fun q => hne (List.mem_singleton.mp q)) ?_
    intro x h' tk hx ho hit' hT hsz hk
    obtain ⟨c, u, hcx, rfl⟩ := hx
    refine ⟨_, rfl, wpAny_letOwnedTupleGo_enum (s := { s with heap := h', toks := tk + 1 }) ho ?_⟩
    intro h'' he' sb
    have hT2 : h''.get? s.heap.objs.size = some { cls := .type "tuple", data := .seq #[.int i tk, .str ⟨#[c]⟩ u] } :=
      (sb.2 _ (Nat.ne_of_gt hel)).trans hT
    have fresh : ObjOk X.prog X.w (upd H s.heap.objs.size (.tup [.int (i : Nat), .str ⟨#[c]⟩])) h'' s.heap.objs.size (.tup [.int (i : Nat), .str ⟨#[c]⟩]) := by
      refine ⟨by show 2 ≤ sizeLine; decide, [.int i tk, .str ⟨#[c]⟩ u], ?_, ⟨_, hT2, rfl, _, rfl⟩⟩
      exact .cons ⟨_, rfl⟩ (.cons ⟨_, rfl⟩ .nil)
    have J : Inv X pins σ (upd H s.heap.objs.size (.tup [.int (i : Nat), .str ⟨#[c]⟩])) { s with heap := h'', toks := tk + 1 } := by
      refine I.turnedNew (ch := [e, it]) ?_ hf (Nat.le_refl _) fresh
      intro b ob hb q
      have b1 : b ≠ e := fun y => hb (by rw [y]; exact List.mem_cons_self)
      have b2 : b ≠ it := fun y => hb (by rw [y]; exact List.mem_cons_of_mem _ List.mem_cons_self)
      exact (sb.2 b b1).trans (hk b ob b1 b2 q)
    refine ⟨.ref s.heap.objs.size, _, J, rfl, ⟨_, c, rfl, I.hok.fresh (Nat.le_refl _), hcx, rfl⟩, ⟨⟨.str ⟨#[c]⟩ u, ?_⟩, ?_⟩, ?_⟩
    · rw [show ((i + 1 : Nat) : Int) = (i : Int) + 1 by omega]
      exact he'
    · obtain ⟨o, q, r⟩ := hit'
      exact ⟨o, (sb.2 it (Ne.symm hne)).trans q, r⟩
    · intro b hb
      have lt : b < s.heap.objs.size := by
        rcases List.mem_cons.mp hb with y | y
        · rw [y]
          exact hel
        · rw [List.mem_singleton.mp y]
          exact hil
      rw [upd_ne (Nat.ne_of_lt lt)]
      exact (hf b hb).1
  done := by
    intro X hP hw hK hc i pins s σ H E I hf st hg
    subst hP hw hK
    obtain ⟨⟨old, he⟩, hit⟩ := st
    have hh : X.A.in1.handled = none := I.ok.hd hc
    obtain ⟨f0, f1, f2, f3, f4, f5⟩ := hf it (by simp)
    have D := draws_of (prog := X.prog) (w := X.w) hh it z t
    have D2 : Draws X.prog X.w X.A.in1 it [it] z.cps.size (fun i v => ∃ c u, z.cps[i]? = some c ∧ v = .str ⟨#[c]⟩ u) (fun j h => h.IsStrIter it (strIterType z) z t i ∧ j = z.cps.size ∨ h.IsStrIter it (strIterType z) z t j) := by
      refine ⟨?_, ?_, ?_, ?_⟩
      · rintro j h (⟨q, _⟩ | q)
        · exact D.live _ _ q
        · exact D.live _ _ q
      · rintro j h h' (⟨q, r⟩ | q) k
        · exact .inl ⟨D.frame _ _ _ q k, r⟩
        · exact .inr (D.frame _ _ _ q k)
      · rintro j s Q E hj (⟨_, r⟩ | q) hQ
        · omega
        · exact D.item j s Q E hj q fun x h' tk a b c => hQ x h' tk a (.inr b) c
      · rintro s Q E (⟨q, _⟩ | q) hE
        · have hx : z.cps[i]? = none := Array.getElem?_eq_none hg
          cases ha : z.cps.all (· < 128) with
          | true =>
            rw [show strIterType z = "str_ascii_iterator" by simp [strIterType, ha]] at q
            exact wpAny_nextOf_ascii_end hh q hx hE
          | false =>
            rw [show strIterType z = "str_iterator" by simp [strIterType, ha]] at q
            exact wpAny_nextOf_wide_end hh q hx hE
        · exact D.done s Q E q hE
    exact wpAny_pyNext_enum_endD D2 he (.inl ⟨hit, rfl⟩) fun h' eb => ⟨rfl, I.turned (t' := s.toks) (fun b o hb q => eb b o hb q) f0 f1 f3 f4 f5⟩
  self := by
    rintro A i s Q E ⟨⟨_, he⟩, _⟩ h
    exact wpAny_pyIter_enum he h
def iEnumS (ta : TA) : TI := fun σ H R => ta σ H fun vs H1 => ∃ z, vs = [.str z] ∧ R (Its2 z) H1
theorem pi_enumS {X : Cx} {e : Expr} {ta : TA} {p pos tpos : Pos} {elts : List Expr} {kk : Nat} (hg : Gl X "enumerate") (hm : X.mg "enumerate" = none) (ha : PA X [e] ta)
    (hs : starEach [e] X.env = [(false, eval e X.env)] := by rfl) : PI X (.Tuple elts kk tpos) (.Call (.Name "enumerate" p) [e] [] pos) (iEnumS ta) := by
  constructor
  intro pins s σ H R I h
  refine Call_ (ld_blt I hg hm boot_enumerate (PyProof.Rows.callWith_type1
    (thn (ha.run pos pins s σ H _ I h) ?_) hs rfl))
  rintro us s1 ⟨vs, H1, I1, r1, z, rfl, q⟩
  obtain ⟨u, rfl, t, rfl⟩ := vals1 r1
  refine call_enumerate_str fun h' he hit hsz hk => wpAny_pyIter_enum he ?_
  have I2 : Inv X pins σ H1 { s1 with heap := h' } := I1.kept (t' := s1.toks) hk
  refine ⟨s1.heap.objs.size + 1, [s1.heap.objs.size + 1, s1.heap.objs.size], _, _, H1, rfl, I2, turn_enumS z t (s1.heap.objs.size + 1) s1.heap.objs.size (Nat.succ_ne_self _), ⟨⟨.none, he⟩, hit⟩, ?_, q⟩
  intro b hb
  have le : s1.heap.objs.size ≤ b := by
    rcases List.mem_cons.mp hb with y | y
    · rw [y]
      exact Nat.le_succ _
    · rw [List.mem_singleton.mp y]
      exact Nat.le_refl _
  exact I1.fpOk le (I1.hok.fresh le)
theorem walk_enumS {z : Str} : Walk (Its2 z) z.cps.size (fun _ => True)
    (fun i H v H' => ∃ T c, v = .ref T ∧ H T = none ∧ z.cps[i]? = some c ∧ H' = upd H T (.tup [.int (i : Nat), .str ⟨#[c]⟩])) :=
  ⟨fun _ _ hi _ => hi, fun _ _ => Nat.le_refl _, fun _ _ _ _ _ _ y => y⟩
end Zc
end

section
set_option maxHeartbeats 1000000
/-! Data of any depth: kept from heap to heap, shown, compared. -/
namespace Zc
open PySem PySem.Spec PyProof.Rows L2
section
variable {K : PySem.W.Frag} {H H' : Hp}
theorem Same.seqT {a : Addr} {xs : List V} (e : Same H H') (h : SqT K H a xs) : SqT K H' a xs := by
  rcases h with (h | ⟨o, h⟩) | h
  · exact .inl (.inl (e _ _ h))
  · exact .inl (.inr ⟨o, e _ _ h⟩)
  · exact .inr h
mutual
theorem dp_same (e : Same H H') : ∀ (d : PyData) (v : V), Dp K H v d → Dp K H' v d
  | .none, _, h => by cases h; exact .non
  | .bool b, _, h => by cases h; exact .bl b
  | .int i, _, h => by cases h; exact .int i
  | .str x, _, h => by cases h; exact .str x
  | .list ds, _, h => by
    cases h with
    | lst hs ha => exact .lst (e.seq hs) (dpAll_same e ds _ ha)
  | .tuple ds, _, h => by
    cases h with
    | tup hs ha => exact .tup (Same.seqT e hs) (dpAll_same e ds _ ha)
  | .dict _, _, h => by cases h
theorem dpAll_same (e : Same H H') : ∀ (ds : List PyData) (vs : List V), DpAll K H vs ds → DpAll K H' vs ds
  | [], _, h => by cases h; exact .nil
  | d :: ds, _, h => by
    cases h with
    | cons h1 h2 => exact .cons (dp_same e d _ h1) (dpAll_same e ds _ h2)
end
theorem Dp.keep {d : PyData} {v : V} (h : Dp K H v d) (e : Same H H') : Dp K H' v d := dp_same e d v h
theorem DpAll.keep {ds : List PyData} {vs : List V} (h : DpAll K H vs ds) (e : Same H H') : DpAll K H' vs ds := dpAll_same e ds vs h
theorem DpAll.len : ∀ {ds : List PyData} {vs : List V}, DpAll K H vs ds → vs.length = ds.length
  | [], _, h => by cases h; rfl
  | d :: ds, _, h => by
    cases h with
    | cons h1 h2 => rw [List.length_cons, List.length_cons, DpAll.len h2]
theorem DpAll.get : ∀ {ds : List PyData} {vs : List V} {i : Nat} {x : V}, DpAll K H vs ds → vs[i]? = some x → ∃ d, ds[i]? = some d ∧ Dp K H x d
  | [], _, i, x, h, e => by cases h; cases e
  | d :: ds, _, 0, x, h, e => by
    cases h with
    | cons h1 h2 =>
      cases e
      exact ⟨d, rfl, h1⟩
  | d :: ds, _, i + 1, x, h, e => by
    cases h with
    | cons h1 h2 => exact DpAll.get (i := i) h2 e
theorem DpAll.at : ∀ {ds : List PyData} {vs : List V} {i : Nat} {d : PyData}, DpAll K H vs ds → ds[i]? = some d → ∃ x, vs[i]? = some x ∧ Dp K H x d
  | [], _, i, x, h, e => by cases e
  | d :: ds, _, 0, x, h, e => by
    cases h with
    | cons h1 h2 =>
      cases e
      exact ⟨_, rfl, h1⟩
  | d :: ds, _, i + 1, x, h, e => by
    cases h with
    | cons h1 h2 => exact DpAll.at (i := i) h2 e
theorem DpAll.app : ∀ {ds es : List PyData} {vs us : List V}, DpAll K H vs ds → DpAll K H us es → DpAll K H (vs ++ us) (ds ++ es)
  | [], es, _, us, h, g => by cases h; exact g
  | d :: ds, es, _, us, h, g => by
    cases h with
    | cons h1 h2 => exact .cons h1 (DpAll.app h2 g)
theorem DpAll.snoc {ds : List PyData} {vs : List V} {d : PyData} {v : V} (h : DpAll K H vs ds) (g : Dp K H v d) : DpAll K H (vs ++ [v]) (ds ++ [d]) := DpAll.app h (.cons g .nil)
theorem DpAll.dropLast : ∀ {ds : List PyData} {vs : List V}, DpAll K H vs ds → DpAll K H vs.dropLast ds.dropLast
  | [], _, h => by cases h; exact .nil
  | [d], _, h => by
    cases h with
    | cons h1 h2 =>
      cases h2
      exact .nil
  | d :: e :: ds, _, h => by
    cases h with
    | cons h1 h2 =>
      cases h2 with
      | cons h3 h4 => exact .cons h1 (DpAll.dropLast (.cons h3 h4))
theorem DpAll.take : ∀ {ds : List PyData} {vs : List V} (k : Nat), DpAll K H vs ds → DpAll K H (vs.take k) (ds.take k)
  | _, _, 0, h => by
    rw [List.take_zero, List.take_zero]
    exact .nil
  | [], _, k + 1, h => by cases h; exact .nil
  | d :: ds, _, k + 1, h => by
    cases h with
    | cons h1 h2 => exact .cons h1 (DpAll.take k h2)
theorem DpAll.drop : ∀ {ds : List PyData} {vs : List V} (k : Nat), DpAll K H vs ds → DpAll K H (vs.drop k) (ds.drop k)
  | _, _, 0, h => h
  | [], _, k + 1, h => by cases h; exact .nil
  | d :: ds, _, k + 1, h => by
    cases h with
    | cons h1 h2 => exact DpAll.drop k h2
theorem dp_strs {α : Type} (g : α → Str) : ∀ ss : List α, DpAll K H (ss.map fun a => V.str (g a)) (ss.map fun a => PyData.str (g a))
  | [] => .nil
  | s :: r => .cons (.str _) (dp_strs g r)
theorem dp_intsG {α : Type} (g : α → Int) : ∀ ss : List α, DpAll K H (ss.map fun a => V.int (g a)) (ss.map fun a => PyData.int (g a))
  | [] => .nil
  | s :: r => .cons (.int _) (dp_intsG g r)
theorem strs_of {α : Type} (g : α → Str) : ∀ (ss : List α) (vs : List V), DpAll K H vs (ss.map fun a => PyData.str (g a)) → vs = ss.map fun a => V.str (g a)
  | [], _, h => by cases h; rfl
  | s :: r, _, h => by
    cases h with
    | cons h1 h2 =>
      cases h1
      rw [strs_of g r _ h2]
      rfl
theorem ints_of {α : Type} (g : α → Int) : ∀ (ss : List α) (vs : List V), DpAll K H vs (ss.map fun a => PyData.int (g a)) → vs = ss.map fun a => V.int (g a)
  | [], _, h => by cases h; rfl
  | s :: r, _, h => by
    cases h with
    | cons h1 h2 =>
      cases h1
      rw [ints_of g r _ h2]
      rfl
end

/-! ### a heap without some addresses -/
open Classical in
noncomputable def cut (S : Addr → Prop) (H : Hp) : Hp := fun b => if S b then none else H b
theorem cut_in {S : Addr → Prop} {H : Hp} {b : Addr} {o : HO} (h : cut S H b = some o) : ¬ S b ∧ H b = some o := by
  unfold cut at h
  split at h
  · cases h
  · rename_i n
    exact ⟨n, h⟩
theorem cut_of {S : Addr → Prop} {H : Hp} {b : Addr} {o : HO} (n : ¬ S b) (h : H b = some o) : cut S H b = some o := by
  unfold cut
  rw [if_neg n]
  exact h
theorem same_cut {S S' : Addr → Prop} {H H' : Hp} (h : ∀ b o, ¬ S b → H b = some o → ¬ S' b ∧ H' b = some o) : Same (cut S H) (cut S' H') := fun b o e => by
  obtain ⟨n, e'⟩ := cut_in e
  obtain ⟨n', e2⟩ := h b o n e'
  exact cut_of n' e2
theorem cut_same {S : Addr → Prop} {H H' : Hp} (s : Same H H') : Same (cut S H) (cut S H') := same_cut fun b o n e => ⟨n, s b o e⟩
theorem cut_less {S S' : Addr → Prop} {H : Hp} (s : ∀ b, S' b → S b) : Same (cut S H) (cut S' H) := same_cut fun b o n e => ⟨fun x => n (s b x), e⟩
theorem cut_full {S : Addr → Prop} {H : Hp} : Same (cut S H) H := fun b o e => (cut_in e).2
/-- the deal's two addresses -/
def dl (d l : Addr) : Addr → Prop := fun b => b = d ∨ b = l
theorem cut_but {d l : Addr} {H H' : Hp} (h : But d l H H') : Same (cut (dl d l) H) (cut (dl d l) H') :=
  same_cut fun b o n e => ⟨n, h b o (fun x => n (.inl x)) (fun x => n (.inr x)) e⟩
/-- one more address left out, that was free when the heap was H -/
def orA (S : Addr → Prop) (a : Addr) : Addr → Prop := fun b => S b ∨ b = a
theorem cut_or {S : Addr → Prop} {H H' : Hp} {a : Addr} (n : H a = none) (s : Same H H') : Same (cut S H) (cut (orA S a) H') :=
  same_cut fun b o m e => by
    refine ⟨fun x => ?_, s b o e⟩
    rcases x with x | x
    · exact m x
    · rw [x, n] at e
      cases e
theorem cut_upd {S : Addr → Prop} {H : Hp} {a : Addr} {o : HO} (h : S a) : Same (cut S H) (cut S (upd H a o)) :=
  same_cut fun b u n e => ⟨n, by rw [upd_ne (fun x => n (by rw [x]; exact h))]; exact e⟩
theorem cut_at {S : Addr → Prop} {H : Hp} {a : Addr} {o : HO} (h : ¬ S a) : cut S (upd H a o) a = some o := cut_of h upd_same

/-! ### how long data are when they are shown; what can be compared -/
mutual
def bulk : PyData → Nat
  | .none => 4
  | .bool _ => 5
  | .int _ => 66
  | .str x => 10 * x.length + 2
  | .list xs => bulkAll xs + 3
  | .tuple xs => bulkAll xs + 3
  | .dict _ => 0
def bulkAll : List PyData → Nat
  | [] => 0
  | x :: xs => bulk x + 2 + bulkAll xs
end
mutual
def plainD : PyData → Bool
  | .none => true
  | .bool _ => true
  | .int i => decide (i.natAbs < 2 ^ 64)
  | .str x => PyData.strOk x
  | .list xs => plainAll xs
  | .tuple xs => plainAll xs
  | .dict _ => false
def plainAll : List PyData → Bool
  | [] => true
  | x :: xs => plainD x && plainAll xs
end
mutual
theorem plain_lay : ∀ d : PyData, plainD d = true → d.canLay0 = true ∧ d.hasDict = false ∧ d.showable = true
  | .none, _ => by simp [PyData.canLay0, PyData.hasDict, PyData.showable]
  | .bool _, _ => by simp [PyData.canLay0, PyData.hasDict, PyData.showable]
  | .int i, h => by
    have h' : i.natAbs < 2 ^ 64 := by simpa [plainD] using h
    have : i.natAbs.log2 < 64 := PySem.Flt.log2_lt_of (by decide) h'
    simp only [PyData.canLay0, PyData.hasDict, PyData.showable, true_and, decide_eq_true_eq]
    omega
  | .str x, h => by
    have h' : PyData.strOk x = true := by simpa [plainD] using h
    simp [PyData.canLay0, PyData.hasDict, PyData.showable, h']
  | .list xs, h => by
    have h' : plainAll xs = true := by simpa [plainD] using h
    simpa [PyData.canLay0, PyData.hasDict, PyData.showable] using plainAll_lay xs h'
  | .tuple xs, h => by
    have h' : plainAll xs = true := by simpa [plainD] using h
    simpa [PyData.canLay0, PyData.hasDict, PyData.showable] using plainAll_lay xs h'
  | .dict _, h => by simp [plainD] at h
theorem plainAll_lay : ∀ ds : List PyData, plainAll ds = true → PyData.canLayAll0 ds = true ∧ PyData.hasDictAll ds = false ∧ PyData.showableAll ds = true
  | [], _ => by simp [PyData.canLayAll0, PyData.hasDictAll, PyData.showableAll]
  | d :: ds, h => by
    have h' : plainD d = true ∧ plainAll ds = true := by simpa [plainAll] using h
    obtain ⟨a, b, c⟩ := plain_lay d h'.1
    obtain ⟨a', b', c'⟩ := plainAll_lay ds h'.2
    simp [PyData.canLayAll0, PyData.hasDictAll, PyData.showableAll, a, b, c, a', b', c']
end
theorem piled_tuple (ts : List Str) : (tupleText ts).length ≤ piled ts + 3 := by
  unfold tupleText
  rw [strLen_append, strLen_append]
  have e1 : (("(" : String) : Str).length = 1 := rfl
  have e2 : ((if ts.length == 1 then ",)" else ")" : String) : Str).length ≤ 2 := by
    split
    · exact Nat.le_refl 2
    · exact Nat.le_succ 1
  have e3 : (Str.join ", " ts).length ≤ piled ts := by
    cases ts with
    | nil => exact Nat.zero_le _
    | cons t r =>
      have := join_length_add (t :: r) (by simp)
      omega
  omega
theorem piled_list (ts : List Str) : (listText ts).length ≤ piled ts + 3 := by
  cases ts with
  | nil => show 2 ≤ 0 + 3; decide
  | cons t r =>
    have h := textFrom_length_pos r 1 (("[" : Str) ++ (if (0 : Nat) > 0 then ", " else "" : String) ++ t) (Nat.succ_pos 0)
    have e : ((("[" : Str) ++ (if (0 : Nat) > 0 then ", " else "" : String) ++ t)).length = 1 + t.length := by
      rw [strLen_append, strLen_append]; rfl
    have hX : (listText (t :: r)).length = (textFrom 0 "[" (t :: r)).length + 1 := by
      show (textFrom 0 "[" (t :: r) ++ "]").length = _
      rw [strLen_append]
      rfl
    have hY : textFrom 0 "[" (t :: r) = textFrom 1 (("[" : Str) ++ (if (0 : Nat) > 0 then ", " else "" : String) ++ t) r := rfl
    rw [hX, hY, h, e, piled_cons]
    omega
mutual
theorem bulk_shown : ∀ d : PyData, plainD d = true → d.shown.length ≤ bulk d
  | .none, _ => by simp only [PyData.shown, bulk]; decide
  | .bool b, _ => by cases b <;> (simp only [PyData.shown, bulk]; decide)
  | .int i, h => by
    have h' : i.natAbs < 2 ^ 64 := by simpa [plainD] using h
    have h2 : i.natAbs.log2 < 64 := PySem.Flt.log2_lt_of (by decide) h'
    have h3 := int_text_length_le (a := i) (k := 64) (by decide) h2
    simp only [PyData.shown, bulk]
    show (Str.ofString (toString i)).length ≤ 66
    rw [PySem.ofString_length]
    omega
  | .str x, h => by
    have h' : PyData.strOk x = true := by simpa [plainD] using h
    simp only [PyData.shown, bulk]
    refine PySem.StrLaws.reprText_len x fun c hc => ?_
    unfold PyData.strOk at h'
    rw [← Array.all_toList, List.all_eq_true] at h'
    have h2 : c < 1114112 := of_decide_eq_true (h' c hc)
    have h3 : (16 : Nat) ^ 8 = 4294967296 := rfl
    omega
  | .list xs, h => by
    have h' : plainAll xs = true := by simpa [plainD] using h
    simp only [PyData.shown, bulk]
    exact Nat.le_trans (piled_list _) (Nat.add_le_add_right (bulkAll_shown xs h') 3)
  | .tuple xs, h => by
    have h' : plainAll xs = true := by simpa [plainD] using h
    simp only [PyData.shown, bulk]
    exact Nat.le_trans (piled_tuple _) (Nat.add_le_add_right (bulkAll_shown xs h') 3)
  | .dict _, h => by simp [plainD] at h
theorem bulkAll_shown : ∀ ds : List PyData, plainAll ds = true → piled (PyData.shownAll ds) ≤ bulkAll ds
  | [], _ => by simp [PyData.shownAll, bulkAll, piled]
  | d :: ds, h => by
    have h' : plainD d = true ∧ plainAll ds = true := by simpa [plainAll] using h
    have a := bulk_shown d h'.1
    have b := bulkAll_shown ds h'.2
    simp only [PyData.shownAll, bulkAll, piled_cons]
    omega
end
theorem plain_shaped {d : PyData} (h : plainD d = true) (hd : d.depth ≤ 64) : SeqAt.shaped d = true := by
  unfold SeqAt.shaped
  rw [(plain_lay d h).1, decide_eq_true hd]
  rfl
/-- repr of plain data -/
theorem repr_ans {K : PySem.W.Frag} {H : Hp} {Q : VK} {v : V} {d : PyData} (hD : Dp K H v d) (hdsp : isDisplay d = true) (hp : plainD d = true) (hd : d.depth < 40) (hb : bulk d ≤ sizeLine) (q : Q (.str d.shown) H) :
    ∃ v' d', [v] = [v'] ∧ isDisplay d' = true ∧ Dp K H v' d' ∧ d'.showable = true ∧ d'.hasDict = false ∧ d'.depth < 40 ∧ d'.shown.length ≤ sizeLine ∧ Q (.str d'.shown) H :=
  ⟨v, d, rfl, hdsp, hD, (plain_lay d hp).2.2, (plain_lay d hp).2.1, hd, Nat.le_trans (bulk_shown d hp) hb, q⟩
theorem ne_ans {K : PySem.W.Frag} {H : Hp} {Q : VK} {v u : V} {d e : PyData} (hD : Dp K H v d) (hE : Dp K H u e) (hp : plainD d = true) (hq : plainD e = true) (hd : d.depth ≤ 64) (he : e.depth ≤ 64) (q : Q (.bl (!PyData.eqv d e)) H) : rNeD K v u H Q :=
  ⟨d, e, hD, hE, plain_shaped hp hd, plain_shaped hq he, q⟩
theorem eq_ans {K : PySem.W.Frag} {H : Hp} {Q : VK} {v u : V} {d e : PyData} (hD : Dp K H v d) (hE : Dp K H u e) (hp : plainD d = true) (hq : plainD e = true) (hd : d.depth ≤ 64) (he : e.depth ≤ 64) (q : Q (.bl (PyData.eqv d e)) H) : rEqD K v u H Q :=
  ⟨d, e, hD, hE, plain_shaped hp hd, plain_shaped hq he, q⟩
theorem eqv_self {d : PyData} (h : plainD d = true) : PyData.eqv d d = true := SeqAt.eqv_refl d (plain_lay d h).1
/-! ### lists of texts, of ints -/
theorem plain_strs {α : Type} (g : α → Str) : ∀ ss : List α, (∀ s ∈ ss, PyData.strOk (g s) = true) → plainAll (ss.map fun a => PyData.str (g a)) = true
  | [], _ => by simp [plainAll]
  | s :: r, h => by
    have h1 := h s List.mem_cons_self
    have h2 := plain_strs g r fun x hx => h x (List.mem_cons_of_mem _ hx)
    simp [plainAll, plainD, h1, h2]
theorem plain_ints {α : Type} (g : α → Int) : ∀ ss : List α, (∀ s ∈ ss, (g s).natAbs < 2 ^ 64) → plainAll (ss.map fun a => PyData.int (g a)) = true
  | [], _ => by simp [plainAll]
  | s :: r, h => by
    have h1 := h s List.mem_cons_self
    have h2 := plain_ints g r fun x hx => h x (List.mem_cons_of_mem _ hx)
    simp only [List.map_cons, plainAll, plainD, decide_eq_true h1, h2, Bool.and_self]
theorem depth_flat : ∀ ds : List PyData, (∀ d ∈ ds, d.depth = 0) → PyData.depthAll ds = 0
  | [], _ => by simp [PyData.depthAll]
  | d :: r, h => by
    have h1 := h d List.mem_cons_self
    have h2 := depth_flat r fun x hx => h x (List.mem_cons_of_mem _ hx)
    simp [PyData.depthAll, h1, h2]
theorem depth_strs {α : Type} (g : α → Str) (ss : List α) : PyData.depthAll (ss.map fun a => PyData.str (g a)) = 0 :=
  depth_flat _ fun d hd => by
    obtain ⟨a, _, rfl⟩ := List.mem_map.mp hd
    simp [PyData.depth]
theorem depth_intsG {α : Type} (g : α → Int) (ss : List α) : PyData.depthAll (ss.map fun a => PyData.int (g a)) = 0 :=
  depth_flat _ fun d hd => by
    obtain ⟨a, _, rfl⟩ := List.mem_map.mp hd
    simp [PyData.depth]
theorem bulk_strs {α : Type} (g : α → Str) : ∀ ss : List α, bulkAll (ss.map fun a => PyData.str (g a)) = 10 * (ss.map fun a => (g a).length).sum + 4 * ss.length
  | [] => by simp [bulkAll]
  | s :: r => by
    simp only [List.map_cons, bulkAll, bulk, bulk_strs g r, List.sum_cons, List.length_cons]
    omega
theorem bulk_intsG {α : Type} (g : α → Int) : ∀ ss : List α, bulkAll (ss.map fun a => PyData.int (g a)) = 68 * ss.length
  | [] => by simp [bulkAll]
  | s :: r => by
    simp only [List.map_cons, bulkAll, bulk, bulk_intsG g r, List.length_cons]
    omega
theorem str_len_mk (l : List Nat) : (⟨l.toArray⟩ : Str).length = l.length := by simp [Str.length]
theorem strOk_mk {l : List Nat} (h : ∀ c ∈ l, c < 0x110000) : PyData.strOk ⟨l.toArray⟩ = true := by
  unfold PyData.strOk
  rw [← Array.all_toList, List.all_eq_true]
  intro c hc
  exact decide_eq_true (h c (by simpa using hc))
end Zc
end

section
set_option maxHeartbeats 1000000
/-! What data at a value look like. -/
namespace Zc
open PySem PySem.Spec PyProof.Rows L2
section
variable {K : PySem.W.Frag} {H H' : Hp}
theorem dp_int {v : V} {i : Int} (h : Dp K H v (.int i)) : v = .int i := by cases h; rfl
theorem dp_str {v : V} {x : Str} (h : Dp K H v (.str x)) : v = .str x := by cases h; rfl
theorem dp_bl {v : V} {x : Bool} (h : Dp K H v (.bool x)) : v = .bl x := by cases h; rfl
theorem dp_tup {v : V} {ds : List PyData} (h : Dp K H v (.tuple ds)) : ∃ t xs, v = .ref t ∧ SqT K H t xs ∧ DpAll K H xs ds := by
  cases h with
  | tup a b => exact ⟨_, _, rfl, a, b⟩
theorem dp_lst {v : V} {ds : List PyData} (h : Dp K H v (.list ds)) : ∃ t xs, v = .ref t ∧ SqL K H t xs ∧ DpAll K H xs ds := by
  cases h with
  | lst a b => exact ⟨_, _, rfl, a, b⟩
theorem dp_two {vs : List V} {d e : PyData} (h : DpAll K H vs [d, e]) : ∃ v u, vs = [v, u] ∧ Dp K H v d ∧ Dp K H u e := by
  cases h with
  | cons a b =>
    cases b with
    | cons c b =>
      cases b
      exact ⟨_, _, rfl, a, c⟩
theorem dp_pair {v : V} {d e : PyData} (h : Dp K H v (.tuple [d, e])) : ∃ t x y, v = .ref t ∧ SqT K H t [x, y] ∧ Dp K H x d ∧ Dp K H y e := by
  obtain ⟨t, xs, rfl, a, b⟩ := dp_tup h
  obtain ⟨x, y, rfl, c, d⟩ := dp_two b
  exact ⟨t, x, y, rfl, a, c, d⟩
theorem dp_map {α : Type} {f : α → PyData} {vs : List V} {ss : List α} {i : Nat} {x : V} (h : DpAll K H vs (ss.map f)) (e : vs[i]? = some x) : ∃ a, ss[i]? = some a ∧ Dp K H x (f a) := by
  obtain ⟨d, h1, h2⟩ := DpAll.get h e
  rw [List.getElem?_map] at h1
  cases q : ss[i]? with
  | none =>
    rw [q] at h1
    cases h1
  | some a =>
    rw [q] at h1
    cases h1
    exact ⟨a, rfl, h2⟩
theorem dp_snoc : ∀ {ds : List PyData} {vs : List V} {d : PyData}, DpAll K H vs (ds ++ [d]) → ∃ us v, vs = us ++ [v] ∧ DpAll K H us ds ∧ Dp K H v d
  | [], _, d, h => by
    cases h with
    | cons a b =>
      cases b
      exact ⟨[], _, rfl, .nil, a⟩
  | e :: ds, _, d, h => by
    cases h with
    | cons a b =>
      obtain ⟨us, v, rfl, h1, h2⟩ := dp_snoc b
      exact ⟨_ :: us, v, rfl, .cons a h1, h2⟩
theorem set_last {α : Type} (xs : List α) (x y : α) : (xs ++ [x]).set ((xs ++ [x]).length - 1) y = xs ++ [y] := by
  induction xs with
  | nil => rfl
  | cons a r ih =>
    cases r with
    | nil => rfl
    | cons b r =>
      have e : (a :: b :: r ++ [x]).length - 1 = ((b :: r ++ [x]).length - 1) + 1 := by simp
      rw [e]
      show a :: ((b :: r ++ [x]).set _ y) = _
      rw [ih]
      rfl
theorem ix_last {n : Nat} (h : 0 < n) : L2.ixN n (-1) = some (n - 1) := by
  unfold L2.ixN
  rw [if_neg (by omega), if_pos (by omega)]
  congr 1
  omega
theorem take_snoc {α β : Type} {f : α → β} {ss : List α} {i : Nat} {a : α} (h : ss[i]? = some a) : (ss.take (i + 1)).map f = (ss.take i).map f ++ [f a] := by
  rw [List.take_add_one, h, List.map_append]
  rfl
end
end Zc
end

section
set_option maxHeartbeats 1000000
/-! Rules whose readings speak of the written part, for places within a comprehension: the written part named. -/
namespace Zc
open PySem PySem.Spec PyProof.Rows L2
section
variable {X : Cx} (K : PySem.W.Frag)
theorem pi_listK (h : X.K = K) {tg l : Expr} {tl : TE} (hl : PE X l tl) : PI X tg l (iList K tl) := h ▸ pi_list hl
theorem pi_tupK (h : X.K = K) {tg l : Expr} {tl : TE} (hl : PE X l tl) : PI X tg l (iTup K tl) := h ▸ pi_tup hl
theorem sl_tupK (h : X.K = K) : SlR X (rSlT K) := h ▸ sl_tup
theorem sl_listK (h : X.K = K) : SlR X (rSlL K) := h ▸ sl_list
theorem ix_listK (h : X.K = K) : IxR X (rIxL K) := h ▸ ix_list
theorem ix_tupK (h : X.K = K) : IxR X (rIxT K) := h ▸ ix_tup
theorem op_in_seqK (h : X.K = K) : OpR X (compareOp .In) (rIn K false) := h ▸ op_in_seq
theorem op_notIn_seqK (h : X.K = K) : OpR X (compareOp .NotIn) (rIn K true) := h ▸ op_notIn_seq
theorem op_catTK (h : X.K = K) : OpR X (binaryOp .Add) (rCatT K) := h ▸ op_catT
theorem op_eqDK (h : X.K = K) (hu : X.A.units + 64 < cLine) : OpR X (compareOp .Eq) (rEqD K) := h ▸ op_eqD hu
theorem op_neDK (h : X.K = K) (hu : X.A.units + 64 < cLine) : OpR X (compareOp .NotEq) (rNeD K) := h ▸ op_neD hu
theorem call_len_seqK (h : X.K = K) : CallR X (.builtin "len") (fun xs H Q => ∃ p ys, xs = [.ref p] ∧ (SqL K H p ys ∨ SqT K H p ys) ∧ Q (.int ys.length) H) := h ▸ call_len_seq
theorem call_list_ofK (h : X.K = K) : CallR X (.type "list") (fun xs H Q => ∃ p ys, xs = [.ref p] ∧ (SqL K H p ys ∨ SqT K H p ys) ∧ ∀ l, H l = none → Q (.ref l) (upd H l (.lst ys))) := h ▸ call_list_of
theorem call_tuple_ofK (h : X.K = K) : CallR X (.type "tuple") (fun xs H Q => ∃ p ys, xs = [.ref p] ∧ ((SqL K H p ys ∧ ∀ l, H l = none → Q (.ref l) (upd H l (.tup ys))) ∨ (SqT K H p ys ∧ Q (.ref p) H))) := h ▸ call_tuple_of
theorem cr_sumK (h : X.K = K) (hc : X.calm = true) : CallR X (.builtin "sum") (rSum K) := h ▸ cr_sum hc
end
theorem blkOk_any {N : List Str} {sc scope : Scope} {own : List (Str × Nat)} (h : blkC N sc scope own = true) : BlkOk N sc scope own := blkOk_by h
end Zc
end

section
set_option maxHeartbeats 2000000
/-! any, all of a generator expression whose element is any expression. -/
namespace Zc
open PySem PySem.Spec PyProof.Rows L2 GenW
abbrev tabφ (P : Addr) : Heap → Prop := fun h => ∃ ps : Array Value, h.get? P = some { cls := .none, data := .fields ps } ∧ TriplesOk ps.toList
/-- a code object's table, known to be one -/
abbrev tabX (P : Addr) : HO := .ext (tabφ P)
theorem tabφ_stay {P : Addr} : ∀ h1 h2 : Heap, tabφ P h1 → (∀ o, h1.get? P = some o → h2.get? P = some o) → tabφ P h2 :=
  fun h1 h2 ⟨ps, e, t⟩ k => ⟨ps, k _ e, t⟩
section
variable {X : Cx} {pins : List (Addr × Obj)} {σ : L2.St} {H : Hp} {s : Shared}
theorem upd_self {P : Addr} {o : HO} (h : H P = some o) : upd H P o = H := by
  funext b
  by_cases hb : b = P
  · rw [hb, upd_same, h]
  · rw [upd_ne hb]
/-- the table may have grown -/
theorem inv_code {P : Addr} {ps : Array Value} {h' : Heap} {t' : Nat} (I : Inv X pins σ H s) (hP : H P = some (tabX P)) (k : ∀ b o, b ≠ P → s.heap.get? b = some o → h'.get? b = some o)
    (hm : h'.get? P = some { cls := .none, data := .fields ps }) (ht : TriplesOk ps.toList) : Inv X pins σ H { s with heap := h', toks := t' } := by
  have J := I.write (h' := h') (t' := t') (x := P) (e := P) (o := tabX P) (by rw [hP]; trivial) (.inl rfl) k ⟨_, hm⟩ ⟨⟨ps, hm, ht⟩, ⟨_, hm⟩, tabφ_stay⟩
  rw [upd_self hP] at J
  exact J
end
/-- the context of a generator expression's frame -/
abbrev gCx (X : Cx) (A : Around) (s : Shared) (H : Hp) (ge : Env) (fp : List Addr) (pn : List (Addr × Obj)) : Cx :=
  { X with A := A, s_0 := s, H_0 := H, env := ge, outer := X.stack, stack := ge :: X.stack, ex := fp, fn := fun _ => false, calm := true, pn := pn, xe := fun _ _ => False }
section
variable {X : Cx} {pins : List (Addr × Obj)} {σ : L2.St} {H : Hp} {s : Shared}
theorem free_has {scope : Scope} {own : List (Str × Nat)} (I : Inv X pins σ H s) (ok : BlkOk X.N X.env.scope scope own) {n : Str × NameKind} (hn : n ∈ scope.names) (hf : n.2 = .free) :
    ∃ cell, X.env.cells.lookup n.1 = some cell :=
  (ok.free n hn hf).elim (fun z => I.ok.has _ (.inl z)) (fun z => I.ok.has _ (.inr z))
/-- a captured cell is the maker's, and stands -/
theorem clo_old {scope : Scope} {own : List (Str × Nat)} (I : Inv X pins σ H s) (ok : BlkOk X.N X.env.scope scope own) {n : Str} {cell : Addr}
    (hm : (n, cell) ∈ cloFrom X.env.cells scope.names []) : X.env.cells.lookup n = some cell ∧ cell < s.heap.objs.size := by
  have h := cloFrom_mem hm
  simp only [List.not_mem_nil, false_or] at h
  obtain ⟨c0, e0⟩ := free_has I ok h.1 rfl
  have e1 : cell = c0 := by
    rw [h.2, e0]
    rfl
  rw [e1]
  exact ⟨e0, (I.cell n c0 e0).elim fun _ z => z.lt⟩
theorem clo_look {scope : Scope} {own : List (Str × Nat)} (I : Inv X pins σ H s) (ok : BlkOk X.N X.env.scope scope own) {n : Str} (hl : scope.names.lookup n = some .free) :
    ∃ cell, (cloFrom X.env.cells scope.names []).lookup n = some cell ∧ X.env.cells.lookup n = some cell := by
  obtain ⟨cell, e⟩ := mem_lookup (cloFrom_has (cells := X.env.cells) (acc := []) (PySem.mem_of_lookup hl))
  exact ⟨cell, e, (clo_old I ok (PySem.mem_of_lookup e)).1⟩
theorem gen_start {scope : Scope} {own : List (Str × Nat)} {fp : List Addr} {A : Around} {ge : Env} {pn : List (Addr × Obj)} {s' : Shared} {m : Str → Option Value}
    (I : Inv X pins σ H s) (ok : BlkOk X.N X.env.scope scope own) (hcell : ∀ y ∈ scope.names, y.2 ≠ .cell) (hN : X.N.Nodup) (hfp : ∀ b ∈ fp, FpOk X pins H b ∧ b < s.heap.objs.size)
    (e1 : ge.scope = scope) (e2 : ge.locals = s.heap.objs.size) (e3 : ge.globals = mainGlobals) (e4 : ge.builtins = builtinsNs) (e5 : ge.cells = cloFrom X.env.cells scope.names []) (e6 : ge.frame = some s.heap.objs.size)
    (hA : A.frames = some (ge :: X.stack)) (hh : A.handled = none) (kp : ∀ b o, s.heap.get? b = some o → s'.heap.get? b = some o) (hos : s'.os = s.os) (hg : AllBare s'.gens)
    (hn : s'.heap.Ns s.heap.objs.size m) (hpn : ∀ p ∈ pn, s'.heap.get? p.1 = some p.2 ∧ s.heap.objs.size < p.1 ∧ ∀ v, p.2.data ≠ .cell v) :
    Inv (gCx X A s H ge fp pn) [] (wipe σ (own.map (·.2))) H s' := by
  have mem : ∀ {y c}, ge.cells.lookup y = some c → X.env.cells.lookup y = some c ∧ c < s.heap.objs.size := fun {y c} e => by
    rw [e5] at e
    exact clo_old I ok (PySem.mem_of_lookup e)
  have look : ∀ {n}, scope.names.lookup n = some .free → ∃ cell, ge.cells.lookup n = some cell ∧ X.env.cells.lookup n = some cell := fun {n} hl => by
    rw [e5]
    exact clo_look I ok hl
  have kind_of : ∀ {y k}, ge.kindOf y = some k → scope.names.lookup y = some k := fun {y k} h => by
    unfold Env.kindOf at h
    rw [e1] at h
    exact h
  have okB : (gCx X A s H ge fp pn).Ok := by
    refine ⟨I.ok.mod, by show ge.scope.kind = _; rw [e1]; exact ok.kind, e3, e4, by show s.heap.objs.size ≤ ge.locals; rw [e2]; exact Nat.le_refl _,
      fun y z c h1 h2 => I.ok.inj y z c (mem h1).1 (mem h2).1, fun y hy => ?_, fun y c z e => ?_, fun _ => hh, hA, .inr ⟨rfl, ?_⟩, fun b hb => ⟨?_, fun y c e z => ?_⟩, I.bs, Nat.le_trans I.ok.bsz I.sz, fun b o e hb => ?_, fun b hb z => ?_, I.stack, I.stkFree⟩
    · rcases hy with hy | hy
      · exact absurd rfl (hcell _ (PySem.mem_of_lookup (kind_of hy)))
      · obtain ⟨c, h, _⟩ := look (kind_of hy)
        exact ⟨c, h⟩
    · exact absurd (show false = true from z) Bool.false_ne_true
    · show ge.frame = some ge.locals
      rw [e6, e2]
    · show b ≠ ge.locals
      rw [e2]
      exact Nat.ne_of_lt (hfp b hb).2
    · exact (hfp b hb).1.2.2.2.2.1 y c (mem e).1 z
    · refine (hfp b hb).1.2.2.2.1.elim (I.ok.noex b o e) fun z => ?_
      exact Nat.lt_irrefl b (Nat.lt_of_lt_of_le (Nat.lt_of_lt_of_le (Heap.lt_size e) I.ok.bsz) z)
    · exact (List.mem_cons.mp (I.stkSub b z)).elim (hfp b hb).1.2.1 (hfp b hb).1.2.2.1
  refine ⟨okB, hos, hg, Un.kept kp, ⟨m, by show s'.heap.Ns ge.locals m; rw [e2]; exact hn, fun i y av q1 q2 q3 => ?_⟩, fun y c e => ?_, ?_, fun y c e => ?_, fun p hp => ?_, I.hok.kept kp, by rw [wipe_length]; exact I.len⟩
  · obtain ⟨q2, hne⟩ := wipe_some q2
    -- a name that still has a value here is a captured one
    have capt : scope.names.lookup y = some .free := by
      have vis : Vis scope y := by rw [← e1]; exact q3
      have notOwn : ∀ kd : NameKind, (kd = .local ∨ kd = .cell) → scope.names.lookup y ≠ some kd := fun kd hkd e => by
        rcases ok.own _ (PySem.mem_of_lookup e) hkd with inOwn | notN
        · obtain ⟨⟨n0, i0⟩, hp0, hn0⟩ := List.mem_map.mp inOwn
          have hn1 : n0 = y := hn0
          subst hn1
          exact hne (List.mem_map.mpr ⟨_, hp0, nodup_ix hN (ok.ix _ hp0) q1⟩)
        · exact notN (List.mem_of_getElem? q1)
      rcases vis with v | v | v
      · exact (notOwn _ (.inl rfl) v).elim
      · exact (notOwn _ (.inr rfl) v).elim
      · exact v
    obtain ⟨cell, hc1, hc2⟩ := look capt
    obtain ⟨m', _, hl⟩ := I.loc
    have seen := ok.free _ (PySem.mem_of_lookup capt) rfl
    obtain ⟨u, hu, lk⟩ := hl i y av q1 q2 (seen.elim (fun z => .inr (.inl z)) fun z => .inr (.inr z))
    refine ⟨u, hu, .inr ⟨.inr (by show ge.scope.names.lookup y = _; rw [e1]; exact capt), cell, hc1, ?_⟩⟩
    rcases lk with ⟨kl, _⟩ | ⟨_, c2, h2, isc⟩
    · have kl2 : X.env.scope.names.lookup y = some .local := kl
      rcases seen with z | z
      · rw [show X.env.scope.names.lookup y = some .cell from z] at kl2
        cases kl2
      · rw [show X.env.scope.names.lookup y = some .free from z] at kl2
        cases kl2
    · rw [hc2] at h2
      cases h2
      exact isc.keeps kp
  · obtain ⟨w, z⟩ := I.cell y c (mem e).1
    exact ⟨w, z.keeps kp⟩
  · show H ge.locals = none
    rw [e2]
    exact I.hok.fresh (Nat.le_refl _)
  · exact I.freeC y c (mem e).1
  · rw [List.append_nil] at hp
    obtain ⟨h1, h2, h3⟩ := hpn p hp
    refine ⟨h1, I.hok.fresh (Nat.le_of_lt h2), ?_, fun z => ?_, h3⟩
    · show p.1 ≠ ge.locals
      rw [e2]
      exact Nat.ne_of_gt h2
    · rcases List.mem_cons.mp (I.stkSub _ z) with z | z
      · have := I.lt
        rw [← z] at this
        exact absurd (Nat.lt_trans this h2) (Nat.lt_irrefl _)
      · exact I.nofs (Nat.le_of_lt h2) z
end

/-- a generator's frame over the around of its waking -/
theorem over_gen {A : Around} {elt tg iter : Expr} {ifs : List Expr} {scope : Scope} {pos : Pos} {it acc : Value} {ge : Env} {fs : List Env} (hf : A.frames = some fs) :
    (A.over (.compLoop (.GeneratorExp elt [⟨tg, iter, ifs, 0⟩] scope pos) 0 it acc ge) []).frames = some (ge :: fs) := by
  obtain ⟨hd, d, fr, gs, u⟩ := A
  have : fr = some fs := hf
  subst this
  rfl
theorem room_gen {A : Around} {k : Nat} {elt tg iter : Expr} {ifs : List Expr} {scope : Scope} {pos : Pos} {it acc : Value} {ge : Env} (hr : Room (k + 1) A) :
    Room k (A.over (.compLoop (.GeneratorExp elt [⟨tg, iter, ifs, 0⟩] scope pos) 0 it acc ge) []) := by
  refine ⟨hr.hd, ?_, ?_⟩
  · have := hr.dp
    have e : (A.over (.compLoop (.GeneratorExp elt [⟨tg, iter, ifs, 0⟩] scope pos) 0 it acc ge) []).depth ≤ A.depth + 1 := by
      obtain ⟨hd, d, fr, gs, u⟩ := A
      exact Nat.le_refl _
    omega
  · have := hr.un
    have e : (A.over (.compLoop (.GeneratorExp elt [⟨tg, iter, ifs, 0⟩] scope pos) 0 it acc ge) []).units ≤ A.units + 3 := by
      obtain ⟨hd, d, fr, gs, u⟩ := A
      exact Nat.le_refl _
    omega
section
variable {X : Cx} {G : Cx}
/-- what has been handed out: a truth; where it is not go (the one with which the walk goes on), it is the end -/
def YA (G : Cx) (go : Bool) (Q : VK) : Protocol := fun n s₀ v s kap =>
  ∃ b σ H, v = .bool b ∧ Inv G [] σ H s ∧ (if b = go then ∀ s' : Shared, s'.heap = s.heap → s'.os = s.os → AllBare s'.gens → kap (.send .none) s' else Q (.bl (!go)) H)
def RA (G : Cx) (go : Bool) (Q : VK) : Nat → Shared → Shared → Prop := fun _ _ s => ∃ σ H, Inv G [] σ H s ∧ Q (.bl go) H
abbrev REA (G : Cx) (go : Bool) (Q : VK) : GenEnd := fun n s₀ r s => r = .ok .next ∧ RA G go Q n s₀ s
theorem inv_gens {pins : List (Addr × Obj)} {σ : L2.St} {H : Hp} {s s' : Shared} (I : Inv G pins σ H s) (h : s'.heap = s.heap) (o : s'.os = s.os) (b : AllBare s'.gens) : Inv G pins σ H s' := by
  obtain ⟨h', g', d', t', o'⟩ := s'
  have e1 : h' = s.heap := h
  have e2 : o' = s.os := o
  subst e1 e2
  exact I.call (g' := g') (t' := t') (d' := d') Un.refl I.hok b (ch := []) (fun b hb => absurd hb List.not_mem_nil)
/-- the reading: go is True for all, False for any -/
def gWalk (go : Bool) (J : It) (g : TG) (tt : TT) (te : TE) (vs : List Nat) (σ : L2.St) (Q : VK) (W : Nat → Nat → Hp → Prop) : Prop :=
  ∀ i m H, W i m H → (J.stop i H ∧ Q (.bl go) H) ∨ (J.go i H ∧ ∃ Nx : Hp → Prop, (∀ H', Nx H' → ∃ m', m' < m ∧ W (i + 1) m' H') ∧ ∀ x H', J.yld i H x H' → g x (wipe σ vs) H' fun σ2 H2 => wipe σ2 vs = wipe σ vs ∧ tt σ2 H2 fun b H3 =>
    if b = true then te σ2 H3 fun y H4 => ∃ c, y = .bl c ∧ if c = go then Nx H4 else Q (.bl (!go)) H4 else Nx H3)
theorem seg_genA {A : Around} {elt tg iter : Expr} {ifs : List Expr} {scope : Scope} {pos : Pos} {it : Addr} {ge : Env} {fp : List Addr} {tn : Nat → Heap → Prop} {J : It} {go : Bool} {g : TG} {tt : TT} {te : TE} {vs : List Nat} {σ : L2.St} {Q : VK} {W : Nat → Nat → Hp → Prop}
    (hGA : G.A = A.over (.compLoop (.GeneratorExp elt [⟨tg, iter, ifs, 0⟩] scope pos) 0 (.ref it) .none ge) []) (hGe : G.env = ge) (hcal : G.calm = true) (hxe : G.xe = fun _ _ => False) (hex : G.ex = fp)
    (hco : ge.scope.isCoroutine = false) (hpn : ∀ b ∈ fp, ∀ p ∈ G.pn, p.1 ≠ b) (T : Turn G.prog G.w G.K tg J fp it tn) (pg : PG G tg g) (pt : PTs G ifs tt) (pe : PE G elt te) (turn : gWalk go J g tt te vs σ Q W) :
    ∀ (m n i : Nat) (s₀ s : Shared) (H : Hp), m < n → Inv G [] (wipe σ vs) H s → tn i s.heap → (∀ b ∈ fp, H b = none) → W i m H →
      Seg (model G.prog G.w) A (REA G go Q) (YA G go Q) n s₀ (.compLoop (.GeneratorExp elt [⟨tg, iter, ifs, 0⟩] scope pos) 0 (.ref it) .none ge)
        ((model G.prog G.w).den (.compLoop (.GeneratorExp elt [⟨tg, iter, ifs, 0⟩] scope pos) 0 (.ref it) .none ge)) [] s := by
  have stat : ∀ {σ' : L2.St} {H' : Hp} {s' : Shared}, Inv G [] σ' H' s' → (∀ b ∈ fp, H' b = none) → ∀ b ∈ fp, FpOk G [] H' b := fun {σ' H' s'} I' hn b hb => by
    have hb' : b ∈ G.ex := by rw [hex]; exact hb
    exact ⟨hn b hb, (I'.ok.exf b hb').1, I'.ok.exfs b hb', .inl hb', fun x c e => (I'.ok.exf b hb').2 x c e, fun p hp => hpn b hb p (by rwa [List.append_nil] at hp)⟩
  intro m
  induction m using Nat.strongRecOn with
  | ind m ih =>
    intro n i s₀ s H hmn I st nf w
    show Seg _ A _ _ _ s₀ _ ((compTurn (.GeneratorExp elt [⟨tg, iter, ifs, 0⟩] scope pos) 0 (.ref it) .none ge).onRaise (leaving ge)) [] s
    rw [compTurn_gen, Sem.onRaise_eq_wrap]
    refine seg_bind_wrap (wpAny_standAt ?_)
    refine seg_bind_wrap ?_
    rw [← hGA]
    rcases turn i m H w with ⟨stop, q⟩ | ⟨goes, Nx, hNx, step⟩
    · have td := T.done G rfl rfl rfl hcal i [] s _ H (fun _ _ => False) I (stat I nf) st stop
      refine thnF td fun r s6 ⟨hr, I6⟩ => ?_
      subst hr
      exact seg_end (.ok .next) ⟨rfl, _, _, I6, q⟩
    · have ti := T.item G rfl rfl rfl hcal i [] s _ H (fun _ _ => False) I (stat I nf) st goes
      refine thnF ti fun r s6 ⟨u, hr, h6⟩ => ?_
      subst hr
      refine seg_bind_wrap ?_
      rw [← hGA]
      refine thnF h6 fun _ s7 ⟨x, H7, I7, r7, y7, st7, n7⟩ => ?_
      have I7' := I7.pinned (stat I7 n7) (T.obj _ _ st7)
      refine seg_bind_wrap ?_
      rw [← hGA]
      have pg' := pg.run _ s7 _ H7 x u _ I7' r7 (step x H7 y7)
      rw [hxe, hGe] at pg'
      refine thnF pg' fun _ s8 ⟨σ8, H8, I8, hw8, q8⟩ => ?_
      refine seg_bind_wrap ?_
      rw [← hGA]
      have pt' := pt.run _ s8 σ8 H8 _ I8 q8
      rw [hxe, hGe] at pt'
      refine thnF pt' fun b s9 ⟨H9, I9, q9⟩ => ?_
      -- the turn's end
      have back : ∀ {s' : Shared} {H' : Hp}, Inv G ([] ++ pinsAt fp s7.heap) σ8 H' s' → Inv G [] (wipe σ vs) H' s' ∧ tn (i + 1) s'.heap ∧ ∀ b ∈ fp, H' b = none := fun {s' H'} I' => by
        have held : ∀ (q : Addr) (ob : Obj), q ∈ fp → s7.heap.get? q = some ob → s'.heap.get? q = some ob ∧ H' q = none := fun q ob hq eq =>
          have z := I'.pin (q, ob) (List.mem_append_right _ (List.mem_append_right _ (mem_pinsAt hq eq)))
          ⟨z.1, z.2.1⟩
        have hl : (wipe σ vs).length = σ8.length := by rw [← hw8, wipe_length]
        refine ⟨(I'.unpinned (pins := [])).weak hl (fun j v e => ?_), T.keep _ _ _ st7 fun q hq ob eq => (held q ob hq eq).1, fun q hq => ?_⟩
        · rw [← hw8] at e
          exact (wipe_some e).1
        · exact (T.obj _ _ st7 q hq).elim fun ob eq => (held q ob hq eq.1).2
      cases b with
      | false =>
        simp only [Bool.false_eq_true, if_false] at q9 ⊢
        obtain ⟨m', hm, w'⟩ := hNx _ q9
        obtain ⟨I', st', nf'⟩ := back I9
        exact seg_again rfl (ih m' hm n (i + 1) s₀ s9 H9 (Nat.lt_trans hm hmn) I' st' nf' w')
      | true =>
        simp only [if_true] at q9 ⊢
        have hy : ∀ v, yieldOut ge v = yieldValue v := fun v => by simp only [yieldOut, hco, Bool.false_eq_true, if_false]
        simp only [hy]
        rw [Sem.bind_eq_wrap', Sem.bind_eq_wrap', Sem.wrap_wrap, Sem.wrap_wrap]
        refine seg_wrap ?_
        rw [← hGA]
        have pe' := pe.run _ s9 σ8 H9 _ I9 q9
        rw [hxe, hGe] at pe'
        refine thnF pe' fun z s10 ⟨yv, H10, I10, r10, c, ec, q10⟩ => ?_
        subst ec
        have ez : z = Value.bool c := r10
        subst ez
        obtain ⟨n, rfl⟩ : ∃ k, n = k + 1 := ⟨n - 1, by omega⟩
        obtain ⟨I', st', nf'⟩ := back I10
        refine seg_at (seg_yield rfl rfl rfl ⟨c, _, H10, rfl, I', ?_⟩)
        by_cases hc : c = go
        · rw [if_pos hc] at q10 ⊢
          intro s' hs ho hb
          obtain ⟨m', hm, w'⟩ := hNx _ q10
          exact seg_again rfl (ih m' hm n (i + 1) s' s' H10 (by omega) (inv_gens I' hs ho hb) (by rw [hs]; exact st') nf' w')
        · rw [if_neg hc] at q10 ⊢
          exact q10

theorem seg_startA {A : Around} {elt tg iter : Expr} {ifs : List Expr} {scope : Scope} {pos : Pos} {it : Addr} {ge : Env} {fp : List Addr} {tn : Nat → Heap → Prop} {J : It} {R : GenEnd} {Y : Protocol} {n : Nat} {s₀ s : Shared} (T : Turn G.prog G.w G.K tg J fp it tn) (st : tn 0 s.heap)
    (loop : Seg (model G.prog G.w) A R Y n s₀ (.compLoop (.GeneratorExp elt [⟨tg, iter, ifs, 0⟩] scope pos) 0 (.ref it) .none ge)
        ((model G.prog G.w).den (.compLoop (.GeneratorExp elt [⟨tg, iter, ifs, 0⟩] scope pos) 0 (.ref it) .none ge)) [] s) :
    Seg (model G.prog G.w) A R Y n s₀ (.compStart (.GeneratorExp elt [⟨tg, iter, ifs, 0⟩] scope pos) 0 (.ref it) .none ge)
        ((model G.prog G.w).den (.compStart (.GeneratorExp elt [⟨tg, iter, ifs, 0⟩] scope pos) 0 (.ref it) .none ge)) [] s := by
  show Seg _ A _ _ _ s₀ _ ((compStart (.GeneratorExp elt [⟨tg, iter, ifs, 0⟩] scope pos) 0 (.ref it) .none ge).onRaise (leaving ge)) [] s
  unfold compStart
  rw [Sem.onRaise_eq_wrap]
  show Seg _ A _ _ _ s₀ _ ((ask >>= _).wrap _ _ _ _) [] s
  refine seg_bind_wrap (wpAny_askSetting ?_)
  split
  · exact seg_again rfl loop
  · first
      | exact seg_bind_wrap (wpAny_rule (seg_bind_wrap (wpAny_standAt (seg_bind_wrap (T.self _ 0 s _ _ st (seg_again rfl loop))))))
      | (refine seg_bind_wrap (wpAny_rule ?_); show Seg _ A _ _ _ s₀ _ ((standAt iter.pos >>= _).wrap _ _ _ _) [] s; exact seg_bind_wrap (wpAny_standAt (seg_bind_wrap (T.self _ 0 s _ _ st (seg_again rfl loop)))))
/-- the loop of all() -/
theorem all_loopA {A : Around} {R : Result → Shared → Prop} {a : Addr} {g : Nat} {Q : VK} (hh : A.handled = none) (hd : A.depth < recursionLimit)
    (hgen : ∀ σ' H' s1, Inv G [] σ' H' s1 → s1.heap.IsGen a g) (fin : ∀ b σ' H' s1 s', Inv G [] σ' H' s1 → Q (.bl b) H' → s'.os = s1.os → AllBare s'.gens → (∀ b o, s1.heap.get? b = some o → s'.heap.get? b = some o) → R (.ok (.ret (.bool b))) s') :
    ∀ (n : Nat) (s : Shared), s.heap.IsGen a g → s.heap.NoLimit → (∃ gs, s.gens[g]? = some gs ∧ gs.Goes (model G.prog G.w) A.in1.in1 (REA G true Q) (YA G true Q) n (.send .none) (s.setGen g .running)) →
      codeAny (model G.prog G.w) A (.builtin "all.loop" ⟨[.ref a], []⟩) R s := by
  intro n
  induction n with
  | zero =>
    intro s hg hl ⟨gs, hgs, hgo⟩
    refine codeAny_builtin F.entry_all_loop ?_
    rw [Around.under_plainId F.plain_all_loop _]
    show wpAny _ A.in1 (pyNext (.ref a) >>= _) _ _ s
    refine wpAny_bind (wpAny_pyNext_genexpQ (P := RA G true Q) (A := A.in1) hh hl hd hg hgs hgo (fun v s₁ gs' hb hv => ?_) (fun s₁ hp h' hk => ?_))
    · obtain ⟨b, σ', H', rfl, I1, hk⟩ := hv
      refine wpAny_bind (wpAny_holding (wpAny_truthy_bool ?_))
      refine wpAny_bind (wpAny_letGo ?_)
      cases b with
      | true => exact (hk s₁ rfl rfl I1.bare).elim
      | false =>
        simp only [Bool.false_eq_true, if_false] at hk ⊢
        refine wpAny_bind (wpAny_rule (wpAny_pure ?_))
        exact fin false σ' H' s₁ _ I1 hk rfl (allBare_setGen I1.bare hb) fun _ _ e => e
    · obtain ⟨σ', H', I1, q⟩ := hp
      refine wpAny_bind (wpAny_rule (wpAny_pure ?_))
      exact fin true σ' H' s₁ _ I1 q rfl (allBare_setGen I1.bare rfl) hk
  | succ n ih =>
    intro s hg hl ⟨gs, hgs, hgo⟩
    have hgl : g + 1 ≤ s.gens.size := (Array.getElem?_eq_some_iff.mp hgs).1
    refine codeAny_builtin F.entry_all_loop ?_
    rw [Around.under_plainId F.plain_all_loop _]
    show wpAny _ A.in1 (pyNext (.ref a) >>= _) _ _ s
    refine wpAny_bind (wpAny_gsz (n := g + 1) hgl (wpAny_pyNext_genexpQ (P := RA G true Q) (A := A.in1) hh hl hd hg hgs hgo (fun v s₁ gs' hb hv => ?_) (fun s₁ hp h' hk => ?_)))
    · intro hsz
      rw [setGen_size] at hsz
      obtain ⟨b, σ', H', rfl, I1, hk⟩ := hv
      refine wpAny_bind (wpAny_holding (wpAny_truthy_bool ?_))
      refine wpAny_bind (wpAny_letGo ?_)
      cases b with
      | true =>
        simp only [if_true] at hk ⊢
        have hb1 := allBare_setGen I1.bare hb (g := g)
        exact wpAny_pure ⟨plainId_quiet F.plain_all_loop _, ih (s₁.setGen g gs') (show (s₁.setGen g gs').heap.IsGen a g from hgen σ' H' s₁ I1) (show (s₁.setGen g gs').heap.NoLimit from I1.nolimit) ⟨gs', setGen_at hsz, hk _ rfl rfl (allBare_setGen hb1 rfl)⟩⟩
      | false =>
        simp only [Bool.false_eq_true, if_false] at hk ⊢
        refine wpAny_bind (wpAny_rule (wpAny_pure ?_))
        exact fin false σ' H' s₁ _ I1 hk rfl (allBare_setGen I1.bare hb) fun _ _ e => e
    · intro _
      obtain ⟨σ', H', I1, q⟩ := hp
      refine wpAny_bind (wpAny_rule (wpAny_pure ?_))
      exact fin true σ' H' s₁ _ I1 q rfl (allBare_setGen I1.bare rfl) hk
/-- the loop of any() -/
theorem any_loopA {A : Around} {R : Result → Shared → Prop} {a : Addr} {g : Nat} {Q : VK} (hh : A.handled = none) (hd : A.depth < recursionLimit)
    (hgen : ∀ σ' H' s1, Inv G [] σ' H' s1 → s1.heap.IsGen a g) (fin : ∀ b σ' H' s1 s', Inv G [] σ' H' s1 → Q (.bl b) H' → s'.os = s1.os → AllBare s'.gens → (∀ b o, s1.heap.get? b = some o → s'.heap.get? b = some o) → R (.ok (.ret (.bool b))) s') :
    ∀ (n : Nat) (s : Shared), s.heap.IsGen a g → s.heap.NoLimit → (∃ gs, s.gens[g]? = some gs ∧ gs.Goes (model G.prog G.w) A.in1.in1 (REA G false Q) (YA G false Q) n (.send .none) (s.setGen g .running)) →
      codeAny (model G.prog G.w) A (.builtin "any.loop" ⟨[.ref a], []⟩) R s := by
  intro n
  induction n with
  | zero =>
    intro s hg hl ⟨gs, hgs, hgo⟩
    refine codeAny_builtin F.entry_any_loop ?_
    rw [Around.under_plainId F.plain_any_loop _]
    show wpAny _ A.in1 (pyNext (.ref a) >>= _) _ _ s
    refine wpAny_bind (wpAny_pyNext_genexpQ (P := RA G false Q) (A := A.in1) hh hl hd hg hgs hgo (fun v s₁ gs' hb hv => ?_) (fun s₁ hp h' hk => ?_))
    · obtain ⟨b, σ', H', rfl, I1, hk⟩ := hv
      refine wpAny_bind (wpAny_holding (wpAny_truthy_bool ?_))
      refine wpAny_bind (wpAny_letGo ?_)
      cases b with
      | false => exact (hk s₁ rfl rfl I1.bare).elim
      | true =>
        simp only [Bool.true_eq_false, if_false, if_true] at hk ⊢
        refine wpAny_bind (wpAny_rule (wpAny_pure ?_))
        exact fin true σ' H' s₁ _ I1 hk rfl (allBare_setGen I1.bare hb) fun _ _ e => e
    · obtain ⟨σ', H', I1, q⟩ := hp
      refine wpAny_bind (wpAny_rule (wpAny_pure ?_))
      exact fin false σ' H' s₁ _ I1 q rfl (allBare_setGen I1.bare rfl) hk
  | succ n ih =>
    intro s hg hl ⟨gs, hgs, hgo⟩
    have hgl : g + 1 ≤ s.gens.size := (Array.getElem?_eq_some_iff.mp hgs).1
    refine codeAny_builtin F.entry_any_loop ?_
    rw [Around.under_plainId F.plain_any_loop _]
    show wpAny _ A.in1 (pyNext (.ref a) >>= _) _ _ s
    refine wpAny_bind (wpAny_gsz (n := g + 1) hgl (wpAny_pyNext_genexpQ (P := RA G false Q) (A := A.in1) hh hl hd hg hgs hgo (fun v s₁ gs' hb hv => ?_) (fun s₁ hp h' hk => ?_)))
    · intro hsz
      rw [setGen_size] at hsz
      obtain ⟨b, σ', H', rfl, I1, hk⟩ := hv
      refine wpAny_bind (wpAny_holding (wpAny_truthy_bool ?_))
      refine wpAny_bind (wpAny_letGo ?_)
      cases b with
      | false =>
        simp only [if_true] at hk
        simp only [Bool.false_eq_true, if_false]
        have hb1 := allBare_setGen I1.bare hb (g := g)
        exact wpAny_pure ⟨plainId_quiet F.plain_any_loop _, ih (s₁.setGen g gs') (show (s₁.setGen g gs').heap.IsGen a g from hgen σ' H' s₁ I1) (show (s₁.setGen g gs').heap.NoLimit from I1.nolimit) ⟨gs', setGen_at hsz, hk _ rfl rfl (allBare_setGen hb1 rfl)⟩⟩
      | true =>
        simp only [Bool.true_eq_false, if_false, if_true] at hk ⊢
        refine wpAny_bind (wpAny_rule (wpAny_pure ?_))
        exact fin true σ' H' s₁ _ I1 hk rfl (allBare_setGen I1.bare hb) fun _ _ e => e
    · intro _
      obtain ⟨σ', H', I1, q⟩ := hp
      refine wpAny_bind (wpAny_rule (wpAny_pure ?_))
      exact fin false σ' H' s₁ _ I1 q rfl (allBare_setGen I1.bare rfl) hk
end
/-- the reading of any(..), all(..): go is False for any, True for all; P: the running def's table -/
def tGen (P : Addr) (go : Bool) (wi : TI) (g : TG) (tt : TT) (te : TE) (vs : List Nat) : TE := fun σ H Q => wi σ H fun J H1 => H1 P = some (tabX P) ∧ ∃ W : Nat → Nat → Hp → Prop, (∃ m, W 0 m H1) ∧ gWalk go J g tt te vs σ Q W
section
variable {X : Cx}
/-- what a generator expression's making leaves -/
def GReady (X : Cx) (pins : List (Addr × Obj)) (σ : L2.St) (go : Bool) (Q : VK) (u : Value) (s' : Shared) : Prop :=
  ∃ (G : Cx) (a : Addr) (gi n : Nat), G.prog = X.prog ∧ G.w = X.w ∧ u = .ref a ∧ (∀ σ' H' s1, Inv G [] σ' H' s1 → s1.heap.IsGen a gi) ∧ (∀ σ' H' s1, Inv G [] σ' H' s1 → Inv X pins σ H' s1) ∧ s'.heap.IsGen a gi ∧ s'.heap.NoLimit ∧
    ∃ gs, s'.gens[gi]? = some gs ∧ gs.Goes (model G.prog G.w) X.A.in1.in1 (REA G go Q) (YA G go Q) n (.send .none) (s'.setGen gi .running)
theorem gen_core {k : Nat} {c P : Addr} {elt tg iter : Expr} {ifs : List Expr} {scope : Scope} {own : List (Str × Nat)} {gpos : Pos} {wi : TI} {g : TG} {tt : TT} {te : TE} {go : Bool} {pins : List (Addr × Obj)} {s : Shared} {σ : L2.St} {H : Hp} {Q : VK}
    (hr : Room (k + 3) X.A) (hc : X.calm = true) (TB : GxR.TabB X.base X.mg c P) (hcode : X.env.code = .ref c) (hco : scope.isCoroutine = false) (hcell : ∀ y ∈ scope.names, y.2 ≠ .cell) (h0 : scope.names.lookup (".0" : Str) = some NameKind.local)
    (hN : X.N.Nodup) (ok : BlkOk X.N X.env.scope scope own) (hi : PI X tg iter wi)
    (hg : ∀ (A : Around) (s : Shared) (H : Hp) (C : Addr) (cl : List (Str × Addr)) (code : Value) (bi : Addr) (fp : List Addr) (pn : List (Addr × Obj)), Room k A → PG (gCx X A s H (genEnv scope cl C code bi X.env) fp pn) tg g)
    (ht : ∀ (A : Around) (s : Shared) (H : Hp) (C : Addr) (cl : List (Str × Addr)) (code : Value) (bi : Addr) (fp : List Addr) (pn : List (Addr × Obj)), Room k A → PTs (gCx X A s H (genEnv scope cl C code bi X.env) fp pn) ifs tt)
    (he : ∀ (A : Around) (s : Shared) (H : Hp) (C : Addr) (cl : List (Str × Addr)) (code : Value) (bi : Addr) (fp : List Addr) (pn : List (Addr × Obj)), Room k A → PE (gCx X A s H (genEnv scope cl C code bi X.env) fp pn) elt te)
    (hs : ∀ v, genFold iter X.env v = pure v) (I : Inv X pins σ H s) (h : tGen P go wi g tt te (own.map (·.2)) σ H Q) :
    wpAny (model X.prog X.w) X.A (eval (.GeneratorExp elt [⟨tg, iter, ifs, 0⟩] scope gpos) X.env) (GReady X pins σ go Q) X.xe s := by
  refine wpAny_GeneratorExp_make hco (closure_ok fun n hn hf => free_has I ok hn hf) hcell h0 ok.kind hr.depth ?_ hs
  refine thn (hi.run pins s σ H _ I h) fun xv s1 hx => thn hx fun itv s2 h2 => ?_
  obtain ⟨it, fp, tn, J, H2, rfl, I2, T, st2, f2, hP, W, ⟨m0, w0⟩, turn⟩ := h2
  refine ⟨I2.nolimit, ?_⟩
  obtain ⟨ps, hPs, hT⟩ : tabφ P s2.heap := (I2.hok P _ hP).1
  have cd : PySem.W.CodeHd s2.heap c P := TB.code.keeps I2.bk
  have cont : ∀ (code : Value) (h3 : Heap) (tk : Nat) (ps' : Array Value), (∀ b o, b ≠ P → s2.heap.get? b = some o → h3.get? b = some o) → h3.get? P = some { cls := .none, data := .fields ps' } → TriplesOk ps'.toList →
      wpAny (model X.prog X.w) X.A (builtinsFor X.env.globals X.env.builtins) (fun bi s₄ =>
        ∀ h', h'.Ns s₄.heap.objs.size (fun y => if y = ".0" then some (.ref it) else none) → Heap.SameBut s₄.heap.objs.size (s₄.heap.push { cls := .type "frame", data := .dict #[] }) h' →
          GReady X pins σ go Q (.ref h'.objs.size) { s₄ with
            gens := s₄.gens.push (.fresh (.compStart (.GeneratorExp elt [⟨tg, iter, ifs, 0⟩] scope gpos) 0 (.ref it) .none (genEnv scope (cloFrom X.env.cells scope.names []) s₄.heap.objs.size code bi X.env))),
            toks := s₄.toks + 1 + 1 + 1,
            heap := h'.push { cls := .type "generator", data := .fields #[.int s₄.gens.size 0, .str "<genexpr>" (s₄.toks + 1), .str (X.env.qual ++ "<genexpr>") (s₄.toks + 1 + 1)] } }) X.xe { s2 with heap := h3, toks := tk } := by
    intro code h3 tk ps' k3 hm3 ht3
    have I3 : Inv X pins σ H2 { s2 with heap := h3, toks := tk } := inv_code I2 hP k3 hm3 ht3
    obtain ⟨bm, ob, e1, e2, e3, e4, e5, e6, e7, e8⟩ := TB.bm
    refine wpAny_builtinsFor (m := X.mg) (by rw [I3.ok.glob]; exact I3.mod.glob.keeps I3.bk) e1 e2 (I3.bk _ _ e5) e6 e7 e8 ?_
    intro h' hn' hs'
    generalize hs3 : ({ s2 with heap := h3, toks := tk } : Shared) = s3 at I3 hn' hs' ⊢
    have h3e : s3.heap = h3 := by rw [← hs3]
    have nP : ∀ b ∈ fp, b ≠ P := fun b hb z => by
      have := (f2 b hb).1
      rw [z, hP] at this
      cases this
    have st3 : tn 0 s3.heap := T.keep _ _ _ st2 fun b hb o e => by rw [h3e]; exact k3 b o (nP b hb) e
    have f3 : ∀ b ∈ fp, FpOk X pins H2 b ∧ b < s3.heap.objs.size := fun b hb => by
      obtain ⟨o, e, _⟩ := T.obj _ _ st3 b hb
      exact ⟨f2 b hb, Heap.lt_size e⟩
    have hsz : h'.objs.size = s3.heap.objs.size + 1 := by rw [hs'.1, Heap.size_push]
    have keep' : ∀ b o, s3.heap.get? b = some o → h'.get? b = some o := fun b o e => hs'.extBut b o (Nat.ne_of_lt (Heap.lt_size e)) (Heap.get?_push_of_some _ e)
    have key : ∀ (gobj : Obj) (fr : GenState) (tk5 : Nat), fr = .fresh (.compStart (.GeneratorExp elt [⟨tg, iter, ifs, 0⟩] scope gpos) 0 (.ref it) .none (genEnv scope (cloFrom X.env.cells scope.names []) s3.heap.objs.size code builtinsNs X.env)) →
        (∀ h : Heap, h.get? h'.objs.size = some gobj → h.IsGen h'.objs.size s3.gens.size) → (∀ v, gobj.data ≠ .cell v) → gobj.isFreed = false →
        GReady X pins σ go Q (.ref h'.objs.size) { s3 with gens := s3.gens.push fr, toks := tk5, heap := h'.push gobj } := by
      intro gobj fr tk5 hfr hgen hcellg hfreed
      generalize hge : genEnv scope (cloFrom X.env.cells scope.names []) s3.heap.objs.size code builtinsNs X.env = ge at hfr
      have hpush : (h'.push gobj).get? h'.objs.size = some gobj := Heap.get?_push_size _ hfreed
      have keep5 : ∀ b o, s3.heap.get? b = some o → (h'.push gobj).get? b = some o := fun b o e => Heap.get?_push_of_some _ (keep' b o e)
      let A1 : Around := X.A.in1.in1.over (.compLoop (.GeneratorExp elt [⟨tg, iter, ifs, 0⟩] scope gpos) 0 (.ref it) .none ge) []
      have r1 : Room k A1 := room_gen (hr.in1 (k := k + 2)).in1
      have fr1 : A1.frames = some (ge :: X.stack) := over_gen (A := X.A.in1.in1) I3.ok.frames
      generalize hs6 : (({ s3 with gens := s3.gens.push fr, toks := tk5, heap := h'.push gobj } : Shared).setGen s3.gens.size .running) = s6
      have h6 : s6.heap = h'.push gobj := by rw [← hs6]; rfl
      have bare5 : AllBare (s3.gens.push fr) := AllBare.push I3.bare (by rw [hfr]; rfl)
      have bare6 : AllBare s6.gens := by rw [← hs6]; exact allBare_setGen (s := { s3 with gens := s3.gens.push fr, toks := tk5, heap := h'.push gobj }) bare5 rfl
      have I6 : Inv (gCx X A1 s3 H2 ge fp [(h'.objs.size, gobj)]) [] (wipe σ (own.map (·.2))) H2 s6 := by
        refine gen_start (m := fun y => if y = ".0" then some (.ref it) else none) I3 ok hcell hN f3 (by rw [← hge]; rfl) (by rw [← hge]; rfl) (by rw [← hge]; exact I3.ok.glob) (by rw [← hge]; rfl) (by rw [← hge]; rfl) (by rw [← hge]; rfl)
          fr1 r1.hd (fun b o e => by rw [h6]; exact keep5 b o e) (by rw [← hs6]; rfl) bare6 (by rw [h6]; exact hn'.push _) (fun p hp => ?_)
        rw [List.mem_singleton.mp hp]
        refine ⟨by rw [h6]; exact hpush, ?_, hcellg⟩
        show s3.heap.objs.size < h'.objs.size
        omega
      refine ⟨gCx X A1 s3 H2 ge fp [(h'.objs.size, gobj)], h'.objs.size, s3.gens.size, m0 + 1, rfl, rfl, rfl, fun σ' H' s1 J1 => hgen _ (J1.pin (h'.objs.size, gobj) (List.mem_append_left _ List.mem_cons_self)).1, fun σ' H' s1 J1 => ?_, hgen _ hpush, I3.nolimit.keeps keep5, fr, Array.getElem?_push_size .., ?_⟩
      · exact I3.call' (ch := fp) J1.os J1.base J1.hok J1.bare fun b hb => ⟨(f3 b hb).1.2.2.2.1, (f3 b hb).1.2.1, (f3 b hb).1.2.2.2.2.1, (f3 b hb).1.2.2.2.2.2⟩
      · rw [hs6, hfr]
        refine ⟨rfl, ?_⟩
        have pg := hg A1 s3 H2 s3.heap.objs.size (cloFrom X.env.cells scope.names []) code builtinsNs fp [(h'.objs.size, gobj)] r1
        have pt := ht A1 s3 H2 s3.heap.objs.size (cloFrom X.env.cells scope.names []) code builtinsNs fp [(h'.objs.size, gobj)] r1
        have pe := he A1 s3 H2 s3.heap.objs.size (cloFrom X.env.cells scope.names []) code builtinsNs fp [(h'.objs.size, gobj)] r1
        rw [hge] at pg pt pe
        have st6 : tn 0 s6.heap := T.keep _ _ _ st3 fun b _ o e => by rw [h6]; exact keep5 b o e
        refine seg_startA (G := gCx X A1 s3 H2 ge fp [(h'.objs.size, gobj)]) T st6 ?_
        refine seg_genA (G := gCx X A1 s3 H2 ge fp [(h'.objs.size, gobj)]) (W := W) (σ := σ) (vs := own.map (·.2)) rfl rfl rfl rfl rfl (by rw [← hge]; exact hco) (fun b hb p hp => ?_) T pg pt pe turn m0 (m0 + 1) 0 s6 s6 H2 (Nat.lt_succ_self _) I6 st6 (fun b hb => (f3 b hb).1.1) w0
        rw [List.mem_singleton.mp hp]
        show h'.objs.size ≠ b
        exact Nat.ne_of_gt (by rw [hsz]; exact Nat.lt_succ_of_lt (f3 b hb).2)
    exact key _ _ _ rfl (fun h e => ⟨_, _, _, e, rfl, rfl, rfl⟩) (fun v q => by cases q) rfl
  cases hf : codeAmong gpos ps.toList with
  | none =>
    refine wpAny_genexprCodeX hcode (cd.code hPs hT) (cd.tab hPs) hf fun c' h' tk hx hge hlt hco' _ htab' _ => ?_
    obtain ⟨o1, vs, f1, tf, fl, tg, inF, tx, tt, op, _, _, _, _, _, _, _, _, _, htr, _⟩ := hco'
    exact cont _ h' tk _ (fun b o hb e => hx b o hb e) htab'.2 htr
  | some cv =>
    refine wpAny_genexprCode_hit hcode (cd.code hPs hT) hf ?_
    exact cont cv s2.heap s2.toks ps (fun _ _ _ e => e) hPs hT
/-- all(elt for target in iter if ..) -/
theorem pe_allG {k : Nat} {c P : Addr} {elt tg iter : Expr} {ifs : List Expr} {scope : Scope} {own : List (Str × Nat)} {gpos p pos : Pos} {wi : TI} {g : TG} {tt : TT} {te : TE}
    (hr : Room (k + 3) X.A) (hc : X.calm = true) (hgl : Gl X "all") (hm : X.mg "all" = none) (hb : bootBuiltins "all" = some (.builtin "all")) (TB : GxR.TabB X.base X.mg c P) (hcode : X.env.code = .ref c) (hN : X.N.Nodup) (hi : PI X tg iter wi) (ok : BlkOk X.N X.env.scope scope own)
    (hg : ∀ (A : Around) (s : Shared) (H : Hp) (C : Addr) (cl : List (Str × Addr)) (code : Value) (bi : Addr) (fp : List Addr) (pn : List (Addr × Obj)), Room k A → PG (gCx X A s H (genEnv scope cl C code bi X.env) fp pn) tg g)
    (ht : ∀ (A : Around) (s : Shared) (H : Hp) (C : Addr) (cl : List (Str × Addr)) (code : Value) (bi : Addr) (fp : List Addr) (pn : List (Addr × Obj)), Room k A → PTs (gCx X A s H (genEnv scope cl C code bi X.env) fp pn) ifs tt)
    (he : ∀ (A : Around) (s : Shared) (H : Hp) (C : Addr) (cl : List (Str × Addr)) (code : Value) (bi : Addr) (fp : List Addr) (pn : List (Addr × Obj)), Room k A → PE (gCx X A s H (genEnv scope cl C code bi X.env) fp pn) elt te)
    (hs : ∀ v, genFold iter X.env v = pure v := by intro _; rfl) (hco : scope.isCoroutine = false := by rfl) (hcell : (scope.names.all fun y => decide (y.2 ≠ .cell)) = true := by rfl) (h0 : scope.names.lookup (".0" : Str) = some NameKind.local := by rfl)
    (he' : starEach [.GeneratorExp elt [⟨tg, iter, ifs, 0⟩] scope gpos] X.env = (false, eval (.GeneratorExp elt [⟨tg, iter, ifs, 0⟩] scope gpos) X.env) :: starEach [] X.env := by rfl) :
    PE X (.Call (.Name "all" p) [.GeneratorExp elt [⟨tg, iter, ifs, 0⟩] scope gpos] [] pos) (tGen P true wi g tt te (own.map (·.2))) := by
  refine ⟨fun pins s σ H Q I h => ?_⟩
  have hcell' : ∀ y ∈ scope.names, y.2 ≠ .cell := fun y hy => of_decide_eq_true (List.all_eq_true.mp hcell y hy)
  refine wpAny_Call_Name_kw (ld_blt I hgl hm hb ?_)
  refine PyProof.Rows.callWith_builtin1 ?_ he' (by rfl)
  rw [he']
  show wpAny _ _ (spliced ((false, eval (.GeneratorExp elt [⟨tg, iter, ifs, 0⟩] scope gpos) X.env) :: backTo pos (starEach [] X.env))) _ _ s
  refine Calls.spliced_cons (thn (gen_core hr hc TB hcode hco hcell' h0 hN ok hi hg ht he hs I h) fun u s' hG => ?_)
  refine Calls.spliced_nil ?_
  obtain ⟨G, a, gi, n, eP, eW, rfl, hgen, back, hga, hl, hgs⟩ := hG
  refine call_function_tree F.kind_all F.plain_all F.entry_all (F.args_all1 _) ?_
  unfold Builtin.«all»
  refine wpAny_bind (m := oneArg "all" _) (wpAny_pure ?_)
  refine wpAny_bind (wpAny_pyIter_gen hga ?_)
  refine wpAny_pure ⟨plainId_quiet F.plain_all_loop _, ?_⟩
  rw [← eP, ← eW]
  refine all_loopA (A := X.A) hr.hd hr.depth hgen (fun b σ' H' s1 s2 J q ho hb2 hk => ?_) n s' hga hl hgs
  have J2 := back σ' H' s1 J
  exact ⟨.bl b, H', J2.call' (ch := []) ho (Un.kept hk) (J2.hok.kept hk) hb2 (fun b hb => absurd hb List.not_mem_nil), rfl, q⟩
/-- any(elt for target in iter if ..) -/
theorem pe_anyG {k : Nat} {c P : Addr} {elt tg iter : Expr} {ifs : List Expr} {scope : Scope} {own : List (Str × Nat)} {gpos p pos : Pos} {wi : TI} {g : TG} {tt : TT} {te : TE}
    (hr : Room (k + 3) X.A) (hc : X.calm = true) (hgl : Gl X "any") (hm : X.mg "any" = none) (hb : bootBuiltins "any" = some (.builtin "any")) (TB : GxR.TabB X.base X.mg c P) (hcode : X.env.code = .ref c) (hN : X.N.Nodup) (hi : PI X tg iter wi) (ok : BlkOk X.N X.env.scope scope own)
    (hg : ∀ (A : Around) (s : Shared) (H : Hp) (C : Addr) (cl : List (Str × Addr)) (code : Value) (bi : Addr) (fp : List Addr) (pn : List (Addr × Obj)), Room k A → PG (gCx X A s H (genEnv scope cl C code bi X.env) fp pn) tg g)
    (ht : ∀ (A : Around) (s : Shared) (H : Hp) (C : Addr) (cl : List (Str × Addr)) (code : Value) (bi : Addr) (fp : List Addr) (pn : List (Addr × Obj)), Room k A → PTs (gCx X A s H (genEnv scope cl C code bi X.env) fp pn) ifs tt)
    (he : ∀ (A : Around) (s : Shared) (H : Hp) (C : Addr) (cl : List (Str × Addr)) (code : Value) (bi : Addr) (fp : List Addr) (pn : List (Addr × Obj)), Room k A → PE (gCx X A s H (genEnv scope cl C code bi X.env) fp pn) elt te)
    (hs : ∀ v, genFold iter X.env v = pure v := by intro _; rfl) (hco : scope.isCoroutine = false := by rfl) (hcell : (scope.names.all fun y => decide (y.2 ≠ .cell)) = true := by rfl) (h0 : scope.names.lookup (".0" : Str) = some NameKind.local := by rfl)
    (he' : starEach [.GeneratorExp elt [⟨tg, iter, ifs, 0⟩] scope gpos] X.env = (false, eval (.GeneratorExp elt [⟨tg, iter, ifs, 0⟩] scope gpos) X.env) :: starEach [] X.env := by rfl) :
    PE X (.Call (.Name "any" p) [.GeneratorExp elt [⟨tg, iter, ifs, 0⟩] scope gpos] [] pos) (tGen P false wi g tt te (own.map (·.2))) := by
  refine ⟨fun pins s σ H Q I h => ?_⟩
  have hcell' : ∀ y ∈ scope.names, y.2 ≠ .cell := fun y hy => of_decide_eq_true (List.all_eq_true.mp hcell y hy)
  refine wpAny_Call_Name_kw (ld_blt I hgl hm hb ?_)
  refine PyProof.Rows.callWith_builtin1 ?_ he' (by rfl)
  rw [he']
  show wpAny _ _ (spliced ((false, eval (.GeneratorExp elt [⟨tg, iter, ifs, 0⟩] scope gpos) X.env) :: backTo pos (starEach [] X.env))) _ _ s
  refine Calls.spliced_cons (thn (gen_core hr hc TB hcode hco hcell' h0 hN ok hi hg ht he hs I h) fun u s' hG => ?_)
  refine Calls.spliced_nil ?_
  obtain ⟨G, a, gi, n, eP, eW, rfl, hgen, back, hga, hl, hgs⟩ := hG
  refine call_function_tree F.kind_any F.plain_any F.entry_any (F.args_any1 _) ?_
  unfold Builtin.«any»
  refine wpAny_bind (m := oneArg "any" _) (wpAny_pure ?_)
  refine wpAny_bind (wpAny_pyIter_gen hga ?_)
  refine wpAny_pure ⟨plainId_quiet F.plain_any_loop _, ?_⟩
  rw [← eP, ← eW]
  refine any_loopA (A := X.A) hr.hd hr.depth hgen (fun b σ' H' s1 s2 J q ho hb2 hk => ?_) n s' hga hl hgs
  have J2 := back σ' H' s1 J
  exact ⟨.bl b, H', J2.call' (ch := []) ho (Un.kept hk) (J2.hok.kept hk) hb2 (fun b hb => absurd hb List.not_mem_nil), rfl, q⟩
end
end Zc
end

section
set_option maxHeartbeats 4000000
/-! A law's end where its program's defs hold generator expressions: the tables of their code objects. -/
namespace Zc
open PySem PySem.Spec PyProof.Rows L2
/-- cs: code objects and their tables; all tables are known as such -/
def Tabs (cs : List (Addr × Addr)) (H : Hp) : Prop := ∀ p ∈ cs, H p.2 = some (tabX p.2)
theorem Tabs.same {cs : List (Addr × Addr)} {H H' : Hp} (h : Tabs cs H) (s : Same H H') : Tabs cs H' := fun p hp => s _ _ (h p hp)
/-- the heap at the law's entry: the script (if it isn't of the written part), the tables -/
def hp0 (cs : List (Addr × Addr)) (a : Option (Addr × HO)) : Hp := fun b =>
  if b ∈ cs.map (·.2) then some (tabX b) else match a with
    | some q => if b = q.1 then some q.2 else none
    | none => none
theorem hp0_tab {cs : List (Addr × Addr)} {a : Option (Addr × HO)} : Tabs cs (hp0 cs a) := fun p hp => if_pos (List.mem_map.mpr ⟨p, hp, rfl⟩)
theorem hp0_in {cs : List (Addr × Addr)} {a : Option (Addr × HO)} {b : Addr} (hb : b ∈ cs.map (·.2)) : hp0 cs a b = some (tabX b) := if_pos hb
theorem hp0_out {cs : List (Addr × Addr)} {b : Addr} (hb : b ∉ cs.map (·.2)) : hp0 cs none b = none := if_neg hb
theorem hp0_at {cs : List (Addr × Addr)} {q : Addr × HO} (hb : q.1 ∉ cs.map (·.2)) : hp0 cs (some q) q.1 = some q.2 := (if_neg hb).trans (if_pos rfl)
theorem hp0_else {cs : List (Addr × Addr)} {q : Addr × HO} {b : Addr} (hb : b ∉ cs.map (·.2)) (hq : b ≠ q.1) : hp0 cs (some q) b = none := (if_neg hb).trans (if_neg hq)
section
variable {P : Program} {w : World} {K : PySem.W.Frag} {mg : Str → Option Value}
theorem callGT {mb : Str → Option Value} {k : Nat} {fa a : Addr} {fd : FuncData} {x : Str} {sp : Sp} {cs : List (Addr × Addr)}
    {s₁ : Shared} {vs : List Value} {ns : List Int}
    (KX : K.In s₁.heap) (gl : s₁.heap.Ns mainGlobals mg) (bn : s₁.heap.Ns builtinsNs mb)
    (bb : ∀ x : Str, x ≠ "__name__" → mb x = bootBuiltins x)
    (lim : s₁.heap.NoLimit) (gens : s₁.gens = #[])
    (tabs : ∀ p ∈ cs, s₁.heap.get? p.2 = some { cls := .none, data := .fields #[] } ∧ K.lookup p.2 = none ∧ PySem.W.CodeHd s₁.heap p.1 p.2)
    (main_ : ∃ (bm : Addr) (ob : Obj), mg "__builtins__" = some (.ref bm) ∧ bm ≠ builtinsNs ∧ s₁.heap.get? bm = some ob ∧ ob.cls = .type "module" ∧ ob.dict = some builtinsNs ∧ ob.data = .plain)
    (ha : s₁.heap.get? a = some { cls := .type "list", data := .seq vs.toArray })
    (hi : IntsAre vs ns) (hl : ns.length ≤ sizeLine) (hr : Room k callerA)
    (F : ∀ base : Heap, K.In base → base.Ns mainGlobals mg → (∀ p ∈ cs, GxR.TabB base mg p.1 p.2) → FnG P w K mg base k fa fd [x] sp)
    (bind : ∀ (s : Shared) (u : Value), BindsTo s fd ⟨[u], []⟩ [(x, u)])
    (hsp : ∀ H : Hp, Tabs cs H → SqL K H a (ns.map V.int) → sp [.ref a] H (fun v H' => v = .bl true ∧ Tabs cs H') fun _ _ _ => False) :
    codeAny (model P w) callerA (.call (.ref fa) ⟨[.ref a], []⟩)
      (fun r s' => r = .ok (.ret (.bool true)) ∧ OldK s₁.heap s'.heap ∧ s'.os = s₁.os ∧ AllBare s'.gens) s₁ := by
  have rv := vals_ints hi
  have lv := hi.length
  have tabAt : ∀ b ∈ cs.map (·.2), s₁.heap.get? b = some { cls := .none, data := .fields #[] } := fun b hb =>
    (List.mem_map.mp hb).elim fun p q => by
      rw [← q.2]
      exact (tabs p q.1).1
  have aOut : a ∉ cs.map (·.2) := fun z => by
    have e := tabAt a z
    rw [ha] at e
    have d : Data.seq vs.toArray 0 = Data.fields #[] := congrArg Obj.data (Option.some.inj e)
    exact Data.noConfusion d
  -- what is tracked at the entry is the script or a table
  have run : ∀ H : Hp, (∀ b, H b ≠ none → b = a ∨ b ∈ cs.map (·.2)) → (∀ b u, H b = some u → b ∉ cs.map (·.2) → ∃ o xs, u = .frz o (.lst xs)) → Tabs cs H → SqL K H a (ns.map V.int) →
      HOk P w H s₁.heap → (H a ≠ none → K.lookup a = none) →
      codeAny (model P w) callerA (.call (.ref fa) ⟨[.ref a], []⟩)
        (fun r s' => r = .ok (.ret (.bool true)) ∧ OldK s₁.heap s'.heap ∧ s'.os = s₁.os ∧ AllBare s'.gens) s₁ := by
    intro H only frozen hT hS ok away
    -- an object that is neither a list nor an empty table is not tracked
    have offT : ∀ {b : Addr} {o : Obj}, s₁.heap.get? b = some o → (∀ us n, o.data ≠ .seq us n) → o.data ≠ .fields #[] → H b = none := fun {b o} e n1 n2 => by
      cases q : H b with
      | none => rfl
      | some u =>
        exfalso
        rcases only b (by rw [q]; intro z; cases z) with z | z
        · rw [z, ha] at e
          exact n1 vs.toArray 0 (by rw [← Option.some.inj e])
        · rw [tabAt b z] at e
          exact n2 (by rw [← Option.some.inj e])
    have dictOff : ∀ {b : Addr} {o : Obj} {es : Array DictEntry} {ep : Nat}, s₁.heap.get? b = some o → o.data = .dict es ep → H b = none := fun {b o es ep} e d =>
      offT e (fun us n z => by rw [d] at z; exact Data.noConfusion z) (fun z => by rw [d] at z; exact Data.noConfusion z)
    have nsHid : ∀ {b : Addr} {m : Str → Option Value}, s₁.heap.Ns b m → (hidT s₁.heap H).Ns b m := by
      rintro b m ⟨o, es, ep, e, d, r⟩
      exact ⟨o, es, ep, hidT_get e (dictOff e d), d, r⟩
    have kinHid : K.In (hidT s₁.heap H) := by
      intro b o e
      refine hidT_get (KX b o e) ?_
      cases q : H b with
      | none => rfl
      | some u =>
        exfalso
        have nn : H b ≠ none := by rw [q]; intro z; cases z
        rcases only b nn with z | z
        · rw [z] at e nn
          rw [away nn] at e
          cases e
        · obtain ⟨p, hp, ep⟩ := List.mem_map.mp z
          rw [← ep, (tabs p hp).2.1] at e
          cases e
    have md : Mod K mg (hidT s₁.heap H) := by
      refine ⟨kinHid, nsHid gl, ⟨mb, nsHid bn, bb⟩, ?_⟩
      obtain ⟨mc, h1, h2⟩ := lim
      exact ⟨mc, nsHid h1, h2⟩
    have tb : ∀ p ∈ cs, GxR.TabB (hidT s₁.heap H) mg p.1 p.2 := by
      intro p hp
      obtain ⟨t1, t2, t3⟩ := tabs p hp
      refine ⟨?_, ?_, fun z => ?_⟩
      · obtain ⟨o, us, f1, f2, f3, f4, f5, f6, f7, c1, c2, c3, c4, c5⟩ := t3
        refine ⟨o, us, f1, f2, f3, f4, f5, f6, f7, hidT_get c1 (offT c1 (fun xs n z => ?_) fun z => ?_), c2, c3, c4, c5⟩
        · rw [c3] at z
          exact Data.noConfusion z
        · rw [c3] at z
          have z2 : us = #[] := Data.fields.inj z
          rw [z2] at c4
          simp at c4
      · obtain ⟨bm, ob, b1, b2, b3, b4, b5, b6⟩ := main_
        refine ⟨bm, ob, b1, b2, fun z => ?_, fun z => ?_, hidT_get b3 (offT b3 (fun xs n z => ?_) fun z => ?_), b4, b5, b6⟩
        · obtain ⟨o, es, ep, e, d, _⟩ := gl
          rw [z, e] at b3
          rw [← Option.some.inj b3, d] at b6
          exact Data.noConfusion b6
        · rw [z, t1] at b3
          rw [← Option.some.inj b3] at b6
          exact Data.noConfusion b6
        · rw [b6] at z
          exact Data.noConfusion z
        · rw [b6] at z
          exact Data.noConfusion z
      · obtain ⟨o, es, ep, e, d, _⟩ := gl
        rw [z, t1] at e
        rw [← Option.some.inj e] at d
        exact Data.noConfusion d
    have e0 : Env0 P w K mg (hidT s₁.heap H) callerA [] s₁ H := by
      refine ⟨rfl, md, fun b o e => of_hidT e, Nat.le_of_eq (hidT_size _ _), trivial, ?_, ok, .of_eq gens⟩
      intro b hb
      exact absurd (show b ∈ ([] : List Addr) from hb) List.not_mem_nil
    have done := (F _ kinHid (nsHid gl) tb).run callerA [] s₁ H ⟨[.ref a], []⟩ [.ref a] [.ref a] _ _ hr rfl e0 (bind s₁ (.ref a)) (.cons rfl .nil) (hsp H hT hS)
    refine codeAny_mono done ?_
    intro r s' h
    match r, h with
    | .error e, h => exact False.elim h
    | .ok .next, h => exact False.elim h
    | .ok .brk, h => exact False.elim h
    | .ok .cont, h => exact False.elim h
    | .ok (.ret u), h =>
      obtain ⟨v, H', os, bare, un, ok', r', hv, hT'⟩ := h
      subst hv
      have r2 : u = Value.bool true := r'
      subst r2
      have grown : ∀ b ∈ cs.map (·.2), ∃ more : Array Value, s'.heap.get? b = some { cls := .none, data := .fields more } := fun b hb =>
        (List.mem_map.mp hb).elim fun p q => by
          obtain ⟨⟨more, em, _⟩, _⟩ := ok' p.2 _ (hT' p q.1)
          rw [← q.2]
          exact ⟨more, em⟩
      have stays : ∀ b o, b ∉ cs.map (·.2) → s₁.heap.get? b = some o → s'.heap.get? b = some o := by
        intro b o nb e
        match q : H b with
        | none => exact un.keep b o e q (fun z => absurd (show b ∈ ([] : List Addr) from z) List.not_mem_nil) List.not_mem_nil
        | some u =>
          obtain ⟨ob, xs, rfl⟩ := frozen b u q nb
          obtain ⟨g1, _⟩ := ok b _ q
          obtain ⟨g2, _⟩ := ok' b _ (un.frzs b ob _ q)
          rw [e] at g1
          rw [Option.some.inj g1]
          exact g2
      refine ⟨rfl, ⟨fun b o e => ?_, fun b o e => ?_⟩, os, bare⟩
      · by_cases hb : b ∈ cs.map (·.2)
        · obtain ⟨more, hm⟩ := grown b hb
          obtain ⟨p, hp, ep⟩ := List.mem_map.mp hb
          obtain ⟨t1, _, t3⟩ := tabs p hp
          rw [tabAt b hb] at e
          rw [← Option.some.inj e]
          refine .inr (.inl ⟨?_, rfl, #[], more, rfl, by rw [Array.empty_append]; exact hm⟩)
          rw [← ep]
          exact (t3.tab t1).isCodeTable
        · exact .inl (stays b o hb e)
      · by_cases hb : b ∈ cs.map (·.2)
        · exact (grown b hb).elim fun more hm => ⟨_, hm⟩
        · exact ⟨o, stays b o hb e⟩
  have tabOk : ∀ {H : Hp} (b : Addr), b ∈ cs.map (·.2) → ObjOk P w H s₁.heap b (tabX b) := fun b hb => ⟨⟨#[], tabAt b hb, trivial⟩, ⟨_, tabAt b hb⟩, tabφ_stay⟩
  match hk : K.lookup a with
  | some o =>
    have e := KX a o hk
    rw [ha] at e
    have e' := Option.some.inj e
    subst e'
    refine run (hp0 cs none) (fun b hb => ?_) (fun b u hu nb => ?_) hp0_tab ?_ (fun b u hu => ?_) (fun z => ?_)
    · exact (Classical.em (b ∈ cs.map (·.2))).elim .inr fun nb => absurd (hp0_out nb) hb
    · rw [hp0_out nb] at hu
      cases hu
    · exact Or.inr ⟨_, vs.toArray, _, hk, rfl, rfl, rfl, by rw [List.size_toArray, lv]; exact hl, by simpa using rv⟩
    · by_cases hb : b ∈ cs.map (·.2)
      · rw [hp0_in hb] at hu
        rw [← Option.some.inj hu]
        exact tabOk b hb
      · rw [hp0_out hb] at hu
        cases hu
    · exact absurd (hp0_out aOut) z
  | none =>
    refine run (hp0 cs (some (a, .frz { cls := .type "list", data := .seq vs.toArray } (.lst (ns.map V.int))))) (fun b hb => ?_) (fun b u hu nb => ?_) hp0_tab ?_ (fun b u hu => ?_) (fun _ => hk)
    · by_cases nb : b ∈ cs.map (·.2)
      · exact .inr nb
      · by_cases ba : b = a
        · exact .inl ba
        · exact absurd (hp0_else nb ba) hb
    · by_cases ba : b = a
      · subst ba
        rw [hp0_at (q := (b, _)) nb] at hu
        exact ⟨_, _, (Option.some.inj hu).symm⟩
      · rw [hp0_else nb ba] at hu
        cases hu
    · exact Or.inl (Or.inr ⟨_, hp0_at (q := (a, _)) aOut⟩)
    · by_cases nb : b ∈ cs.map (·.2)
      · rw [hp0_in nb] at hu
        rw [← Option.some.inj hu]
        exact tabOk b nb
      · by_cases ba : b = a
        · subst ba
          rw [hp0_at (q := (b, _)) nb] at hu
          rw [← Option.some.inj hu]
          refine ⟨ha, ?_, vs, _, rv, ha⟩
          rw [List.length_map]
          exact hl
        · rw [hp0_else nb ba] at hu
          cases hu
end
/-- the table of the def with this name is empty at the law's entry, and its code object as made -/
def OwnT (K : PySem.W.Frag) (mg : Str → Option Value) (h : Heap) (x : Str) : Prop :=
  ∀ (f c p : Addr) (fo co : Obj) (fd : FuncData) (vs : Array Value), mg x = some (.ref f) → K.lookup f = some fo → fo.data = .func fd → fd.code = .ref c → K.lookup c = some co → co.data = .fields vs → vs[11]? = some (.ref p) →
    h.get? p = some { cls := .none, data := .fields #[] } ∧ PySem.W.CodeHd h c p
/-- the goal that the head leaves, from a promise that asks tables -/
theorem walkGT {l : PySem.W.OpenLaw} {n k : Nat} {q : Program} {loose : List Str}
    {XP : (Str → Option Value) → Heap → Prop} {YP : World → Heap → Prop} {d : DefRec}
    {K : Params → PySem.W.Frag} {x : Str} (xs : List Str)
    (hn : l.most = some n) (hn2 : n ≤ sizeLine) (hdf : d.params.defaults = []) (hr : Room k callerA)
    (hY : ∀ (w : World) (h : Heap), YP w h → (K w.params).In h) (hx : (xs.all fun y => (recsOf q).any fun r => r.name == y) = true)
    (F : ∀ (w : World) (mg : Str → Option Value) (fa : Addr) (h : Heap), (K w.params).In h → h.Ns mainGlobals mg →
      mg d.name = some (.ref fa) → (∀ y ∈ xs, OwnT (K w.params) mg h y) →
      ∃ (fd : FuncData) (cs : List (Addr × Addr)) (sp : Sp), (∀ p ∈ cs, h.get? p.2 = some { cls := .none, data := .fields #[] } ∧ (K w.params).lookup p.2 = none ∧ PySem.W.CodeHd h p.1 p.2) ∧
        (∀ (s : Shared) (u : Value), BindsTo s fd ⟨[u], []⟩ [(x, u)]) ∧
        (∀ base : Heap, (K w.params).In base → base.Ns mainGlobals mg → (∀ p ∈ cs, GxR.TabB base mg p.1 p.2) → FnG l.prog w (K w.params) mg base k fa fd [x] sp) ∧
        (∀ (H : Hp) (a : Addr) (ns : List Int), ns.length ≤ n → Tabs cs H → SqL (K w.params) H a (ns.map V.int) → sp [.ref a] H (fun v H' => v = .bl true ∧ Tabs cs H') fun _ _ _ => False)) :
    PySem.W.WalkO q loose XP YP l.row.toRowW d [] (fun f vs => PySem.call f vs) := by
  apply Att.attach_call hn hdf
  intro w s₀ s₁ mg mb fa o pm cd doc a vs ns G Y ho hd hcd hmg hobj hints hlen hg
  have kx := hY w _ Y
  have own : ∀ y ∈ xs, OwnT (K w.params) mg s₁.heap y := by
    intro y hy f c p fo co fd us e1 e2 e3 e4 e5 e6 e7
    obtain ⟨r, hr1, hr2⟩ := List.any_eq_true.mp (List.all_eq_true.mp hx y hy)
    obtain ⟨f', o', fd', c', p', t1, t2, t3, t4, t5, t6⟩ := G.T.tab r hr1
    rw [beq_iff_eq.mp hr2, e1] at t1
    have ef : f' = f := (Value.ref.inj (Option.some.inj t1)).symm
    subst ef
    rw [kx _ _ e2] at t2
    have eo : o' = fo := (Option.some.inj t2).symm
    subst eo
    rw [e3] at t3
    have efd : fd' = fd := (Data.func.inj t3).symm
    subst efd
    rw [e4] at t4
    have ec : c' = c := (Value.ref.inj t4).symm
    subst ec
    have hd2 := PySem.W.CodeHd.of t5 t6
    obtain ⟨⟨oc, uc, g1, _, g3, g4⟩, g5⟩ := t6
    rw [kx _ _ e5] at g1
    have eco : oc = co := (Option.some.inj g1).symm
    subst eco
    rw [e6] at g3
    have eus : uc = us := (Data.fields.inj g3).symm
    subst eus
    rw [e7] at g4
    have epp : p' = p := (Value.ref.inj (Option.some.inj g4)).symm
    subst epp
    exact ⟨g5, hd2⟩
  obtain ⟨fd, cs, sp, hT, hb, hF, hsp⟩ := F w mg fa _ kx G.T.g hmg own
  exact callGT kx G.T.g G.T.b G.T.builtins G.T.nolimit hg hT G.T.bmain hobj hints (Nat.le_trans hlen hn2) hr hF hb (fun H hH hS => hsp H a ns hlen hH hS)
section
variable {P : Program} {w : World} {K : PySem.W.Frag} {mg : Str → Option Value} {base : Heap}
/-- a def whose code object is known -/
theorem fn_okC {x qual : Str} {st : Stmt} {f c : Addr} {fd : FuncData} {N ps : List Str} {k : Nat} {sp : Sp} (F : Fun K x qual st f fd) (hc : fd.code = .ref c) (S : FnScope N ps (defScope st)) (len : ∀ vs H Q E, sp vs H Q E → vs.length = ps.length)
    (body : ∀ (A : Around) (outer : List Env) (s : Shared) (H : Hp) (vs : List V) (Q : VK) (E : XK), Room k (A.deeper (envOfC qual (defScope st) s.heap.objs.size f (.ref c))) → sp vs H Q E →
      ∃ t, PSs (cxOf CX0 P w K mg base N qual (defScope st) f (.ref c) A outer s H E).nox (defBody st) t ∧ t { nx := fun _ H' => Q .non H', rt := Q } (start N vs) H) : FnOk P w K mg base CX0 (k + 1) f fd ps sp := by
  obtain ⟨oc, od, kV, doc, pm, an, cdv, ct, osl, rfl, lk, hcd⟩ := F.ex
  have e : cdv = .ref c := hc
  subst e
  refine fn_of lk hcd S len fun A outer s H vs Q E hr hsp => ?_
  exact (body A outer s H vs Q E hr hsp).elim fun t r => ⟨t, r.1.nox, r.2⟩
/-- a def with generator expressions: its code object c, the table p -/
structure AtT (K : PySem.W.Frag) (mg : Str → Option Value) (base : Heap) (x : Str) (st : Stmt) (ps : List Str) (f : Addr) (fd : FuncData) (c p : Addr) : Prop where
  at_ : At K mg x st ps f fd
  code : fd.code = .ref c
  tab : GxR.TabB base mg c p
end
end Zc
end

section
set_option maxHeartbeats 2000000
/-! Data that stand: in a part T of the heap that nobody writes. -/
namespace Zc
open PySem PySem.Spec PyProof.Rows L2
mutual
/-- v is the data d, all of whose objects stand in T -/
def Da (T : Hp) : PyData → V → Prop
  | .none, v => v = .non
  | .bool b, v => v = .bl b
  | .int i, v => v = .int i
  | .str x, v => v = .str x
  | .list ds, v => ∃ a xs, v = .ref a ∧ T a = some (.lst xs) ∧ DaA T ds xs
  | .tuple ds, v => ∃ a xs, v = .ref a ∧ T a = some (.tup xs) ∧ DaA T ds xs
  | .dict _, _ => False
def DaA (T : Hp) : List PyData → List V → Prop
  | [], xs => xs = []
  | d :: ds, xs => ∃ v vs, xs = v :: vs ∧ Da T d v ∧ DaA T ds vs
end
mutual
theorem Da.keep {T T' : Hp} (s : Same T T') : ∀ (d : PyData) (v : V), Da T d v → Da T' d v
  | .none, _, h => h
  | .bool _, _, h => h
  | .int _, _, h => h
  | .str _, _, h => h
  | .list ds, _, ⟨a, xs, e, h, r⟩ => ⟨a, xs, e, s _ _ h, DaA.keep s ds xs r⟩
  | .tuple ds, _, ⟨a, xs, e, h, r⟩ => ⟨a, xs, e, s _ _ h, DaA.keep s ds xs r⟩
  | .dict _, _, h => h
theorem DaA.keep {T T' : Hp} (s : Same T T') : ∀ (ds : List PyData) (vs : List V), DaA T ds vs → DaA T' ds vs
  | [], _, h => h
  | d :: ds, _, ⟨v, vs, e, h, r⟩ => ⟨v, vs, e, Da.keep s d v h, DaA.keep s ds vs r⟩
end
mutual
theorem Da.dp {K : PySem.W.Frag} {T : Hp} : ∀ (d : PyData) (v : V), Da T d v → Dp K T v d
  | .none, _, h => by cases h; exact .non
  | .bool b, _, h => by cases h; exact .bl b
  | .int i, _, h => by cases h; exact .int i
  | .str x, _, h => by cases h; exact .str x
  | .list ds, _, ⟨a, xs, e, h, r⟩ => by cases e; exact .lst (.inl (.inl h)) (DaA.dp ds xs r)
  | .tuple ds, _, ⟨a, xs, e, h, r⟩ => by cases e; exact .tup (.inl (.inl h)) (DaA.dp ds xs r)
  | .dict _, _, h => h.elim
theorem DaA.dp {K : PySem.W.Frag} {T : Hp} : ∀ (ds : List PyData) (vs : List V), DaA T ds vs → DpAll K T vs ds
  | [], _, h => by cases h; exact .nil
  | d :: ds, _, ⟨v, vs, e, h, r⟩ => by cases e; exact .cons (Da.dp d v h) (DaA.dp ds vs r)
end
/-- as data of the whole heap -/
theorem Da.dpH {K : PySem.W.Frag} {T H : Hp} {d : PyData} {v : V} (h : Da T d v) (s : Same T H) : Dp K H v d := Dp.keep (Da.dp d v h) s
section
variable {T T' H : Hp}
theorem DaA.len : ∀ {ds : List PyData} {vs : List V}, DaA T ds vs → vs.length = ds.length
  | [], _, h => by cases h; rfl
  | d :: ds, _, ⟨v, vs, e, _, r⟩ => by cases e; rw [List.length_cons, List.length_cons, DaA.len r]
theorem DaA.get : ∀ {ds : List PyData} {vs : List V} {i : Nat} {x : V}, DaA T ds vs → vs[i]? = some x → ∃ d, ds[i]? = some d ∧ Da T d x
  | [], _, i, x, h, e => by cases h; cases e
  | d :: ds, _, 0, x, ⟨v, vs, q, h, _⟩, e => by cases q; cases e; exact ⟨d, rfl, h⟩
  | d :: ds, _, i + 1, x, ⟨v, vs, q, _, r⟩, e => by cases q; exact DaA.get (i := i) r e
theorem DaA.at : ∀ {ds : List PyData} {vs : List V} {i : Nat} {d : PyData}, DaA T ds vs → ds[i]? = some d → ∃ x, vs[i]? = some x ∧ Da T d x
  | [], _, i, d, h, e => by cases e
  | d :: ds, _, 0, x, ⟨v, vs, q, h, _⟩, e => by cases q; cases e; exact ⟨v, rfl, h⟩
  | d :: ds, _, i + 1, x, ⟨v, vs, q, _, r⟩, e => by cases q; exact DaA.at (i := i) r e
theorem DaA.app : ∀ {ds es : List PyData} {vs us : List V}, DaA T ds vs → DaA T es us → DaA T (ds ++ es) (vs ++ us)
  | [], es, _, us, h, g => by cases h; exact g
  | d :: ds, es, _, us, ⟨v, vs, q, h, r⟩, g => by cases q; exact ⟨v, vs ++ us, rfl, h, DaA.app r g⟩
theorem DaA.one {d : PyData} {v : V} (h : Da T d v) : DaA T [d] [v] := ⟨v, [], rfl, h, rfl⟩
theorem DaA.two {d e : PyData} {v u : V} (h : Da T d v) (g : Da T e u) : DaA T [d, e] [v, u] := ⟨v, [u], rfl, h, DaA.one g⟩
theorem DaA.three {d e f : PyData} {v u x : V} (h : Da T d v) (g : Da T e u) (i : Da T f x) : DaA T [d, e, f] [v, u, x] := ⟨v, [u, x], rfl, h, DaA.two g i⟩
theorem DaA.snoc {ds : List PyData} {vs : List V} {d : PyData} {v : V} (h : DaA T ds vs) (g : Da T d v) : DaA T (ds ++ [d]) (vs ++ [v]) := h.app (DaA.one g)
theorem DaA.take : ∀ {ds : List PyData} {vs : List V} (k : Nat), DaA T ds vs → DaA T (ds.take k) (vs.take k)
  | ds, vs, 0, h => by rw [List.take_zero, List.take_zero]; rfl
  | [], _, k + 1, h => by cases h; rfl
  | d :: ds, _, k + 1, ⟨v, vs, q, h, r⟩ => by cases q; exact ⟨v, vs.take k, rfl, h, DaA.take k r⟩
theorem DaA.drop : ∀ {ds : List PyData} {vs : List V} (k : Nat), DaA T ds vs → DaA T (ds.drop k) (vs.drop k)
  | ds, vs, 0, h => h
  | [], _, k + 1, h => by cases h; rfl
  | d :: ds, _, k + 1, ⟨v, vs, q, h, r⟩ => by cases q; exact DaA.drop k r
theorem DaA.rev : ∀ {ds : List PyData} {vs : List V}, DaA T ds vs → DaA T ds.reverse vs.reverse
  | [], _, h => by cases h; rfl
  | d :: ds, _, ⟨v, vs, q, h, r⟩ => by
    cases q
    rw [List.reverse_cons, List.reverse_cons]
    exact (DaA.rev r).snoc h
theorem DaA.ints : ∀ (ns : List Int), DaA T (ns.map PyData.int) (ns.map V.int)
  | [] => rfl
  | n :: r => ⟨.int n, r.map V.int, rfl, rfl, DaA.ints r⟩
theorem DaA.of_ints : ∀ {ns : List Int} {vs : List V}, DaA T (ns.map PyData.int) vs → vs = ns.map V.int
  | [], _, h => h
  | n :: r, _, ⟨v, vs, q, h, g⟩ => by
    have h' : v = .int n := h
    rw [q, h', DaA.of_ints g]
    rfl
/-- a new object -/
theorem Da.tup {p : Addr} {ds : List PyData} {xs : List V} (e : T p = some (.tup xs)) (h : DaA T ds xs) : Da T (.tuple ds) (.ref p) := ⟨p, xs, rfl, e, h⟩
theorem Da.lst {p : Addr} {ds : List PyData} {xs : List V} (e : T p = some (.lst xs)) (h : DaA T ds xs) : Da T (.list ds) (.ref p) := ⟨p, xs, rfl, e, h⟩
end
/-- more stands, in a heap that has grown: what stands newly was free -/
structure Ext (T H T' H' : Hp) : Prop where
  hh : Same H H'
  tt : Same T T'
  th : Same T' H'
  nw : ∀ b, T' b ≠ none → T b ≠ none ∨ H b = none
section
variable {T H T1 H1 T2 H2 : Hp}
theorem Ext.refl (s : Same T H) : Ext T H T H := ⟨Same.refl H, Same.refl T, s, fun b h => .inl h⟩
theorem Ext.trans (a : Ext T H T1 H1) (b : Ext T1 H1 T2 H2) : Ext T H T2 H2 :=
  ⟨a.hh.trans b.hh, a.tt.trans b.tt, b.th, fun c h => (b.nw c h).elim (a.nw c) fun z => .inr (a.hh.free z)⟩
/-- the heap alone has grown -/
theorem Ext.more (s : Same T H) (h : Same H H1) : Ext T H T H1 := ⟨h, Same.refl T, s.trans h, fun b h => .inl h⟩
/-- what a new address holds stands from now on -/
theorem Ext.put {p : Addr} {o : HO} (s : Same T H) (hh : Same H H1) (n : H p = none) (e : H1 p = some o) : Ext T H (upd T p o) H1 := by
  have tp : T p = none := s.free n
  refine ⟨hh, same_new tp, fun b u hb => ?_, fun b hb => ?_⟩
  · by_cases q : b = p
    · subst q
      rw [upd_same] at hb
      cases hb
      exact e
    · rw [upd_ne q] at hb
      exact hh _ _ (s _ _ hb)
  · by_cases q : b = p
    · exact .inr (q ▸ n)
    · rw [upd_ne q] at hb
      exact .inl hb
theorem Ext.new {p : Addr} {o : HO} (s : Same T H) (n : H p = none) : Ext T H (upd T p o) (upd H p o) := Ext.put s (same_new n) n upd_same
theorem Ext.out {b : Addr} {o : HO} (x : Ext T H T1 H1) (n : T b = none) (h : H b = some o) : T1 b = none := by
  cases q : T1 b with
  | none => rfl
  | some u =>
    rcases x.nw b (by rw [q]; intro z; cases z) with z | z
    · exact absurd n z
    · rw [h] at z
      cases z
theorem same_upd {b : Addr} {o : HO} (s : Same T H) (n : T b = none) : Same T (upd H b o) := fun c u e => by
  rw [upd_ne (fun q => by rw [q, n] at e; cases e)]
  exact s _ _ e
end

/-! ### isinstance of data -/
def isIntD : PyData → Bool
  | .int _ => true
  | _ => false
def isNumD : PyData → Bool
  | .int i => decide (0 ≤ i)
  | _ => false
def isBoolD : PyData → Bool
  | .bool _ => true
  | _ => false
def isTupD : PyData → Bool
  | .tuple _ => true
  | _ => false
def isLstD : PyData → Bool
  | .list _ => true
  | _ => false
def isStrD : PyData → Bool
  | .str _ => true
  | _ => false
/-- what isinstance asks of data -/
theorem Da.ask {K : PySem.W.Frag} {T H : Hp} {d : PyData} {v : V} (h : Da T d v) (s : Same T H) :
    ∃ t, TyX K H v t ∧ PySem.W.kitOne K t (.type "int") = some (isIntD d || isBoolD d) ∧ PySem.W.kitOne K t (.type "bool") = some (isBoolD d) ∧
      PySem.W.kitOne K t (.type "tuple") = some (isTupD d) ∧ PySem.W.kitOne K t (.type "list") = some (isLstD d) ∧ PySem.W.kitOne K t (.type "str") = some (isStrD d) := by
  cases d with
  | none => cases h; exact ⟨_, .base .non, kit_ty (r := false) (by decide +kernel), kit_ty (r := false) (by decide +kernel), kit_ty (r := false) (by decide +kernel), kit_ty (r := false) (by decide +kernel), kit_ty (r := false) (by decide +kernel)⟩
  | bool b => cases h; exact ⟨_, .base (.bl b), kit_ty (r := true) (by decide +kernel), kit_ty (r := true) (by decide +kernel), kit_ty (r := false) (by decide +kernel), kit_ty (r := false) (by decide +kernel), kit_ty (r := false) (by decide +kernel)⟩
  | int i => cases h; exact ⟨_, .base (.int i), kit_ty (r := true) (by decide +kernel), kit_ty (r := false) (by decide +kernel), kit_ty (r := false) (by decide +kernel), kit_ty (r := false) (by decide +kernel), kit_ty (r := false) (by decide +kernel)⟩
  | str x => cases h; exact ⟨_, .base (.str x), kit_ty (r := false) (by decide +kernel), kit_ty (r := false) (by decide +kernel), kit_ty (r := false) (by decide +kernel), kit_ty (r := false) (by decide +kernel), kit_ty (r := true) (by decide +kernel)⟩
  | list ds =>
    obtain ⟨a, xs, rfl, e, _⟩ := h
    exact ⟨_, .base (.lst (s _ _ e)), kit_ty (r := false) (by decide +kernel), kit_ty (r := false) (by decide +kernel), kit_ty (r := false) (by decide +kernel), kit_ty (r := true) (by decide +kernel), kit_ty (r := false) (by decide +kernel)⟩
  | tuple ds =>
    obtain ⟨a, xs, rfl, e, _⟩ := h
    exact ⟨_, .base (.tup (s _ _ e)), kit_ty (r := false) (by decide +kernel), kit_ty (r := false) (by decide +kernel), kit_ty (r := true) (by decide +kernel), kit_ty (r := false) (by decide +kernel), kit_ty (r := false) (by decide +kernel)⟩
  | dict _ => exact h.elim

/-! ### a promise over data: what is handed back is data, too -/
def spP (C : Hp → Prop) (f : List PyData → Option PyData) : Sp := fun vs H Q _ => ∃ (T : Hp) (ds : List PyData) (r : PyData), Same T H ∧ DaA T ds vs ∧ f ds = some r ∧ C H ∧
  ∀ H' T' v, Ext T H T' H' → Da T' r v → Q v H'
abbrev C0 : Hp → Prop := fun _ => True
/-- .. a truth -/
def spB (C : Hp → Prop) (f : List PyData → Option Bool) : Sp := fun vs H Q _ => ∃ (T : Hp) (ds : List PyData) (r : Bool), Same T H ∧ DaA T ds vs ∧ f ds = some r ∧ C H ∧
  ∀ H' T', Ext T H T' H' → Q (.bl r) H'

/-! ### comprehensions over what stands -/
theorem take_snocD {ds : List PyData} {i : Nat} {d : PyData} (h : ds[i]? = some d) : ds.take (i + 1) = ds.take i ++ [d] := by
  rw [List.take_add_one, h]
  rfl
theorem filter_snoc {p : PyData → Bool} {f : PyData → PyData} {ds : List PyData} {i : Nat} {d : PyData} (h : ds[i]? = some d) :
    ((ds.take (i + 1)).filter p).map f = ((ds.take i).filter p).map f ++ (if p d = true then [f d] else []) := by
  rw [take_snocD h, List.filter_append, List.map_append]
  congr 1
  cases hp : p d with
  | true => rw [List.filter_cons_of_pos hp]; rfl
  | false => rw [List.filter_cons_of_neg (by rw [hp]; exact Bool.false_ne_true)]; rfl
/-- what is walked hands out these data, whatever new there is -/
structure Gives (J : It) (T H1 : Hp) (ds : List PyData) : Prop where
  go : ∀ (i : Nat) (H' : Hp), i < ds.length → Same H1 H' → J.go i H'
  stop : ∀ H', Same H1 H' → J.stop ds.length H'
  yl : ∀ (i : Nat) (x : V) (H' H2 : Hp), i < ds.length → J.yld i H' x H2 → Same H1 H' → ∃ d T2, ds[i]? = some d ∧ Ext T H' T2 H2 ∧ Da T2 d x
theorem gives_list {K : PySem.W.Frag} {T H1 : Hp} {a : Addr} {xs : List V} {ds : List PyData} (s : Same T H1) (e : T a = some (.lst xs)) (h : DaA T ds xs) : Gives (Itl K a) T H1 ds where
  go := fun i H' hi s' => by
    have hx : i < xs.length := by rw [h.len]; exact hi
    exact ⟨xs, xs[i], .inl (.inl (s' _ _ (s _ _ e))), List.getElem?_eq_getElem hx⟩
  stop := fun H' s' => ⟨xs, .inl (.inl (s' _ _ (s _ _ e))), by rw [h.len]; exact Nat.le_refl _⟩
  yl := fun i x H' H2 _ y s' => by
    obtain ⟨rfl, y⟩ := y
    obtain ⟨d, e1, e2⟩ := h.get (y xs (.inl (.inl (s' _ _ (s _ _ e)))))
    exact ⟨d, T, e1, .refl (s.trans s'), e2⟩
theorem gives_tup {K : PySem.W.Frag} {T H1 : Hp} {a : Addr} {xs : List V} {ds : List PyData} (s : Same T H1) (e : T a = some (.tup xs)) (h : DaA T ds xs) : Gives (Itt K a) T H1 ds where
  go := fun i H' hi s' => by
    have hx : i < xs.length := by rw [h.len]; exact hi
    exact ⟨xs, xs[i], .inl (.inl (s' _ _ (s _ _ e))), List.getElem?_eq_getElem hx⟩
  stop := fun H' s' => ⟨xs, .inl (.inl (s' _ _ (s _ _ e))), by rw [h.len]; exact Nat.le_refl _⟩
  yl := fun i x H' H2 _ y s' => by
    obtain ⟨rfl, y⟩ := y
    obtain ⟨d, e1, e2⟩ := h.get (y xs (.inl (.inl (s' _ _ (s _ _ e)))))
    exact ⟨d, T, e1, .refl (s.trans s'), e2⟩
theorem gives_range {T H1 : Hp} {lo : Int} {n : Nat} (s : Same T H1) : Gives (Itr lo n) T H1 ((List.range n).map fun (i : Nat) => PyData.int (lo + i)) where
  go := fun i H' hi s' => by
    rw [List.length_map, List.length_range] at hi
    exact hi
  stop := fun H' s' => by
    show n ≤ _
    rw [List.length_map, List.length_range]
    exact Nat.le_refl _
  yl := fun i x H' H2 hi y s' => by
    obtain ⟨rfl, rfl⟩ := y
    rw [List.length_map, List.length_range] at hi
    refine ⟨.int (lo + i), T, ?_, .refl (s.trans s'), rfl⟩
    rw [List.getElem?_map, List.getElem?_range hi]
    rfl
/-- [f d for d in ds if p d]: the items ds, one way or another; go: what the walked thing hands out -/
theorem lc_dat {J : It} {g : TG} {tt : TT} {te : TE} {vs : List Nat} {σ : L2.St} {T H1 : Hp} {D : Addr} {Qd : Hp → Prop} {ds : List PyData} (p : PyData → Bool) (f : PyData → PyData)
    (sT : Same T H1) (nD : H1 D = none) (hn : ds.length < sizeLine)
    (wk : Gives J T H1 ds)
    (turn : ∀ (i : Nat) (d : PyData) (x : V) (T2 H2 : Hp) (R : V → Hp → Prop) (R0 : Hp → Prop), ds[i]? = some d → Ext T H1 T2 H2 → Da T2 d x →
      (∀ T3 H3 y, Ext T2 H2 T3 H3 → Da T3 (f d) y → p d = true → R y H3) → (∀ T3 H3, Ext T2 H2 T3 H3 → p d = false → R0 H3) →
      g x (wipe σ vs) H2 fun σ2 H3 => wipe σ2 vs = wipe σ vs ∧ tt σ2 H3 fun b H4 => if b = true then te σ2 H4 R else R0 H4)
    (done : ∀ T' H' ys, Ext T H1 T' H' → T' D = some (.lst ys) → DaA T' ((ds.filter p).map f) ys → Qd H') :
    ∃ W : Nat → Nat → Hp → Prop, (∃ m, W 0 m (upd H1 D (.lst []))) ∧ ∀ i m H, W i m H →
      (J.stop i H ∧ Qd H) ∨ (J.go i H ∧ ∃ Nx : Hp → Prop, (∀ H', Nx H' → ∃ m', m' < m ∧ W (i + 1) m' H') ∧ ∀ x H', J.yld i H x H' → g x (wipe σ vs) H' fun σ2 H2 => wipe σ2 vs = wipe σ vs ∧ tt σ2 H2 fun b H3 =>
        if b = true then te σ2 H3 fun y H4 => ∃ acc, H4 D = some (.lst acc) ∧ acc.length < sizeLine ∧ Nx (upd H4 D (.lst (acc ++ [y]))) else Nx H3) := by
  -- T': what stands beside the list
  let Iv : Nat → Hp → Prop := fun i H => ∃ T' ys, Same T T' ∧ Same T' H ∧ (∀ b, T' b ≠ none → T b ≠ none ∨ H1 b = none) ∧ T' D = none ∧ Same H1 H ∧ H D = some (.lst ys) ∧ DaA T' (((ds.take i).filter p).map f) ys
  refine ⟨fun i m H => m = ds.length - i ∧ i ≤ ds.length ∧ Iv i H, ⟨ds.length, rfl, Nat.zero_le _, T, [], Same.refl T, sT.trans (same_new nD), fun b h => .inl h, sT.free nD, same_new nD, upd_same, rfl⟩, ?_⟩
  rintro i m H ⟨rfl, hi, T', ys, tt1, th, nw, tD, hh, hD, hys⟩
  by_cases hlt : i < ds.length
  · refine .inr ⟨wk.go i H hlt hh, Iv (i + 1), fun H' h => ⟨ds.length - (i + 1), by omega, rfl, hlt, h⟩, fun x H2 hy => ?_⟩
    obtain ⟨d, T2, hd, x2, hx⟩ := wk.yl i x H H2 hlt hy hh
    -- T2 beside T'
    have tD2 : T2 D = none := x2.out (sT.free nD) hD
    let TT : Hp := fun b => match T' b with
      | some o => some o
      | none => T2 b
    have ttT' : Same T' TT := fun b o e => by show (match T' b with | some o => some o | none => T2 b) = some o; rw [e]
    have ttH : Same TT H2 := fun b o e => by
      have e' : (match T' b with | some o => some o | none => T2 b) = some o := e
      cases q : T' b with
      | some u => rw [q] at e'; cases e'; exact x2.hh _ _ (th _ _ q)
      | none => rw [q] at e'; exact x2.th _ _ e'
    have tt2 : Same T2 TT := fun b o e => by
      show (match T' b with | some o => some o | none => T2 b) = some o
      cases q : T' b with
      | none => exact e
      | some u =>
        have := x2.hh _ _ (th _ _ q)
        rw [x2.th _ _ e] at this
        exact this.symm
    have ttD : TT D = none := by
      show (match T' D with | some o => some o | none => T2 D) = none
      rw [tD]
      exact tD2
    have ext1 : Ext T H1 TT H2 := ⟨hh.trans x2.hh, tt1.trans ttT', ttH, fun b hb => by
      have hb' : (match T' b with | some o => some o | none => T2 b) ≠ none := hb
      cases q : T' b with
      | some u => exact nw b (by rw [q]; intro z; cases z)
      | none =>
        rw [q] at hb'
        exact (x2.nw b hb').imp id hh.free⟩
    refine turn i d x TT H2 _ _ hd ext1 (Da.keep tt2 d x hx) (fun T3 H3 y x3 hy3 hp => ?_) (fun T3 H3 x3 hp => ?_)
    · have hD3 : H3 D = some (.lst ys) := x3.hh _ _ (x2.hh _ _ hD)
      have tD3 : T3 D = none := x3.out ttD (x2.hh _ _ hD)
      have lenY : ys.length ≤ i := by
        have h1 := hys.len
        have h2 : (((ds.take i).filter p).map f).length ≤ (ds.take i).length := by
          rw [List.length_map]
          exact List.length_filter_le _ _
        rw [List.length_take] at h2
        omega
      refine ⟨ys, hD3, by omega, T3, ys ++ [y], (tt1.trans ttT').trans x3.tt, same_upd x3.th tD3, fun b hb => ?_, tD3, ?_, upd_same, ?_⟩
      · rcases x3.nw b hb with z | z
        · exact ext1.nw b z
        · exact .inr (ext1.hh.free z)
      · intro b o e
        rw [upd_ne (ne_of_none e nD)]
        exact x3.hh _ _ (ext1.hh _ _ e)
      · rw [filter_snoc hd, hp]
        exact DaA.snoc (DaA.keep (ttT'.trans x3.tt) _ _ hys) hy3
    · have hD3 : H3 D = some (.lst ys) := x3.hh _ _ (x2.hh _ _ hD)
      have tD3 : T3 D = none := x3.out ttD (x2.hh _ _ hD)
      refine ⟨T3, ys, (tt1.trans ttT').trans x3.tt, x3.th, fun b hb => ?_, tD3, ext1.hh.trans x3.hh, hD3, ?_⟩
      · rcases x3.nw b hb with z | z
        · exact ext1.nw b z
        · exact .inr (ext1.hh.free z)
      · rw [filter_snoc hd, hp]
        rw [show (if false = true then [f d] else []) = ([] : List PyData) from if_neg Bool.false_ne_true, List.append_nil]
        exact DaA.keep (ttT'.trans x3.tt) _ _ hys
  · have ei : i = ds.length := by omega
    subst ei
    rw [List.take_length] at hys
    refine .inl ⟨wk.stop H hh, done (upd T' D (.lst ys)) H ys ⟨hh, tt1.trans (same_new tD), ?_, ?_⟩ upd_same (DaA.keep (same_new tD) _ _ hys)⟩
    · intro b o e
      by_cases q : b = D
      · subst q
        rw [upd_same] at e
        cases e
        exact hD
      · rw [upd_ne q] at e
        exact th _ _ e
    · intro b hb
      by_cases q : b = D
      · exact .inr (q ▸ nD)
      · rw [upd_ne q] at hb
        exact nw b hb
/-- all(q d for d in ds if p d), any(..) -/
def anyAll (go : Bool) (q : PyData → Bool) (ds : List PyData) : Bool := if go = true then ds.all q else ds.any q
theorem anyAll_go {go : Bool} {q : PyData → Bool} {ds : List PyData} (h : ∀ d ∈ ds, q d = go) : anyAll go q ds = go := by
  cases go with
  | true => exact (if_pos rfl).trans (List.all_eq_true.mpr h)
  | false =>
    refine (if_neg Bool.false_ne_true).trans ?_
    rw [List.any_eq_false]
    intro d hd
    rw [h d hd]
    exact Bool.false_ne_true
theorem anyAll_no {go : Bool} {q : PyData → Bool} {ds : List PyData} {d : PyData} (hd : d ∈ ds) (h : q d ≠ go) : anyAll go q ds = !go := by
  cases go with
  | true =>
    refine (if_pos rfl).trans ?_
    exact Bool.eq_false_iff.mpr fun z => h (List.all_eq_true.mp z d hd)
  | false =>
    refine (if_neg Bool.false_ne_true).trans ?_
    refine List.any_eq_true.mpr ⟨d, hd, ?_⟩
    cases e : q d with
    | true => rfl
    | false => exact absurd e h
theorem gw_dat {J : It} {go : Bool} {g : TG} {tt : TT} {te : TE} {vs : List Nat} {σ : L2.St} {T H1 : Hp} {Qd : V → Hp → Prop} {ds : List PyData} (p q : PyData → Bool)
    (sT : Same T H1) (wk : Gives J T H1 ds)
    (turn : ∀ (i : Nat) (d : PyData) (x : V) (T2 H2 : Hp) (R : V → Hp → Prop) (R0 : Hp → Prop), ds[i]? = some d → Ext T H1 T2 H2 → Da T2 d x →
      (∀ T3 H3, Ext T2 H2 T3 H3 → p d = true → R (.bl (q d)) H3) → (∀ T3 H3, Ext T2 H2 T3 H3 → p d = false → R0 H3) →
      g x (wipe σ vs) H2 fun σ2 H3 => wipe σ2 vs = wipe σ vs ∧ tt σ2 H3 fun b H4 => if b = true then te σ2 H4 R else R0 H4)
    (done : ∀ T' H', Ext T H1 T' H' → Qd (.bl (anyAll go q (ds.filter p))) H') :
    ∃ W : Nat → Nat → Hp → Prop, (∃ m, W 0 m H1) ∧ gWalk go J g tt te vs σ Qd W := by
  let Iv : Nat → Hp → Prop := fun i H => ∃ T', Ext T H1 T' H ∧ ∀ d ∈ (ds.take i).filter p, q d = go
  refine ⟨fun i m H => m = ds.length - i ∧ i ≤ ds.length ∧ Iv i H, ⟨ds.length, rfl, Nat.zero_le _, T, .refl sT, fun d h => absurd h List.not_mem_nil⟩, ?_⟩
  rintro i m H ⟨rfl, hi, T', x1, hall⟩
  by_cases hlt : i < ds.length
  · refine .inr ⟨wk.go i H hlt x1.hh, Iv (i + 1), fun H' h => ⟨ds.length - (i + 1), by omega, rfl, hlt, h⟩, fun x H2 hy => ?_⟩
    obtain ⟨d, T2, hd, x2, hx⟩ := wk.yl i x H H2 hlt hy x1.hh
    have ext1 : Ext T H1 T2 H2 := (Ext.more sT x1.hh).trans x2
    refine turn i d x T2 H2 _ _ hd ext1 hx (fun T3 H3 x3 hp => ⟨q d, rfl, ?_⟩) (fun T3 H3 x3 hp => ?_)
    · by_cases hq : q d = go
      · rw [if_pos hq]
        refine ⟨T3, ext1.trans x3, fun e he => ?_⟩
        rw [take_snocD hd, List.filter_append] at he
        rcases List.mem_append.mp he with he | he
        · exact hall e he
        · rw [List.mem_singleton.mp (List.mem_filter.mp he).1]
          exact hq
      · rw [if_neg hq]
        have := done T3 H3 (ext1.trans x3)
        rw [anyAll_no (List.mem_filter.mpr ⟨List.mem_of_getElem? hd, hp⟩) hq] at this
        exact this
    · refine ⟨T3, ext1.trans x3, fun e he => ?_⟩
      rw [take_snocD hd, List.filter_append] at he
      rcases List.mem_append.mp he with he | he
      · exact hall e he
      · have e1 := List.mem_filter.mp he
        rw [List.mem_singleton.mp e1.1, hp] at e1
        cases e1.2
  · have ei : i = ds.length := by omega
    subst ei
    rw [List.take_length] at hall
    refine .inl ⟨wk.stop H x1.hh, ?_⟩
    have := done T' H x1
    rw [anyAll_go hall] at this
    exact this
end Zc
end

section
set_option maxHeartbeats 2000000
/-! Walks over data that are written in a known way. -/
namespace Zc
open PySem PySem.Spec PyProof.Rows L2
/-- all(q d for d in ds), any(..), of items of any kind -/
def anyAllA {α : Type} (go : Bool) (q : α → Bool) (ds : List α) : Bool := if go = true then ds.all q else ds.any q
theorem anyAllA_go {α : Type} {go : Bool} {q : α → Bool} {ds : List α} (h : ∀ d ∈ ds, q d = go) : anyAllA go q ds = go := by
  cases go with
  | true => exact (if_pos rfl).trans (List.all_eq_true.mpr h)
  | false =>
    refine (if_neg Bool.false_ne_true).trans ?_
    rw [List.any_eq_false]
    intro d hd
    rw [h d hd]
    exact Bool.false_ne_true
theorem anyAllA_no {α : Type} {go : Bool} {q : α → Bool} {ds : List α} {d : α} (hd : d ∈ ds) (h : q d ≠ go) : anyAllA go q ds = !go := by
  cases go with
  | true =>
    refine (if_pos rfl).trans ?_
    exact Bool.eq_false_iff.mpr fun z => h (List.all_eq_true.mp z d hd)
  | false =>
    refine (if_neg Bool.false_ne_true).trans ?_
    refine List.any_eq_true.mpr ⟨d, hd, ?_⟩
    cases e : q d with
    | true => rfl
    | false => exact absurd e h
theorem take_snocA {α : Type} {ds : List α} {i : Nat} {d : α} (h : ds[i]? = some d) : ds.take (i + 1) = ds.take i ++ [d] := by
  rw [List.take_add_one, h]
  rfl
theorem filter_snocA {α : Type} {p : α → Bool} {f : α → PyData} {ds : List α} {i : Nat} {d : α} (h : ds[i]? = some d) :
    ((ds.take (i + 1)).filter p).map f = ((ds.take i).filter p).map f ++ (if p d = true then [f d] else []) := by
  rw [take_snocA h, List.filter_append, List.map_append]
  congr 1
  cases hp : p d with
  | true => rw [List.filter_cons_of_pos hp]; rfl
  | false => rw [List.filter_cons_of_neg (by rw [hp]; exact Bool.false_ne_true)]; rfl
theorem filter_yes {α : Type} (ds : List α) : ds.filter (fun _ => true) = ds := List.filter_eq_self.mpr fun _ _ => rfl
/-- [f d for d in ds if p d], the items written as data by enc: the items ds, one way or another; go: what the walked thing hands out -/
theorem lc_enc {α : Type} {J : It} {g : TG} {tt : TT} {te : TE} {vs : List Nat} {σ : L2.St} {T H1 : Hp} {D : Addr} {Qd : Hp → Prop} {ds : List α} (enc : α → PyData) (p : α → Bool) (f : α → PyData)
    (sT : Same T H1) (nD : H1 D = none) (hn : ds.length < sizeLine)
    (wk : Gives J T H1 (ds.map enc))
    (turn : ∀ (i : Nat) (d : α) (x : V) (T2 H2 : Hp) (R : V → Hp → Prop) (R0 : Hp → Prop), ds[i]? = some d → Ext T H1 T2 H2 → Da T2 (enc d) x →
      (∀ T3 H3 y, Ext T2 H2 T3 H3 → Da T3 (f d) y → p d = true → R y H3) → (∀ T3 H3, Ext T2 H2 T3 H3 → p d = false → R0 H3) →
      g x (wipe σ vs) H2 fun σ2 H3 => wipe σ2 vs = wipe σ vs ∧ tt σ2 H3 fun b H4 => if b = true then te σ2 H4 R else R0 H4)
    (done : ∀ T' H' ys, Ext T H1 T' H' → T' D = some (.lst ys) → DaA T' ((ds.filter p).map f) ys → Qd H') :
    ∃ W : Nat → Nat → Hp → Prop, (∃ m, W 0 m (upd H1 D (.lst []))) ∧ ∀ i m H, W i m H →
      (J.stop i H ∧ Qd H) ∨ (J.go i H ∧ ∃ Nx : Hp → Prop, (∀ H', Nx H' → ∃ m', m' < m ∧ W (i + 1) m' H') ∧ ∀ x H', J.yld i H x H' → g x (wipe σ vs) H' fun σ2 H2 => wipe σ2 vs = wipe σ vs ∧ tt σ2 H2 fun b H3 =>
        if b = true then te σ2 H3 fun y H4 => ∃ acc, H4 D = some (.lst acc) ∧ acc.length < sizeLine ∧ Nx (upd H4 D (.lst (acc ++ [y]))) else Nx H3) := by
  -- T': what stands beside the list
  let Iv : Nat → Hp → Prop := fun i H => ∃ T' ys, Same T T' ∧ Same T' H ∧ (∀ b, T' b ≠ none → T b ≠ none ∨ H1 b = none) ∧ T' D = none ∧ Same H1 H ∧ H D = some (.lst ys) ∧ DaA T' (((ds.take i).filter p).map f) ys
  refine ⟨fun i m H => m = ds.length - i ∧ i ≤ ds.length ∧ Iv i H, ⟨ds.length, rfl, Nat.zero_le _, T, [], Same.refl T, sT.trans (same_new nD), fun b h => .inl h, sT.free nD, same_new nD, upd_same, rfl⟩, ?_⟩
  rintro i m H ⟨rfl, hi, T', ys, tt1, th, nw, tD, hh, hD, hys⟩
  by_cases hlt : i < ds.length
  · refine .inr ⟨wk.go i H (by rw [List.length_map]; exact hlt) hh, Iv (i + 1), fun H' h => ⟨ds.length - (i + 1), by omega, rfl, hlt, h⟩, fun x H2 hy => ?_⟩
    obtain ⟨d0, T2, hd0, x2, hx⟩ := wk.yl i x H H2 (by rw [List.length_map]; exact hlt) hy hh
    obtain ⟨d, hd, rfl⟩ : ∃ d, ds[i]? = some d ∧ d0 = enc d := by
      rw [List.getElem?_map, List.getElem?_eq_getElem hlt] at hd0
      exact ⟨ds[i], List.getElem?_eq_getElem hlt, (Option.some.inj hd0).symm⟩
    -- T2 beside T'
    have tD2 : T2 D = none := x2.out (sT.free nD) hD
    let TT : Hp := fun b => match T' b with
      | some o => some o
      | none => T2 b
    have ttT' : Same T' TT := fun b o e => by show (match T' b with | some o => some o | none => T2 b) = some o; rw [e]
    have ttH : Same TT H2 := fun b o e => by
      have e' : (match T' b with | some o => some o | none => T2 b) = some o := e
      cases q : T' b with
      | some u => rw [q] at e'; cases e'; exact x2.hh _ _ (th _ _ q)
      | none => rw [q] at e'; exact x2.th _ _ e'
    have tt2 : Same T2 TT := fun b o e => by
      show (match T' b with | some o => some o | none => T2 b) = some o
      cases q : T' b with
      | none => exact e
      | some u =>
        have := x2.hh _ _ (th _ _ q)
        rw [x2.th _ _ e] at this
        exact this.symm
    have ttD : TT D = none := by
      show (match T' D with | some o => some o | none => T2 D) = none
      rw [tD]
      exact tD2
    have ext1 : Ext T H1 TT H2 := ⟨hh.trans x2.hh, tt1.trans ttT', ttH, fun b hb => by
      have hb' : (match T' b with | some o => some o | none => T2 b) ≠ none := hb
      cases q : T' b with
      | some u => exact nw b (by rw [q]; intro z; cases z)
      | none =>
        rw [q] at hb'
        exact (x2.nw b hb').imp id hh.free⟩
    refine turn i d x TT H2 _ _ hd ext1 (Da.keep tt2 (enc d) x hx) (fun T3 H3 y x3 hy3 hp => ?_) (fun T3 H3 x3 hp => ?_)
    · have hD3 : H3 D = some (.lst ys) := x3.hh _ _ (x2.hh _ _ hD)
      have tD3 : T3 D = none := x3.out ttD (x2.hh _ _ hD)
      have lenY : ys.length ≤ i := by
        have h1 := hys.len
        have h2 : (((ds.take i).filter p).map f).length ≤ (ds.take i).length := by
          rw [List.length_map]
          exact List.length_filter_le _ _
        rw [List.length_take] at h2
        omega
      refine ⟨ys, hD3, by omega, T3, ys ++ [y], (tt1.trans ttT').trans x3.tt, same_upd x3.th tD3, fun b hb => ?_, tD3, ?_, upd_same, ?_⟩
      · rcases x3.nw b hb with z | z
        · exact ext1.nw b z
        · exact .inr (ext1.hh.free z)
      · intro b o e
        rw [upd_ne (ne_of_none e nD)]
        exact x3.hh _ _ (ext1.hh _ _ e)
      · rw [filter_snocA hd, hp]
        exact DaA.snoc (DaA.keep (ttT'.trans x3.tt) _ _ hys) hy3
    · have hD3 : H3 D = some (.lst ys) := x3.hh _ _ (x2.hh _ _ hD)
      have tD3 : T3 D = none := x3.out ttD (x2.hh _ _ hD)
      refine ⟨T3, ys, (tt1.trans ttT').trans x3.tt, x3.th, fun b hb => ?_, tD3, ext1.hh.trans x3.hh, hD3, ?_⟩
      · rcases x3.nw b hb with z | z
        · exact ext1.nw b z
        · exact .inr (ext1.hh.free z)
      · rw [filter_snocA hd, hp]
        rw [show (if false = true then [f d] else []) = ([] : List PyData) from if_neg Bool.false_ne_true, List.append_nil]
        exact DaA.keep (ttT'.trans x3.tt) _ _ hys
  · have ei : i = ds.length := by omega
    subst ei
    rw [List.take_length] at hys
    refine .inl ⟨by have := wk.stop H hh; rwa [List.length_map] at this, done (upd T' D (.lst ys)) H ys ⟨hh, tt1.trans (same_new tD), ?_, ?_⟩ upd_same (DaA.keep (same_new tD) _ _ hys)⟩
    · intro b o e
      by_cases q : b = D
      · subst q
        rw [upd_same] at e
        cases e
        exact hD
      · rw [upd_ne q] at e
        exact th _ _ e
    · intro b hb
      by_cases q : b = D
      · exact .inr (q ▸ nD)
      · rw [upd_ne q] at hb
        exact nw b hb
theorem gw_enc {α : Type} {J : It} {go : Bool} {g : TG} {tt : TT} {te : TE} {vs : List Nat} {σ : L2.St} {T H1 : Hp} {Qd : V → Hp → Prop} {ds : List α} (enc : α → PyData) (p q : α → Bool)
    (sT : Same T H1) (wk : Gives J T H1 (ds.map enc))
    (turn : ∀ (i : Nat) (d : α) (x : V) (T2 H2 : Hp) (R : V → Hp → Prop) (R0 : Hp → Prop), ds[i]? = some d → Ext T H1 T2 H2 → Da T2 (enc d) x →
      (∀ T3 H3, Ext T2 H2 T3 H3 → p d = true → R (.bl (q d)) H3) → (∀ T3 H3, Ext T2 H2 T3 H3 → p d = false → R0 H3) →
      g x (wipe σ vs) H2 fun σ2 H3 => wipe σ2 vs = wipe σ vs ∧ tt σ2 H3 fun b H4 => if b = true then te σ2 H4 R else R0 H4)
    (done : ∀ T' H', Ext T H1 T' H' → Qd (.bl (anyAllA go q (ds.filter p))) H') :
    ∃ W : Nat → Nat → Hp → Prop, (∃ m, W 0 m H1) ∧ gWalk go J g tt te vs σ Qd W := by
  let Iv : Nat → Hp → Prop := fun i H => ∃ T', Ext T H1 T' H ∧ ∀ d ∈ (ds.take i).filter p, q d = go
  refine ⟨fun i m H => m = ds.length - i ∧ i ≤ ds.length ∧ Iv i H, ⟨ds.length, rfl, Nat.zero_le _, T, .refl sT, fun d h => absurd h List.not_mem_nil⟩, ?_⟩
  rintro i m H ⟨rfl, hi, T', x1, hall⟩
  by_cases hlt : i < ds.length
  · refine .inr ⟨wk.go i H (by rw [List.length_map]; exact hlt) x1.hh, Iv (i + 1), fun H' h => ⟨ds.length - (i + 1), by omega, rfl, hlt, h⟩, fun x H2 hy => ?_⟩
    obtain ⟨d0, T2, hd0, x2, hx⟩ := wk.yl i x H H2 (by rw [List.length_map]; exact hlt) hy x1.hh
    obtain ⟨d, hd, rfl⟩ : ∃ d, ds[i]? = some d ∧ d0 = enc d := by
      rw [List.getElem?_map, List.getElem?_eq_getElem hlt] at hd0
      exact ⟨ds[i], List.getElem?_eq_getElem hlt, (Option.some.inj hd0).symm⟩
    have ext1 : Ext T H1 T2 H2 := (Ext.more sT x1.hh).trans x2
    refine turn i d x T2 H2 _ _ hd ext1 hx (fun T3 H3 x3 hp => ⟨q d, rfl, ?_⟩) (fun T3 H3 x3 hp => ?_)
    · by_cases hq : q d = go
      · rw [if_pos hq]
        refine ⟨T3, ext1.trans x3, fun e he => ?_⟩
        rw [take_snocA hd, List.filter_append] at he
        rcases List.mem_append.mp he with he | he
        · exact hall e he
        · rw [List.mem_singleton.mp (List.mem_filter.mp he).1]
          exact hq
      · rw [if_neg hq]
        have := done T3 H3 (ext1.trans x3)
        rw [anyAllA_no (List.mem_filter.mpr ⟨List.mem_of_getElem? hd, hp⟩) hq] at this
        exact this
    · refine ⟨T3, ext1.trans x3, fun e he => ?_⟩
      rw [take_snocA hd, List.filter_append] at he
      rcases List.mem_append.mp he with he | he
      · exact hall e he
      · have e1 := List.mem_filter.mp he
        rw [List.mem_singleton.mp e1.1, hp] at e1
        cases e1.2
  · have ei : i = ds.length := by omega
    subst ei
    rw [List.take_length] at hall
    refine .inl ⟨by have := wk.stop H x1.hh; rwa [List.length_map] at this, ?_⟩
    have := done T' H x1
    rw [anyAllA_go hall] at this
    exact this
end Zc
end

section
set_option maxHeartbeats 2000000
/-! Walks whose turns draw from the deal. -/
namespace Zc
open PySem PySem.Spec PyProof.Rows L2
theorem Deal.same {H H' : Hp} {d l : Addr} (h : Deal H d l) (s : Same H H') : Deal H' d l := by
  obtain ⟨xs, b, n, h1, h2, r⟩ := h
  exact ⟨xs, b, n, s _ _ h1, s _ _ h2, r⟩
theorem Deal.ne {H : Hp} {d l m : Addr} (h : Deal H d l) (n : H m = none) : m ≠ d ∧ m ≠ l := by
  obtain ⟨xs, b, _, h1, h2, _⟩ := h
  exact ⟨fun e => (by rw [e, h1] at n; cases n), fun e => (by rw [e, h2] at n; cases n)⟩
theorem Deal.upd {H : Hp} {d l m : Addr} {o : HO} (h : Deal H d l) (n1 : m ≠ d) (n2 : m ≠ l) : Deal (upd H m o) d l := by
  obtain ⟨xs, b, e0, e1, e2, r⟩ := h
  exact ⟨xs, b, e0, by rw [upd_ne (Ne.symm n1)]; exact e1, by rw [upd_ne (Ne.symm n2)]; exact e2, r⟩
/-- more stands; beside it the deal may have turned -/
structure ExD (d l : Addr) (T H T' H' : Hp) : Prop where
  hh : But d l H H'
  tt : Same T T'
  th : Same T' H'
  nw : ∀ b, T' b ≠ none → T b ≠ none ∨ H b = none
section
variable {d l : Addr} {T H T1 H1 T2 H2 : Hp}
theorem Ext.toD (x : Ext T H T1 H1) : ExD d l T H T1 H1 := ⟨.of x.hh, x.tt, x.th, x.nw⟩
theorem ExD.refl (s : Same T H) : ExD d l T H T H := (Ext.refl s).toD
theorem But.free {H H' : Hp} (h : But d l H H') {b : Addr} (nd : b ≠ d) (nl : b ≠ l) (e : H' b = none) : H b = none := by
  cases q : H b with
  | none => rfl
  | some o =>
    rw [h b o nd nl q] at e
    cases e
theorem ExD.trans (hD : Deal H d l) (a : ExD d l T H T1 H1) (hD1 : Deal H1 d l) (b : ExD d l T1 H1 T2 H2) : ExD d l T H T2 H2 :=
  ⟨a.hh.trans b.hh, a.tt.trans b.tt, b.th, fun c h => (b.nw c h).elim (a.nw c) fun z => by
    obtain ⟨_, _, _, e1, e2, _⟩ := hD1
    refine .inr (a.hh.free (fun q => ?_) (fun q => ?_) z)
    · rw [q, e1] at z; cases z
    · rw [q, e2] at z; cases z⟩
/-- the deal has turned -/
theorem ExD.turn (s : Same T H) (td : T d = none) (tl : T l = none) (h : But d l H H1) : ExD d l T H T H1 :=
  ⟨h, Same.refl T, fun b o e => h b o (fun q => by rw [q, td] at e; cases e) (fun q => by rw [q, tl] at e; cases e) (s _ _ e), fun b q => .inl q⟩
theorem ExD.out {b : Addr} {o : HO} (x : ExD d l T H T1 H1) (n : T b = none) (h : H b = some o) : T1 b = none := by
  cases q : T1 b with
  | none => rfl
  | some u =>
    rcases x.nw b (by rw [q]; intro z; cases z) with z | z
    · exact absurd n z
    · rw [h] at z
      cases z
end
/-- what is walked hands out these data, whatever happens beside T -/
structure GivT (J : It) (T : Hp) (ds : List PyData) : Prop where
  go : ∀ (i : Nat) (H' : Hp), i < ds.length → Same T H' → J.go i H'
  stop : ∀ H', Same T H' → J.stop ds.length H'
  yl : ∀ (i : Nat) (x : V) (H' H2 : Hp), i < ds.length → J.yld i H' x H2 → Same T H' → H2 = H' ∧ ∃ e, ds[i]? = some e ∧ Da T e x
theorem givT_list {K : PySem.W.Frag} {T : Hp} {a : Addr} {xs : List V} {ds : List PyData} (e : T a = some (.lst xs)) (h : DaA T ds xs) : GivT (Itl K a) T ds where
  go := fun i H' hi s' => by
    have hx : i < xs.length := by rw [h.len]; exact hi
    exact ⟨xs, xs[i], .inl (.inl (s' _ _ e)), List.getElem?_eq_getElem hx⟩
  stop := fun H' s' => ⟨xs, .inl (.inl (s' _ _ e)), by rw [h.len]; exact Nat.le_refl _⟩
  yl := fun i x H' H2 _ y s' => by
    obtain ⟨rfl, y⟩ := y
    exact ⟨rfl, h.get (y xs (.inl (.inl (s' _ _ e))))⟩
theorem givT_tup {K : PySem.W.Frag} {T : Hp} {a : Addr} {xs : List V} {ds : List PyData} (e : T a = some (.tup xs)) (h : DaA T ds xs) : GivT (Itt K a) T ds where
  go := fun i H' hi s' => by
    have hx : i < xs.length := by rw [h.len]; exact hi
    exact ⟨xs, xs[i], .inl (.inl (s' _ _ e)), List.getElem?_eq_getElem hx⟩
  stop := fun H' s' => ⟨xs, .inl (.inl (s' _ _ e)), by rw [h.len]; exact Nat.le_refl _⟩
  yl := fun i x H' H2 _ y s' => by
    obtain ⟨rfl, y⟩ := y
    exact ⟨rfl, h.get (y xs (.inl (.inl (s' _ _ e))))⟩
theorem givT_range {T : Hp} {lo : Int} {n : Nat} : GivT (Itr lo n) T ((List.range n).map fun (i : Nat) => PyData.int (lo + i)) where
  go := fun i H' hi s' => by
    rw [List.length_map, List.length_range] at hi
    exact hi
  stop := fun H' s' => by
    show n ≤ _
    rw [List.length_map, List.length_range]
    exact Nat.le_refl _
  yl := fun i x H' H2 hi y s' => by
    obtain ⟨rfl, rfl⟩ := y
    rw [List.length_map, List.length_range] at hi
    refine ⟨rfl, .int (lo + i), ?_, rfl⟩
    rw [List.getElem?_map, List.getElem?_range hi]
    rfl
/-- a comprehension whose element, or test, draws; Pi: what holds of the items so far -/
theorem lc_draw {J : It} {g : TG} {tt : TT} {te : TE} {vs : List Nat} {σ : L2.St} {d l : Addr} {T H1 : Hp} {D : Addr} {Qd : Hp → Prop} {ds : List PyData} (Pi : Nat → List PyData → Prop)
    (sT : Same T H1) (td : T d = none) (tl : T l = none) (hD : Deal H1 d l) (nD : H1 D = none) (hn : ds.length < sizeLine) (wk : GivT J T ds) (p0 : Pi 0 []) 
    (turn : ∀ (i : Nat) (e0 : PyData) (x : V) (T2 H2 : Hp) (es : List PyData) (R : V → Hp → Prop) (R0 : Hp → Prop), ds[i]? = some e0 → i < ds.length → Da T2 e0 x → ExD d l T H1 T2 H2 → T2 d = none → T2 l = none → Deal H2 d l → Pi i es →
      (∀ T3 H3 y e, ExD d l T2 H2 T3 H3 → Deal H3 d l → Da T3 e y → Pi (i + 1) (es ++ [e]) → R y H3) → (∀ T3 H3, ExD d l T2 H2 T3 H3 → Deal H3 d l → Pi (i + 1) es → R0 H3) →
      g x (wipe σ vs) H2 fun σ2 H3 => wipe σ2 vs = wipe σ vs ∧ tt σ2 H3 fun b H4 => if b = true then te σ2 H4 R else R0 H4)
    (done : ∀ T' H' ys es, ExD d l T H1 T' H' → Deal H' d l → T' D = some (.lst ys) → DaA T' es ys → Pi ds.length es → Qd H') :
    ∃ W : Nat → Nat → Hp → Prop, (∃ m, W 0 m (upd H1 D (.lst []))) ∧ ∀ i m H, W i m H →
      (J.stop i H ∧ Qd H) ∨ (J.go i H ∧ ∃ Nx : Hp → Prop, (∀ H', Nx H' → ∃ m', m' < m ∧ W (i + 1) m' H') ∧ ∀ x H', J.yld i H x H' → g x (wipe σ vs) H' fun σ2 H2 => wipe σ2 vs = wipe σ vs ∧ tt σ2 H2 fun b H3 =>
        if b = true then te σ2 H3 fun y H4 => ∃ acc, H4 D = some (.lst acc) ∧ acc.length < sizeLine ∧ Nx (upd H4 D (.lst (acc ++ [y]))) else Nx H3) := by
  obtain ⟨nDd, nDl⟩ := hD.ne nD
  let Iv : Nat → Hp → Prop := fun i H => ∃ T' ys es, ExD d l T H1 T' H ∧ Deal H d l ∧ T' D = none ∧ H D = some (.lst ys) ∧ DaA T' es ys ∧ es.length ≤ i ∧ Pi i es
  refine ⟨fun i m H => m = ds.length - i ∧ i ≤ ds.length ∧ Iv i H, ⟨ds.length, rfl, Nat.zero_le _, T, [], [], ⟨.of (same_new nD), Same.refl T, sT.trans (same_new nD), fun b h => .inl h⟩, hD.upd nDd nDl, sT.free nD, upd_same, rfl, Nat.le_refl _, p0⟩, ?_⟩
  rintro i m H ⟨rfl, hi, T', ys, es, x1, hD', tD, hLD, hys, hle, hPi⟩
  have sT' : Same T H := x1.tt.trans x1.th
  by_cases hlt : i < ds.length
  · refine .inr ⟨wk.go i H hlt sT', Iv (i + 1), fun H' h => ⟨ds.length - (i + 1), by omega, rfl, hlt, h⟩, fun x H2 hy => ?_⟩
    obtain ⟨rfl, e0, he0, hx⟩ := wk.yl i x H H2 hlt hy sT'
    have td' : T' d = none := by
      obtain ⟨_, _, _, e1, e2, _⟩ := hD
      exact x1.out td e1
    have tl' : T' l = none := by
      obtain ⟨_, _, _, e1, e2, _⟩ := hD
      exact x1.out tl e2
    refine turn i e0 x T' H2 es _ _ he0 hlt (Da.keep x1.tt _ _ hx) x1 td' tl' hD' hPi (fun T3 H3 y e x3 hD3 hy3 hP3 => ?_) (fun T3 H3 x3 hD3 hP3 => ?_)
    · have h3 : H3 D = some (.lst ys) := x3.hh _ _ nDd nDl hLD
      have tD3 : T3 D = none := x3.out tD hLD
      have xx := ExD.trans hD x1 hD' x3
      refine ⟨ys, h3, by rw [hys.len]; omega, T3, ys ++ [y], es ++ [e], ⟨?_, xx.tt, same_upd xx.th tD3, xx.nw⟩, hD3.upd nDd nDl, tD3, upd_same, (hys.keep x3.tt).snoc hy3, by rw [List.length_append, List.length_singleton]; omega, hP3⟩
      intro b o n1 n2 eb
      rw [upd_ne (ne_of_none eb nD)]
      exact xx.hh b o n1 n2 eb
    · exact ⟨T3, ys, es, ExD.trans hD x1 hD' x3, hD3, x3.out tD hLD, x3.hh _ _ nDd nDl hLD, hys.keep x3.tt, by omega, hP3⟩
  · have ei : i = ds.length := by omega
    subst ei
    refine .inl ⟨wk.stop H sT', done (upd T' D (.lst ys)) H ys es ⟨x1.hh, x1.tt.trans (same_new tD), fun b o e => ?_, fun b hb => ?_⟩ hD' upd_same (hys.keep (same_new tD)) hPi⟩
    · by_cases q : b = D
      · subst q
        rw [upd_same] at e
        cases e
        exact hLD
      · rw [upd_ne q] at e
        exact x1.th _ _ e
    · by_cases q : b = D
      · exact .inr (q ▸ nD)
      · rw [upd_ne q] at hb
        exact x1.nw b hb
end Zc
end

section
set_option maxHeartbeats 400000
/-! The mathematics of closing pairs by rounds. -/
namespace Zc
/-- a row of at most t pairs leads from x to h -/
inductive PathLe (ps : List (Nat × Nat)) : Nat → Nat → Nat → Prop
  | refl (t x : Nat) : PathLe ps t x x
  | step {t x l h : Nat} : PathLe ps t x l → (l, h) ∈ ps → PathLe ps (t + 1) x h
inductive Reach (ps : List (Nat × Nat)) : Nat → Nat → Prop
  | refl (x : Nat) : Reach ps x x
  | step {x l h : Nat} : Reach ps x l → (l, h) ∈ ps → Reach ps x h
variable {ps : List (Nat × Nat)} {n : Nat}
theorem PathLe.up {t x h : Nat} (p : PathLe ps t x h) : PathLe ps (t + 1) x h := by
  induction p with
  | refl t x => exact .refl _ _
  | step _ hm ih => exact .step ih hm
theorem PathLe.mono {t u x h : Nat} (p : PathLe ps t x h) (le : t ≤ u) : PathLe ps u x h := by
  obtain ⟨k, rfl⟩ := Nat.exists_eq_add_of_le le
  induction k with
  | zero => exact p
  | succ k ih => exact (ih (Nat.le_add_right _ _)).up
theorem PathLe.zero {x h : Nat} (p : PathLe ps 0 x h) : x = h := by cases p; rfl
theorem PathLe.reach {t x h : Nat} (p : PathLe ps t x h) : Reach ps x h := by
  induction p with
  | refl t x => exact .refl _
  | step _ hm ih => exact .step ih hm
theorem Reach.trans {x y z : Nat} (a : Reach ps x y) (b : Reach ps y z) : Reach ps x z := by
  induction b with
  | refl => exact a
  | step _ hm ih => exact .step ih hm
/-- where pairs lead upwards -/
theorem Reach.path (r : Nat → Nat) (hr : ∀ p ∈ ps, p.1 = p.2 ∨ r p.1 < r p.2) {x h : Nat} (a : Reach ps x h) : PathLe ps (r h) x h := by
  induction a with
  | refl => exact .refl _ _
  | @step l h _ hm ih =>
    rcases hr _ hm with e | e
    · have e' : l = h := e
      rw [← e']
      exact ih
    · exact (PathLe.step ih hm).mono e
/-- lots that grow -/
structure Closing (n : Nat) (ps : List (Nat × Nat)) (B : List (List Nat)) : Prop where
  len : B.length = n
  lot : ∀ (i : Nat) (b : List Nat), B[i]? = some b → b.Pairwise (· < ·) ∧ (∀ x ∈ b, x < n) ∧ i ∈ b ∧ ∀ x ∈ b, Reach ps x i
def Grows (B B' : List (List Nat)) : Prop := ∀ (i : Nat) (b : List Nat), B[i]? = some b → ∃ b', B'[i]? = some b' ∧ ∀ x ∈ b, x ∈ b'
theorem Grows.refl (B : List (List Nat)) : Grows B B := fun i b h => ⟨b, h, fun _ z => z⟩
theorem lt_of_le_nodup : ∀ {l : List Nat}, l.Pairwise (· ≤ ·) → l.Nodup → l.Pairwise (· < ·)
  | [], _, _ => .nil
  | a :: r, h, nd => by
    cases h with
    | cons h1 h2 =>
      have nd' := List.nodup_cons.mp nd
      refine .cons (fun b hb => ?_) (lt_of_le_nodup h2 nd'.2)
      have := h1 b hb
      exact Nat.lt_of_le_of_ne this fun e => nd'.1 (e ▸ hb)
theorem nodup_of_lt : ∀ {l : List Nat}, l.Pairwise (· < ·) → l.Nodup
  | [], _ => .nil
  | a :: r, h => by
    cases h with
    | cons h1 h2 => exact List.nodup_cons.mpr ⟨fun m => Nat.lt_irrefl _ (h1 a m), nodup_of_lt h2⟩
theorem Closing.step {B : List (List Nat)} {l h : Nat} {bl bh b' : List Nat} (C : Closing n ps B) (hl : B[l]? = some bl) (hh : B[h]? = some bh) (hm : (l, h) ∈ ps)
    (perm : b'.Perm (bh ++ bl.filter fun x => !decide (x ∈ bh))) (srt : b'.Pairwise (· ≤ ·)) : Closing n ps (B.set h b') ∧ Grows B (B.set h b') ∧ ∀ x ∈ bl, x ∈ b' := by
  have hlt : h < B.length := (List.getElem?_eq_some_iff.mp hh).1
  have Cl := C.lot l bl hl
  have Ch := C.lot h bh hh
  have mem : ∀ x, x ∈ b' ↔ x ∈ bh ∨ (x ∈ bl ∧ x ∉ bh) := fun x => by
    rw [perm.mem_iff, List.mem_append, List.mem_filter]
    simp
  have nd : b'.Nodup := by
    rw [perm.nodup_iff, List.nodup_append]
    refine ⟨nodup_of_lt Ch.1, (nodup_of_lt Cl.1).filter _, fun a ha b hb e => ?_⟩
    have := (List.mem_filter.mp hb).2
    rw [← e] at this
    simp [ha] at this
  have all : ∀ x ∈ bl, x ∈ b' := fun x hx => by
    by_cases e : x ∈ bh
    · exact (mem x).mpr (.inl e)
    · exact (mem x).mpr (.inr ⟨hx, e⟩)
  refine ⟨⟨by rw [List.length_set]; exact C.len, fun i b hb => ?_⟩, fun i b hb => ?_, all⟩
  · by_cases e : h = i
    · subst e
      rw [List.getElem?_set_self hlt] at hb
      cases hb
      refine ⟨lt_of_le_nodup srt nd, fun x hx => ?_, (mem h).mpr (.inl Ch.2.2.1), fun x hx => ?_⟩
      · rcases (mem x).mp hx with z | z
        · exact Ch.2.1 x z
        · exact Cl.2.1 x z.1
      · rcases (mem x).mp hx with z | z
        · exact Ch.2.2.2 x z
        · exact .step (Cl.2.2.2 x z.1) hm
    · rw [List.getElem?_set_ne e] at hb
      exact C.lot i b hb
  · by_cases e : h = i
    · subst e
      rw [hh] at hb
      cases hb
      exact ⟨b', List.getElem?_set_self hlt, fun x hx => (mem x).mpr (.inl hx)⟩
    · exact ⟨b, by rw [List.getElem?_set_ne e]; exact hb, fun _ z => z⟩
/-- all rows of at most t pairs are told -/
def Full (n : Nat) (ps : List (Nat × Nat)) (t : Nat) (B : List (List Nat)) : Prop := ∀ (x h : Nat) (b : List Nat), h < n → B[h]? = some b → PathLe ps t x h → x ∈ b
/-- .. and of one more, over the first j pairs -/
def Rnd (ps : List (Nat × Nat)) (t j : Nat) (B : List (List Nat)) : Prop := ∀ p ∈ ps.take j, ∀ (x : Nat) (b : List Nat), B[p.2]? = some b → PathLe ps t x p.1 → x ∈ b
theorem grow_mem {B B' : List (List Nat)} (g : Grows B B') (C : B'.length = B.length) {i : Nat} {b' : List Nat} (h : B'[i]? = some b') : ∃ b, B[i]? = some b ∧ ∀ x ∈ b, x ∈ b' := by
  have hi : i < B.length := by rw [← C]; exact (List.getElem?_eq_some_iff.mp h).1
  obtain ⟨c, hc, hs⟩ := g i B[i] (List.getElem?_eq_getElem hi)
  rw [h] at hc
  cases hc
  exact ⟨_, List.getElem?_eq_getElem hi, hs⟩
theorem Full.grow {B B' : List (List Nat)} {t : Nat} (f : Full n ps t B) (g : Grows B B') (e : B'.length = B.length) : Full n ps t B' := fun x h b hn hb p => by
  obtain ⟨c, hc, hs⟩ := grow_mem g e hb
  exact hs x (f x h c hn hc p)
theorem Rnd.next {B B' : List (List Nat)} {t j l h : Nat} {bl b' : List Nat} (r : Rnd ps t j B) (f : Full n ps t B) (g : Grows B B') (e : B'.length = B.length) (hj : ps[j]? = some (l, h)) (hln : l < n)
    (hl : B[l]? = some bl) (hb' : B'[h]? = some b') (all : ∀ x ∈ bl, x ∈ b') : Rnd ps t (j + 1) B' := fun p hp x b hb pa => by
  rw [List.take_add_one, hj] at hp
  rcases List.mem_append.mp hp with hp | hp
  · obtain ⟨c, hc, hs⟩ := grow_mem g e hb
    exact hs x (r p hp x c hc pa)
  · have : p = (l, h) := by simpa using hp
    subst this
    have hb2 : B'[h]? = some b := hb
    rw [hb'] at hb2
    cases hb2
    exact all x (f x l bl hln hl pa)
theorem Full.next {B : List (List Nat)} {t : Nat} (C : Closing n ps B) (r : Rnd ps t ps.length B) : Full n ps (t + 1) B := fun x h b hn hb p => by
  rw [Rnd, List.take_length] at r
  cases p with
  | refl => exact (C.lot _ b hb).2.2.1
  | step q hm => exact r _ hm x b hb q
theorem Full.zero {B : List (List Nat)} (C : Closing n ps B) : Full n ps 0 B := fun x h b hn hb p => by
  rw [p.zero]
  exact (C.lot h b hb).2.2.1
/-- the order that comes of it -/
structure OrdOk (n : Nat) (O : List (List Nat)) : Prop where
  len : O.length = n
  asc : ∀ (i : Nat) (b : List Nat), O[i]? = some b → b.Pairwise (· < ·)
  lt : ∀ (i : Nat) (b : List Nat), O[i]? = some b → ∀ x ∈ b, x < n
  own : ∀ (i : Nat) (b : List Nat), O[i]? = some b → i ∈ b
theorem Closing.ok {B : List (List Nat)} (C : Closing n ps B) : OrdOk n B := ⟨C.len, fun i b h => (C.lot i b h).1, fun i b h => (C.lot i b h).2.1, fun i b h => (C.lot i b h).2.2.1⟩
def OrdTr (O : List (List Nat)) : Prop := ∀ (i : Nat) (b : List Nat) (j : Nat) (c : List Nat), O[i]? = some b → j ∈ b → O[j]? = some c → ∀ x ∈ c, x ∈ b
theorem ord_trans {O : List (List Nat)} (C : Closing n ps O) (f : Full n ps n O) (r : Nat → Nat) (hr : ∀ p ∈ ps, p.1 = p.2 ∨ r p.1 < r p.2) (hn : ∀ i, i < n → r i < n) : OrdTr O := fun i b j c hb hj hc x hx => by
  have hi : i < n := by rw [← C.len]; exact (List.getElem?_eq_some_iff.mp hb).1
  have ra : Reach ps x i := ((C.lot j c hc).2.2.2 x hx).trans ((C.lot i b hb).2.2.2 j hj)
  exact f x i b hi hb ((ra.path r hr).mono (Nat.le_of_lt (hn i hi)))
/-- the place of a value in a list -/
def idx (row : List Nat) (x : Nat) : Nat := match row with
  | [] => 0
  | a :: r => if a = x then 0 else idx r x + 1
theorem idx_at : ∀ {row : List Nat}, row.Nodup → ∀ {i x : Nat}, row[i]? = some x → idx row x = i
  | [], _, i, x, h => by cases h
  | a :: r, nd, 0, x, h => by
    cases h
    unfold idx
    rw [if_pos rfl]
  | a :: r, nd, i + 1, x, h => by
    have nd' := List.nodup_cons.mp nd
    have h' : r[i]? = some x := h
    unfold idx
    have ne : ¬ a = x := fun e => by
      subst e
      exact nd'.1 (List.mem_of_getElem? h')
    rw [if_neg ne, idx_at nd'.2 h']
end Zc
end

section
set_option maxHeartbeats 4000000
/-! tuple * int, the int 1 or more -/
namespace Zc
open PySem PySem.Spec PyProof.Rows L2
theorem mul_one_same (l : Addr) (items : Array Value) (n : Nat) (u : Tok) :
    Meets (Builtin.«tuple.__mul__» ⟨[.ref l, .int 1 u], []⟩) (fun _ R s => (∃ dd sl, s.heap.get? l = some { cls := .type "tuple", dict := dd, data := .seq items n, slots := sl }) ∧ R (.ok (.ret (Value.ref l))) s) :=
  .of_wp fun prog w A R s h => by
    obtain ⟨hp, g, d, tk, os⟩ := s
    obtain ⟨⟨dd, sl, hl⟩, h⟩ := h
    have f1 := AutoSeq1.idx_int
    wp_walk using wpAny_loadPart' hl
    repeat (first
      | (refine wpAny_ite_false (by decide) ?_; wp_walk using wpAny_loadPart' hl)
      | (refine wpAny_ite_true (by simp) ?_; wp_walk using wpAny_loadPart' hl))
    exact ⟨_, rfl, h⟩
/-- t * k, k from 1 on -/
def rRepA (K : PySem.W.Frag) : R2 := fun x y H Q => ∃ l k xs, x = .ref l ∧ y = .int k ∧ SqT K H l xs ∧ xs ≠ [] ∧ 1 ≤ k ∧ k ≤ 1000 ∧ xs.length ≤ 1000 ∧ (k = 1 → Q (.ref l) H) ∧ (k ≠ 1 → ∀ p, H p = none → Q (.ref p) (upd H p (.tup (List.replicate k.toNat xs).flatten)))
theorem op_repA {X : Cx} : OpR X (binaryOp .Mult) (rRepA X.K) := by
  intro pins s σ H x y v u Q I rx ry h
  obtain ⟨l, k, xs, rfl, rfl, hT, hne, h1, h2, hz, q1, q2⟩ := h
  by_cases e : k = 1
  · subst e
    cases rx
    obtain ⟨t, rfl⟩ := ry
    obtain ⟨its, r, hit, hs⟩ := I.tuple hT
    obtain ⟨⟨cls, dd, data, sl⟩, ho, hc, n, hd⟩ := id hit
    simp only at hc hd
    subst hc hd
    exact wpAny_binaryOp_repeat_ref (T := "tuple") (U := "int") (by decide) ⟨_, ho, rfl⟩ (fun s' => typeIs_int s' 1 t) noFill_tuple_mul F.fills_int_mul F.slot_int_rmul repeat_tuple F.slot_int_index.lookup
      (call_meets F.slot_int_rmul (typeIs_int s 1 t) F.entry_int_rmul (F.args_int_rmul_2 _ _) (int_rmul_tuple 1 t l its.toArray n dd sl)
        ⟨ho, rfl, ⟨_, ho, rfl⟩, call_meets F.slot_tuple_mul ⟨_, ho, rfl⟩ F.entry_tuple_mul (F.args_tuple_mul_2 _ _) (mul_one_same l its.toArray n t) ⟨⟨dd, sl, ho⟩, ⟨.ref l, H, I, rfl, q1 rfl⟩⟩⟩)
  · exact op_repT pins s σ H _ _ v u Q I rx ry ⟨l, k, xs, rfl, rfl, hT, hne, by omega, h2, hz, q2 e⟩
end Zc
end

section
set_option maxHeartbeats 2000000
/-! Readings of sequences' rules, over what stands. -/
namespace Zc
open PySem PySem.Spec PyProof.Rows L2
section
variable {K : PySem.W.Frag} {T H : Hp} {Q : VK}
theorem tup_da {xs : List V} (hz : xs.length ≤ sizeLine) (s : Same T H) (h : ∀ m T' H', Ext T H T' H' → T' m = some (.tup xs) → Q (.ref m) H') :
    xs.length ≤ sizeLine ∧ ∀ p, H p = none → Q (.ref p) (upd H p (.tup xs)) := ⟨hz, fun p np => h p _ _ (Ext.new s np) upd_same⟩
theorem lst_da {xs : List V} (hz : xs.length ≤ sizeLine) (s : Same T H) (h : ∀ m T' H', Ext T H T' H' → T' m = some (.lst xs) → Q (.ref m) H') :
    xs.length ≤ sizeLine ∧ ∀ p, H p = none → Q (.ref p) (upd H p (.lst xs)) := ⟨hz, fun p np => h p _ _ (Ext.new s np) upd_same⟩
theorem sIx_le (n : Nat) (o : Option Int) (d : Nat) (hd : d ≤ n) : HT.sIx n d o ≤ n ∨ (∃ v, o = some v ∧ v < 0) := by
  cases o with
  | none => exact .inl hd
  | some v =>
    by_cases h : v < 0
    · exact .inr ⟨v, rfl, h⟩
    · refine .inl ?_
      show (if v < 0 then _ else _) ≤ n
      rw [if_neg h]
      exact Nat.min_le_right _ _
theorem cutV_all {xs : List V} {lo hi : Option Int} (h : HT.sIx xs.length 0 lo = 0 ∧ HT.sIx xs.length xs.length hi = xs.length) : cutV xs lo hi = xs := by
  unfold cutV
  rw [h.1, h.2, List.drop_zero, Nat.sub_zero, List.take_length]
theorem slA_da {a : Addr} {xs : List V} {lo hi : Option Int} (s : Same T H) (e : T a = some (.tup xs)) (h : ∀ b T' H', Ext T H T' H' → T' b = some (.tup (cutV xs lo hi)) → Q (.ref b) H') : rSlA K (.ref a) lo hi H Q :=
  ⟨a, xs, rfl, .inl (.inl (s _ _ e)), fun w => h a T H (.refl s) (by rw [cutV_all w]; exact e), fun _ p np => h p _ _ (Ext.new s np) upd_same⟩
theorem catA_da {a b : Addr} {xs ys : List V} (s : Same T H) (ea : T a = some (.tup xs)) (eb : T b = some (.tup ys)) (hz : xs.length + ys.length ≤ sizeLine) (h : ∀ c T' H', Ext T H T' H' → T' c = some (.tup (xs ++ ys)) → Q (.ref c) H') : rCatA K (.ref a) (.ref b) H Q :=
  ⟨a, b, xs, ys, rfl, rfl, .inl (.inl (s _ _ ea)), .inl (.inl (s _ _ eb)), hz, fun e => h b T H (.refl s) (by rw [e]; exact eb), fun _ e => h a T H (.refl s) (by rw [e, List.append_nil]; exact ea), fun _ _ p np => h p _ _ (Ext.new s np) upd_same⟩
theorem repA_da {a : Addr} {xs : List V} {k : Nat} (s : Same T H) (ea : T a = some (.tup xs)) (hx : xs ≠ []) (hz : xs.length ≤ 1000) (k1 : 1 ≤ k) (k2 : k ≤ 1000) (h : ∀ c T' H', Ext T H T' H' → T' c = some (.tup (List.replicate k xs).flatten) → Q (.ref c) H') : rRepA K (.ref a) (.int (k : Int)) H Q :=
  ⟨a, k, xs, rfl, rfl, .inl (.inl (s _ _ ea)), hx, by omega, by omega, hz, fun e => h a T H (.refl s) (by
      have : k = 1 := by omega
      rw [this]
      show T a = some (.tup ((xs :: []).flatten))
      rw [List.flatten_cons, List.flatten_nil, List.append_nil]
      exact ea), fun _ p np => h p _ _ (Ext.new s np) (by rw [Int.toNat_natCast]; exact upd_same)⟩
end
theorem noPart {σ : L2.St} {H : Hp} {Q : Option Int → Hp → Prop} (h : Q none H) : tNoPart σ H Q := h
theorem cutV_take (xs : List V) (i : Nat) (h : i ≤ xs.length) : cutV xs none (some (i : Int)) = xs.take i := by
  unfold cutV
  rw [HT.sIx_nat, HT.sIx_none, List.drop_zero, Nat.sub_zero, Nat.min_eq_left h]
theorem cutV_drop (xs : List V) (i : Nat) (h : i ≤ xs.length) : cutV xs (some (i : Int)) none = xs.drop i := by
  unfold cutV
  rw [HT.sIx_nat, HT.sIx_none, Nat.min_eq_left h, List.take_of_length_le (by rw [List.length_drop]; exact Nat.le_refl _)]
end Zc
end

section
set_option maxHeartbeats 2000000
/-! repr of a truth; catA where the written part is named -/
namespace Zc
open PySem PySem.Spec PyProof.Rows L2
def blS (b : Bool) : Str := if b then "True" else "False"
theorem call_repr_bl {X : Cx} : CallR X (.builtin "repr") (fun xs H Q => ∃ b, xs = [.bl b] ∧ Q (.str (blS b)) H) := by
  intro pins s σ H xs us Q I r h
  obtain ⟨b, rfl, q⟩ := h
  obtain ⟨u, rfl, rfl⟩ := vals1 r
  exact PySem.P.repr_of_bool ⟨.str _, H, I.tok _, ⟨_, rfl⟩, q⟩
theorem op_catAK {X : Cx} (K : PySem.W.Frag) (h : X.K = K) : OpR X (binaryOp .Add) (rCatA K) := h ▸ op_catA
end Zc
end

section
set_option maxHeartbeats 400000
namespace K04
open PySem PySem.Spec PyProof.Rows L2 Zc
/-- the statement at a place of the program's top -/
def top (i : Nat) : Stmt :=
  PySem.Challenge.pw_lookalike_k04_records_and_what_is_seen.main.body.getD i (.Pass ⟨0, 0, 0, 0⟩)
abbrev s_is_integer : Stmt := top 1
theorem sc_is_integer : FnScope ["value"]
    ["value"] (defScope s_is_integer) :=
  ⟨rfl, rfl, rfl, by decide +kernel, rfl, by decide +kernel, by decide +kernel⟩
abbrev s_is_number : Stmt := top 2
theorem sc_is_number : FnScope ["value"]
    ["value"] (defScope s_is_number) :=
  ⟨rfl, rfl, rfl, by decide +kernel, rfl, by decide +kernel, by decide +kernel⟩
abbrev s_is_tuple_of : Stmt := top 3
theorem sc_is_tuple_of : FnScope ["value", "many"]
    ["value", "many"] (defScope s_is_tuple_of) :=
  ⟨rfl, rfl, rfl, by decide +kernel, rfl, by decide +kernel, by decide +kernel⟩
abbrev s_are_numbers : Stmt := top 4
theorem sc_are_numbers : FnScope ["value", "part"]
    ["value"] (defScope s_are_numbers) :=
  ⟨rfl, rfl, rfl, by decide +kernel, rfl, by decide +kernel, by decide +kernel⟩
abbrev s_is_level : Stmt := top 6
theorem sc_is_level : FnScope ["levels", "value"]
    ["levels", "value"] (defScope s_is_level) :=
  ⟨rfl, rfl, rfl, by decide +kernel, rfl, by decide +kernel, by decide +kernel⟩
abbrev s_lot_within : Stmt := top 7
theorem sc_lot_within : FnScope ["order", "lot", "level", "low"]
    ["order", "lot", "level"] (defScope s_lot_within) :=
  ⟨rfl, rfl, rfl, by decide +kernel, rfl, by decide +kernel, by decide +kernel⟩
abbrev s_is_input : Stmt := top 9
theorem sc_is_input : FnScope ["order", "value", "stream"]
    ["order", "value"] (defScope s_is_input) :=
  ⟨rfl, rfl, rfl, by decide +kernel, rfl, by decide +kernel, by decide +kernel⟩
abbrev s_alike_inputs : Stmt := top 10
theorem sc_alike_inputs : FnScope ["order", "level", "one", "other", "low"]
    ["order", "level", "one", "other"] (defScope s_alike_inputs) :=
  ⟨rfl, rfl, rfl, by decide +kernel, rfl, by decide +kernel, by decide +kernel⟩
abbrev s_is_deed : Stmt := top 11
theorem sc_is_deed : FnScope ["order", "value"]
    ["order", "value"] (defScope s_is_deed) :=
  ⟨rfl, rfl, rfl, by decide +kernel, rfl, by decide +kernel, by decide +kernel⟩
abbrev s_is_record : Stmt := top 12
theorem sc_is_record : FnScope ["order", "value", "before", "pair"]
    ["order", "value"] (defScope s_is_record) :=
  ⟨rfl, rfl, rfl, by decide +kernel, rfl, by decide +kernel, by decide +kernel⟩
abbrev s_is_seen : Stmt := top 13
theorem sc_is_seen : FnScope ["order", "level", "ends", "deed"]
    ["order", "level", "ends", "deed"] (defScope s_is_seen) :=
  ⟨rfl, rfl, rfl, by decide +kernel, rfl, by decide +kernel, by decide +kernel⟩
abbrev s_seen : Stmt := top 14
theorem sc_seen : FnScope ["order", "level", "ends", "record", "tick", "deed"]
    ["order", "level", "ends", "record"] (defScope s_seen) :=
  ⟨rfl, rfl, rfl, by decide +kernel, rfl, by decide +kernel, by decide +kernel⟩
abbrev s_cut_record : Stmt := top 15
theorem sc_cut_record : FnScope ["record", "tick", "pair"]
    ["record", "tick"] (defScope s_cut_record) :=
  ⟨rfl, rfl, rfl, by decide +kernel, rfl, by decide +kernel, by decide +kernel⟩
abbrev s__law_draw : Stmt := top 17
theorem sc__law_draw : FnScope ["script", "salt", "cells", "blend", "cell"]
    ["script", "salt"] (defScope s__law_draw) :=
  ⟨rfl, rfl, rfl, by decide +kernel, rfl, by decide +kernel, by decide +kernel⟩
abbrev s__law_any : Stmt := top 18
theorem sc__law_any : FnScope ["deal", "bound", "rest"]
    ["deal", "bound"] (defScope s__law_any) :=
  ⟨rfl, rfl, rfl, by decide +kernel, rfl, by decide +kernel, by decide +kernel⟩
abbrev s__law_of : Stmt := top 19
theorem sc__law_of : FnScope ["deal", "some"]
    ["deal", "some"] (defScope s__law_of) :=
  ⟨rfl, rfl, rfl, by decide +kernel, rfl, by decide +kernel, by decide +kernel⟩
abbrev s__law_mixed : Stmt := top 20
theorem sc__law_mixed : FnScope ["deal", "some", "left", "found"]
    ["deal", "some"] (defScope s__law_mixed) :=
  ⟨rfl, rfl, rfl, by decide +kernel, rfl, by decide +kernel, by decide +kernel⟩
abbrev s__law_closed : Stmt := top 21
theorem sc__law_closed : FnScope ["many", "pairs", "below", "turn", "low", "high", "level", "one", "lot"]
    ["many", "pairs"] (defScope s__law_closed) :=
  ⟨rfl, rfl, rfl, by decide +kernel, rfl, by decide +kernel, by decide +kernel⟩
abbrev s__law_order : Stmt := top 22
theorem sc__law_order : FnScope ["deal", "many", "row", "pairs", "a", "b", "turn"]
    ["deal"] (defScope s__law_order) :=
  ⟨rfl, rfl, rfl, by decide +kernel, rfl, by decide +kernel, by decide +kernel⟩
abbrev s__law_record : Stmt := top 23
theorem sc__law_record : FnScope ["deal", "many", "threads", "found", "tick", "turn", "deed"]
    ["deal", "many", "threads"] (defScope s__law_record) :=
  ⟨rfl, rfl, rfl, by decide +kernel, rfl, by decide +kernel, by decide +kernel⟩
abbrev s__law_seen : Stmt := top 24
theorem sc__law_seen : FnScope ["order", "level", "ends", "record", "found", "tick", "deed", "lot", "one"]
    ["order", "level", "ends", "record"] (defScope s__law_seen) :=
  ⟨rfl, rfl, rfl, by decide +kernel, rfl, by decide +kernel, by decide +kernel⟩
abbrev s__law_bad_record : Stmt := top 25
theorem sc__law_bad_record : FnScope ["deal", "record", "many", "at", "odd", "late"]
    ["deal", "record", "many"] (defScope s__law_bad_record) :=
  ⟨rfl, rfl, rfl, by decide +kernel, rfl, by decide +kernel, by decide +kernel⟩
abbrev s_law : Stmt := top 26
theorem sc_law : FnScope ["script", "deal", "order", "many", "threads", "one", "other", "record", "ends", "bad", "tick", "cut", "level", "due", "sight", "lower", "turn", "stream", "thread", "pair", "spot"]
    ["script"] (defScope s_law) :=
  ⟨rfl, rfl, rfl, by decide +kernel, rfl, by decide +kernel, by decide +kernel⟩
end K04
end

section
set_option maxHeartbeats 1000000
namespace K04
open PySem PySem.Spec PyProof.Rows L2 Zc
section
variable {P : Program} {w : World} {K : PySem.W.Frag} {mg : Str → Option Value} {base : Heap}

theorem ok_any {f : Addr} {fd : FuncData} (D : At K mg "_law_any" s__law_any ["deal", "bound"] f fd) (mi : mg "int" = none) :
    FnOk P w K mg base CX0 1 f fd ["deal", "bound"] spAny := by
  refine D.F.ok sc__law_any (fun vs H Q E h => ?_) (fun cdv A outer s H vs Q E hr h => ?_)
  · obtain ⟨d, l, n, rfl, _⟩ := h
    rfl
  obtain ⟨d, l, n, rfl, hD, n0, n1, k⟩ := h
  have hu := hr.units
  refine ⟨_, pss_cons (ps_while PassesOwn.never (PW.pt (pw_and
        (pt_cmpR (op_neD hu) (pe_ix ix_list (pv 0) pe_int (fun _ _ => rfl)) (pe_lst pa_nil) (nomark _))
        (pw_and1 (pt_cmpR op_eq (pe_ix ix_list (pe_ix ix_list (pv 0) pe_int (fun _ _ => rfl)) (pe_un un_neg pe_int) (fun _ _ => rfl)) pe_int (nomark _)))))
      (pss_one (ps_expr (pe_bm0 PySem.F.plainAttrs_list PySem.F.slot_list_pop PySem.F.type_list_pop mt_pop (pe_ix ix_list (pv 0) pe_int (fun _ _ => rfl))))))
    (pss_cons (ps_if (pt_cmpR (op_neD hu) (pe_ix ix_list (pv 0) pe_int (fun _ _ => rfl)) (pe_lst pa_nil) (nomark _))
      (pss_cons (ps_set (i := 2) sc__law_any.nd rfl (.inl rfl) (pe_callTy call_int1 (by rfl) mi boot_int (pa_cons (pe_bm0 PySem.F.plainAttrs_list PySem.F.slot_list_pop PySem.F.type_list_pop mt_pop (pe_ix ix_list (pv 0) pe_int (fun _ _ => rfl))) pa_nil)))
      (pss_cons (ps_expr (pe_bm PySem.F.plainAttrs_list PySem.F.slot_list_append PySem.F.type_list_append mt_append (pe_ix ix_list (pv 0) pe_int (fun _ _ => rfl)) (pa_cons (pe_op op_fdivW (pv 2) (pv 1)) pa_nil)))
      (pss_one (ps_ret (pe_op op_mod (pv 2) (pv 1)))))) pss_nil)
    (pss_cons (ps_asg (pe_op op_mod (pe_callTy call_int1 (by rfl) mi boot_int (pa_cons (pe_op op_add (pe_op op_mul (pe_ix ix_list (pv 0) pe_int (fun _ _ => rfl)) pe_int) pe_int) pa_nil)) pe_int)
        (pg_sub (pv 0) pe_int set_list))
    (pss_one (ps_ret (pe_op op_mod (pe_callTy call_int1 (by rfl) mi boot_int (pa_cons (pe_op op_fdivW (pe_ix ix_list (pv 0) pe_int (fun _ _ => rfl)) pe_int) pa_nil)) (pv 1)))))), ?_⟩
  refine while_by (fun σ H' => ∃ y, σ = [some (.ref d), some (.int n), y] ∧ Deal H' d l ∧ But d l H H')
    (fun _ H' => match H' l with | some (.lst xs) => xs.length | _ => 0) ⟨none, rfl, hD, But.refl _ _ _⟩ ?_ ?_
  · rintro σ H1 ⟨y, rfl, ⟨xs, b, ndl, hd, hl, hlen, hpos, b0, b1⟩, hB⟩
    refine ⟨.ref d, rfl, d, _, 0, .ref l, rfl, rfl, .inl (.inl hd), rfl, Nat.zero_le _, fun p np => ?_⟩
    have nld : l ≠ p := ne_of_none hl np
    have ndp : d ≠ p := ne_of_none hd np
    refine ne_nil_read (.inl (.inl (by rw [upd_ne nld]; exact hl))) (.inl (.inl upd_same)) ⟨_, rfl, ?_⟩
    have hd1 : (upd H1 p (.lst [])) d = some (.lst [.ref l, .int b]) := by rw [upd_ne ndp]; exact hd
    have hl1 : (upd H1 p (.lst [])) l = some (.lst (xs.map V.int)) := by rw [upd_ne nld]; exact hl
    have hB1 : But d l H (upd H1 p (.lst [])) := hB.trans (.of (same_new np))
    have at0 : atI [V.ref l, V.int b] 0 = some (V.ref l) := rfl
    have at1 : atI [V.ref l, V.int b] 1 = some (V.int b) := rfl
    rcases snoc_cases xs with rfl | ⟨ys, z, rfl⟩
    · -- the list is empty: the loop ends, the int is turned
      refine iteFe rfl (iteFe rfl ?_)
      refine ⟨.ref d, rfl, d, _, 0, .ref l, rfl, rfl, .inl (.inl hd1), at0, Nat.zero_le _, fun p2 np2 => ?_⟩
      have nl2 : l ≠ p2 := ne_of_none hl1 np2
      have nd2 : d ≠ p2 := ne_of_none hd1 np2
      refine ne_nil_read (.inl (.inl (by rw [upd_ne nl2]; exact hl1))) (.inl (.inl upd_same)) ⟨_, rfl, iteFe rfl ?_⟩
      have hd2 : (upd (upd H1 p (.lst [])) p2 (.lst [])) d = some (.lst [.ref l, .int b]) := by rw [upd_ne nd2]; exact hd1
      have hl2 : (upd (upd H1 p (.lst [])) p2 (.lst [])) l = some (.lst (([] : List Int).map V.int)) := by rw [upd_ne nl2]; exact hl1
      have hB2 := hB1.trans (.of (same_new (o := .lst []) np2))
      refine ⟨.ref d, rfl, d, _, 1, .int b, rfl, rfl, .inl (.inl hd2), at1, _, _, rfl, rfl, .inr ⟨by decide, by decide⟩, _, _, rfl, rfl, .inl ⟨_, rfl, _, _, rfl, rfl, by show (0 : Int) < 2147483647; decide, ?_⟩⟩
      refine ⟨.ref d, rfl, d, _, 1, 1, rfl, rfl, hd2, rfl, ?_⟩
      have c0 : 0 ≤ (b * 40693 + 71) % 2147483647 := Int.emod_nonneg _ (by decide)
      have c1 : (b * 40693 + 71) % 2147483647 < 2147483647 := Int.emod_lt_of_pos _ (by decide)
      refine ⟨.ref d, rfl, d, _, 1, _, rfl, rfl, .inl (.inl upd_same), rfl, _, _, rfl, rfl, ⟨by decide, by decide⟩, .inl ⟨_, rfl, .int n, rfl, _, _, rfl, rfl, n0, ?_⟩⟩
      exact k _ _ (Int.emod_nonneg _ (by omega)) (Int.emod_lt_of_pos _ n0) (Deal.num ndl hl2 (Nat.zero_le _) (fun x hx => absurd hx List.not_mem_nil) c0 c1) hB2.updD
    · refine iteTe (snoc_ne ys z) ?_
      rw [snoc_map] at hl hl1
      refine ⟨.ref d, rfl, d, _, 0, .ref l, rfl, rfl, .inl (.inl hd1), at0, 1, rfl, l, _, -1, .int z, rfl, rfl, .inl (.inl hl1), atI_last _ _, rfl, _, rfl, ?_⟩
      have lenY : ys.length + 1 ≤ 48 := by rw [← snoc_len ys z]; exact hlen
      have posY : ∀ x ∈ ys, 0 ≤ x := fun x hx => hpos x (List.mem_append_left _ hx)
      have z0 : 0 ≤ z := hpos z (List.mem_append_right _ (List.mem_singleton.mpr rfl))
      refine ite2 (fun e => ?_) (fun e => ?_)
      · -- its last number is 0: it goes
        refine ⟨.ref d, rfl, d, _, 0, .ref l, rfl, rfl, .inl (.inl hd1), at0, .inl ⟨rfl, _, .inl (.inl hl1)⟩, l, _, .int z, rfl, rfl, hl1, snoc_last _ _, ?_⟩
        refine ⟨⟨y, rfl, ?_, hB1.updL⟩, ?_⟩
        · rw [List.dropLast_concat]
          exact Deal.list ndl hd1 (by omega) posY b0 b1
        · show (match upd (upd H1 p (.lst [])) l (.lst (ys.map V.int ++ [V.int z]).dropLast) l with | some (.lst xs) => xs.length | _ => 0) < (match H1 l with | some (.lst xs) => xs.length | _ => 0)
          rw [upd_same, hl]
          simp
      · -- it is not: it is parted
        refine ⟨.ref d, rfl, d, _, 0, .ref l, rfl, rfl, .inl (.inl hd1), at0, Nat.zero_le _, fun p2 np2 => ?_⟩
        have nl2 : l ≠ p2 := ne_of_none hl1 np2
        have nd2 : d ≠ p2 := ne_of_none hd1 np2
        have hd2 : (upd (upd H1 p (.lst [])) p2 (.lst [])) d = some (.lst [.ref l, .int b]) := by rw [upd_ne nd2]; exact hd1
        have hl2 : (upd (upd H1 p (.lst [])) p2 (.lst [])) l = some (.lst (ys.map V.int ++ [V.int z])) := by rw [upd_ne nl2]; exact hl1
        have hB2 := hB1.trans (.of (same_new (o := .lst []) np2))
        refine ne_nil_read (ns := ys ++ [z]) (.inl (.inl (by rw [snoc_map]; exact hl2))) (.inl (.inl upd_same)) ⟨_, rfl, iteTe (snoc_ne ys z) ?_⟩
        -- rest = int(deal[0].pop())
        refine ⟨.ref d, rfl, d, _, 0, .ref l, rfl, rfl, .inl (.inl hd2), at0, .inl ⟨rfl, _, .inl (.inl hl2)⟩, l, _, .int z, rfl, rfl, hl2, snoc_last _ _, .inl ⟨z, rfl, ?_⟩⟩
        rw [List.dropLast_concat]
        -- deal[0].append(rest // bound)
        have hd3 : (upd (upd (upd H1 p (.lst [])) p2 (.lst [])) l (.lst (ys.map V.int))) d = some (.lst [.ref l, .int b]) := by rw [upd_ne ndl]; exact hd2
        refine ⟨.ref d, rfl, d, _, 0, .ref l, rfl, rfl, .inl (.inl hd3), at0, .inl ⟨rfl, _, .inl (.inl upd_same)⟩, .int z, rfl, .int n, rfl, z, n, rfl, rfl, wide_div n0 (b := 64) (by omega) (by decide) (by decide), l, _, _, rfl, rfl, upd_same, by rw [List.length_map]; exact Nat.lt_of_le_of_lt (show ys.length ≤ 48 by omega) (by decide), ?_⟩
        -- return rest % bound
        refine ⟨.int z, rfl, .int n, rfl, z, n, rfl, rfl, n0, ?_⟩
        refine k _ _ (Int.emod_nonneg _ (by omega)) (Int.emod_lt_of_pos _ n0) ?_ hB2.updL.updL
        rw [← snoc_map]
        refine Deal.list ndl hd3 (by rw [snoc_len]; omega) (fun x hx => ?_) b0 b1
        rcases List.mem_append.mp hx with hx | hx
        · exact posY x hx
        · rw [List.mem_singleton.mp hx]
          exact Int.ediv_nonneg z0 (by omega)
  · intro σ H1 Q1 Q2 hq h
    obtain ⟨v, e1, p, xs, i, v', e2, e3, e4, e5, e6, h2⟩ := h
    refine ⟨v, e1, p, xs, i, v', e2, e3, e4, e5, e6, fun p2 np2 => ?_⟩
    obtain ⟨d1, d2, g1, g2, g3, g4, c, e7, h3⟩ := h2 p2 np2
    refine ⟨d1, d2, g1, g2, g3, g4, c, e7, ?_⟩
    cases c with
    | false => exact iteF (hq _ _ (by rw [if_neg Bool.false_ne_true] at h3; exact h3))
    | true =>
      rw [if_pos rfl] at h3
      refine iteT ?_
      obtain ⟨v, e1, p, xs, i, v', e2, e3, e4, e5, j, e6, q, zs, j2, v2, f2, f3, f4, f5, f6, c, f7, h4⟩ := h3
      exact ⟨v, e1, p, xs, i, v', e2, e3, e4, e5, j, e6, q, zs, j2, v2, f2, f3, f4, f5, f6, c, f7, hq _ _ h4⟩
theorem ok_of {f fA : Addr} {fd fdA : FuncData} (D : At K mg "_law_of" s__law_of ["deal", "some"] f fd)
    (DA : At K mg "_law_any" s__law_any ["deal", "bound"] fA fdA) (mi : mg "int" = none) (ml : mg "len" = none) :
    FnOk P w K mg base CX0 2 f fd ["deal", "some"] (spOf K) := by
  have GA : FnOk P w K mg base CX0 1 fA fdA ["deal", "bound"] spAny := ok_any DA mi
  refine D.F.ok sc__law_of (fun vs H Q E h => ?_) (fun cdv A outer s H vs Q E hr h => ?_)
  · obtain ⟨d, l, a, xs, rfl, _⟩ := h
    rfl
  obtain ⟨d, l, a, xs, rfl, hD, hS, n0, n1, k⟩ := h
  refine ⟨_, pss_one (ps_ret (pe_ix ix_list (pv 1) (pe_call GA hr (by rfl) DA.g DA.F.kp DA.b .nil pass0 (pa_cons (pv 0) (pa_cons (pe_callB call_len_seq (by rfl) ml PySem.boot_len (pa_cons (pv 1) pa_nil)) pa_nil))) (fun _ _ => rfl))), ?_⟩
  refine ⟨.ref a, rfl, .ref d, rfl, .ref a, rfl, a, xs, rfl, .inl (hS H (But.refl _ _ _)), d, l, (xs.length : Int), rfl, hD, by omega, by omega, fun r H' r0 r1 hD' hB => ?_⟩
  have hr1 : r.toNat < xs.length := by omega
  refine ⟨a, xs, r, xs[r.toNat], rfl, rfl, hS H' hB, ?_, k r.toNat _ H' (List.getElem?_eq_getElem hr1) hD' hB⟩
  have e : atI xs ((r.toNat : Nat) : Int) = some xs[r.toNat] := atI_nat (List.getElem?_eq_getElem hr1)
  rw [Int.toNat_of_nonneg r0] at e
  exact e

theorem ok_draw {f : Addr} {fd : FuncData} (D : At K mg "_law_draw" s__law_draw ["script", "salt"] f fd) (mi : mg "int" = none) (ma : mg "abs" = none) :
    FnOk P w K mg base CX0 1 f fd ["script", "salt"] (spDraw K) := by
  refine D.F.ok sc__law_draw (fun vs H Q E h => ?_) (fun cdv A outer s H vs Q E hr h => ?_)
  · obtain ⟨a, ns, z, rfl, _⟩ := h
    rfl
  obtain ⟨a, ns, z, rfl, hS, hlen, z0, z1, k⟩ := h
  have nd := sc__law_draw.nd
  refine ⟨_, pss_cons (ps_setLc (i := 2) (own := [("cell", 4)]) (g := gName 4) (tt := tYes) (by rfl) nd rfl rfl (sw_true rfl rfl rfl (by decide +kernel))
      (pi_list (pe_slice sl_list (pv 0) po_none (po_some pe_int))) (blkOk_by (own := [("cell", 4)]) (N := ["script", "salt", "cells", "blend", "cell"]) (sc := defScope s__law_draw) (by decide +kernel))
      (fun _ _ _ _ _ => pg_name (i := 4) nd rfl (Or.inl rfl)) (fun _ _ _ _ _ => pts_nil)
      (fun _ _ _ _ _ => pe_callB call_abs (by rfl) ma boot_abs (pa_cons (pe_callTy call_int1 (by rfl) mi boot_int (pa_cons (pv 4) pa_nil)) pa_nil)))
    (pss_cons (ps_set (i := 3) nd rfl (.inl rfl) (pe_op op_add pe_int (pe_op op_mul pe_int (pv 1))))
    (pss_cons (ps_for PassesOwn.never rfl (pi_list (pv 2)) (pg_name (i := 4) nd rfl (.inl rfl))
      (pss_one (ps_set (i := 3) nd rfl (.inl rfl) (pe_op op_mod (pe_callTy call_int1 (by rfl) mi boot_int (pa_cons (pe_op op_add (pe_op op_add (pe_op op_mul (pv 3) pe_int) (pe_op op_mod (pv 4) pe_int)) pe_int) pa_nil)) pe_int))))
    (pss_one (ps_ret (pe_lst (pa_cons (pe_revL (pe_lc (own := [("cell", 4)]) (g := gName 4) (by rfl) nd (pi_list (pv 2))
        (blkOk_by (own := [("cell", 4)]) (N := ["script", "salt", "cells", "blend", "cell"]) (sc := defScope s__law_draw) (by decide +kernel))
        (fun _ _ _ _ _ => pg_name (i := 4) nd rfl (Or.inl rfl)) (fun _ _ _ _ _ => pts_one (pt_cmpR op_ge (pv 4) (pe_op op_pow pe_int pe_int) (nomark _)))
        (fun _ _ _ _ _ => pv 4))) (pa_cons (pv 3) pa_nil))))))), ?_⟩
  obtain ⟨ms, ems, lms⟩ := cut48 ns
  -- cells
  refine ⟨.ref a, rfl, 48, rfl, a, _, rfl, hS, fun c nc => ⟨c, rfl, ⟨_, .inl (.inl upd_same)⟩, fun D nD => ?_⟩⟩
  rw [ems] at nD ⊢
  have scl : Same H (upd H c (.lst (ms.map V.int))) := same_new nc
  have ncD : c ≠ D := ne_of_none upd_same nD
  refine lc_list (xs := ms.map V.int) (fun i H' => ∃ acc : List Int, H' c = some (.lst (ms.map V.int)) ∧ H' D = some (.lst (acc.map V.int)) ∧ acc.length ≤ i ∧ (∀ x ∈ acc, 0 ≤ x) ∧ Same H H')
    ⟨[], by rw [upd_ne ncD, upd_same], upd_same, Nat.le_refl _, fun x hx => absurd hx List.not_mem_nil, scl.trans (same_new nD)⟩
    (fun i H' _ ⟨_, h1, _⟩ => .inl (.inl h1)) ?_ ?_
  · rintro i x H' hx ⟨acc, h1, h2, h3, h4, h5⟩
    obtain ⟨n, _, rfl⟩ := map_at hx
    have hlt : i < 48 := by
      have q := (List.getElem?_eq_some_iff.mp hx).1
      rw [List.length_map] at q
      omega
    refine ⟨rfl, .int n, rfl, .inl ⟨n, rfl, n, rfl, acc.map V.int, h2, ?_, acc ++ [if n < 0 then -n else n], ?_, ?_, ?_, ?_, ?_⟩⟩
    · rw [List.length_map]
      exact Nat.lt_of_le_of_lt (show acc.length ≤ 48 by omega) (by decide)
    · rw [upd_ne ncD]
      exact h1
    · rw [upd_same, snoc_map]
    · rw [snoc_len]
      omega
    · intro x hx
      rcases List.mem_append.mp hx with hx | hx
      · exact h4 x hx
      · rw [List.mem_singleton.mp hx]
        split <;> omega
    · intro b o e
      by_cases hb : b = D
      · exact absurd e (by rw [hb]; intro e; have := scl.free nD; rw [this] at e; cases e)
      · rw [upd_ne hb]
        exact h5 b o e
  rintro H1 ⟨cs, h1, h2, h3, h4, h5⟩
  have lcs : cs.length ≤ 48 := by
    rw [List.length_map] at h3
    omega
  -- blend
  refine ⟨.int z, rfl, 104729, z, rfl, rfl, .inl ⟨by decide, by decide⟩, 7919, _, rfl, rfl, ?_⟩
  refine ⟨.ref D, rfl, D, rfl, ⟨_, .inl (.inl h2)⟩, for_list (K := K) (a := D) (xs := cs.map V.int)
    (fun i σ H' => ∃ (b : Int) (y : Option V), σ = [some (.ref a), some (.int z), some (.ref D), some (.int b), y] ∧ H' = H1 ∧ 0 ≤ b ∧ b < 2147483647)
    ⟨_, none, rfl, rfl, by omega, by omega⟩ (fun i σ H' _ ⟨_, _, _, e, _⟩ => by rw [e]; exact .inl (.inl h2)) ?_ ?_⟩
  · rintro i x σ H' hx ⟨b, y, rfl, rfl, b0, b1⟩
    obtain ⟨n, _, rfl⟩ := map_at hx
    refine ⟨.int b, rfl, b, 48271, rfl, rfl, .inr ⟨by decide, by decide⟩, .int n, rfl, n, 2147483549, rfl, rfl, by show (0 : Int) < 2147483549; decide, _, _, rfl, rfl, _, _, rfl, rfl, .inl ⟨_, rfl, _, 2147483647, rfl, rfl, by show (0 : Int) < 2147483647; decide, ?_⟩⟩
    exact ⟨_, _, rfl, rfl, Int.emod_nonneg _ (by decide), Int.emod_lt_of_pos _ (by decide)⟩
  rintro σ H' ⟨b, y, rfl, rfl, b0, b1⟩
  -- what is handed back
  refine ⟨.ref D, rfl, D, rfl, ⟨_, .inl (.inl h2)⟩, fun L nL => ?_⟩
  have nDL : D ≠ L := ne_of_none h2 nL
  refine lc_list (xs := cs.map V.int) (fun i H2 => ∃ acc : List Int, H2 D = some (.lst (cs.map V.int)) ∧ H2 L = some (.lst (acc.map V.int)) ∧ acc.length ≤ i ∧ (∀ x ∈ acc, 0 ≤ x) ∧ Same H H2)
    ⟨[], by rw [upd_ne nDL]; exact h2, upd_same, Nat.le_refl _, fun x hx => absurd hx List.not_mem_nil, h5.trans (same_new nL)⟩
    (fun i H2 _ ⟨_, g1, _⟩ => .inl (.inl g1)) ?_ ?_
  · rintro i x H2 hx ⟨acc, g1, g2, g3, g4, g5⟩
    obtain ⟨n, hn, rfl⟩ := map_at hx
    have hlt : i < 48 := by
      have q := (List.getElem?_eq_some_iff.mp hn).1
      omega
    refine ⟨rfl, .int n, rfl, 10, 18, rfl, rfl, ⟨by decide, by decide, by decide⟩, n, _, rfl, rfl, _, rfl, ite2 (fun hge => ?_) (fun hge => ?_)⟩
    · refine ⟨.int n, rfl, acc.map V.int, g2, ?_, acc ++ [n], ?_, ?_, ?_, ?_, ?_⟩
      · rw [List.length_map]
        exact Nat.lt_of_le_of_lt (show acc.length ≤ 48 by omega) (by decide)
      · rw [upd_ne nDL]
        exact g1
      · rw [upd_same, snoc_map]
      · rw [snoc_len]
        omega
      · intro x hx
        rcases List.mem_append.mp hx with hx | hx
        · exact g4 x hx
        · rw [List.mem_singleton.mp hx]
          exact h4 n (List.mem_of_getElem? hn)
      · intro q o e
        by_cases hb : q = L
        · exact absurd e (by rw [hb]; intro e; have := h5.free nL; rw [this] at e; cases e)
        · rw [upd_ne hb]
          exact g5 q o e
    · exact ⟨acc, g1, g2, by omega, g4, g5⟩
  rintro H2 ⟨xs, g1, g2, g3, g4, g5⟩
  rw [List.length_map] at g3
  refine ⟨L, _, rfl, .inl (.inl g2), fun l nl => ?_⟩
  refine ⟨.int b, rfl, by show 2 ≤ sizeLine; decide, fun d nd2 => ?_⟩
  have ndl : d ≠ l := fun e => by
    rw [e, upd_same] at nd2
    cases nd2
  have sl : Same H (upd H2 l (.lst (xs.map V.int).reverse)) := g5.trans (same_new nl)
  refine k d l _ (sl.free nd2) (g5.free nl) ⟨xs.reverse, b, ndl, upd_same, ?_, ?_, ?_, b0, b1⟩ (sl.trans (same_new nd2))
  · rw [upd_ne (fun e => ndl e.symm), upd_same, List.map_reverse]
  · rw [List.length_reverse]
    omega
  · intro x hx
    exact g4 x (List.mem_reverse.mp hx)
end
end K04
end

section
set_option maxHeartbeats 1000000
set_option pp.maxSteps 400
namespace K04
open PySem PySem.Spec PyProof.Rows L2 Zc
/-! ### what the program's defs tell of data -/
/-- a promise over data: some truth -/
def spQ (C : Hp → Prop) (rel : List PyData → Bool → Prop) : Sp := fun vs H Q _ => ∃ (T : Hp) (ds : List PyData) (r : Bool), Same T H ∧ DaA T ds vs ∧ rel ds r ∧ C H ∧
  ∀ H' T', Ext T H T' H' → Q (.bl r) H'
/-- .. some data -/
def spD (C : Hp → Prop) (rel : List PyData → PyData → Prop) : Sp := fun vs H Q _ => ∃ (T : Hp) (ds : List PyData) (r : PyData), Same T H ∧ DaA T ds vs ∧ rel ds r ∧ C H ∧
  ∀ H' T' v, Ext T H T' H' → Da T' r v → Q v H'
def rInt (ds : List PyData) (r : Bool) : Prop := ∃ d, ds = [d] ∧ r = isIntD d
def rNum (ds : List PyData) (r : Bool) : Prop := ∃ d, ds = [d] ∧ r = isNumD d
def tupLen (d : PyData) (n : Int) : Bool := match d with
  | .tuple xs => decide ((xs.length : Int) = n)
  | _ => false
def rTupOf (ds : List PyData) (r : Bool) : Prop := ∃ d n, ds = [d, .int n] ∧ r = tupLen d n
def areNums : PyData → Bool
  | .tuple xs => xs.all isNumD
  | _ => false
def rNums (ds : List PyData) (r : Bool) : Prop := ∃ d, ds = [d] ∧ r = areNums d
def isLev (n : Int) : PyData → Bool
  | .int i => decide (0 ≤ i) && decide (i < n)
  | _ => false
def rLev (ds : List PyData) (r : Bool) : Prop := ∃ n d, ds = [.int n, d] ∧ r = isLev n d
section
variable {P : Program} {w : World} {K : PySem.W.Frag} {mg : Str → Option Value} {base : Heap}
theorem ok_is_integer {f : Addr} {fd : FuncData} (D : At K mg "is_integer" s_is_integer ["value"] f fd) (m_isinstance : mg "isinstance" = none) (m_int : mg "int" = none) (m_bool : mg "bool" = none) :
    FnOk P w K mg base CX0 1 f fd ["value"] (spQ C0 rInt) := by
  refine D.F.ok sc_is_integer (fun vs H Q E h => ?_) (fun cdv A outer s H vs Q E hr h => ?_)
  · obtain ⟨T, _, _, _, hd, ⟨d, rfl, rfl⟩, _⟩ := h
    exact hd.len
  obtain ⟨T, _, _, sT, hd, ⟨d, rfl, rfl⟩, _, q⟩ := h
  obtain ⟨v, _, rfl, hv, rfl⟩ := hd
  obtain ⟨t, ty, e1, e2, _⟩ := hv.ask (K := K) sT
  refine ⟨_, (pss_one (ps_ret (pe_and (pe_callB call_isi (by rfl) m_isinstance boot_isinstance (pa_cons (pv 0) (pa_cons (pe_bltn (v := .ty "int") (by rfl) m_int boot_int rfl) pa_nil))) (pe_one (pe_not (pe_callB call_isi (by rfl) m_isinstance boot_isinstance (pa_cons (pv 0) (pa_cons (pe_bltn (v := .ty "bool") (by rfl) m_bool boot_bool rfl) pa_nil)))))))), ?_⟩
  refine ⟨v, rfl, v, .ty "int", t, _, _, rfl, .ty _, ty, e1, _, rfl, ?_⟩
  have qq := q H T (.refl sT)
  refine ite2 (fun e => ?_) (fun e => ?_)
  · refine ⟨v, rfl, v, .ty "bool", t, _, _, rfl, .ty _, ty, e2, _, rfl, ?_⟩
    cases d <;> first | exact qq | cases e
  · cases d <;> first | exact qq | exact absurd rfl e
theorem ok_is_number {f fI : Addr} {fd fdI : FuncData} (D : At K mg "is_number" s_is_number ["value"] f fd) (DI : At K mg "is_integer" s_is_integer ["value"] fI fdI)
    (m_isinstance : mg "isinstance" = none) (m_int : mg "int" = none) (m_bool : mg "bool" = none) : FnOk P w K mg base CX0 2 f fd ["value"] (spQ C0 rNum) := by
  have GI : FnOk P w K mg base CX0 1 fI fdI ["value"] (spQ C0 rInt) := ok_is_integer DI m_isinstance m_int m_bool
  refine D.F.ok sc_is_number (fun vs H Q E h => ?_) (fun cdv A outer s H vs Q E hr h => ?_)
  · obtain ⟨T, _, _, _, hd, ⟨d, rfl, rfl⟩, _⟩ := h
    exact hd.len
  obtain ⟨T, _, _, sT, hd, ⟨d, rfl, rfl⟩, _, q⟩ := h
  obtain ⟨v, _, rfl, hv, rfl⟩ := hd
  refine ⟨_, (pss_one (ps_ret (pe_and (pe_call GI hr (by rfl) DI.g DI.F.kp DI.b .nil pass0 (pa_cons (pv 0) pa_nil)) (pe_one (pe_cmpR op_ge (pv 0) pe_int (nomark _)))))), ?_⟩
  refine ⟨v, rfl, T, [d], _, sT, .one hv, ⟨d, rfl, rfl⟩, trivial, fun H1 T1 x1 => ⟨_, rfl, ?_⟩⟩
  have qq := q H1 T1 x1
  cases d with
  | int i =>
    obtain rfl : v = .int i := hv
    exact iteT ⟨.int i, rfl, i, 0, rfl, rfl, qq⟩
  | _ => exact iteF qq
theorem ok_is_tuple_of {f : Addr} {fd : FuncData} (D : At K mg "is_tuple_of" s_is_tuple_of ["value", "many"] f fd) (m_isinstance : mg "isinstance" = none) (m_tuple : mg "tuple" = none) (m_len : mg "len" = none) :
    FnOk P w K mg base CX0 1 f fd ["value", "many"] (spQ C0 rTupOf) := by
  refine D.F.ok sc_is_tuple_of (fun vs H Q E h => ?_) (fun cdv A outer s H vs Q E hr h => ?_)
  · obtain ⟨T, _, _, _, hd, ⟨d, n, rfl, rfl⟩, _⟩ := h
    exact hd.len
  obtain ⟨T, _, _, sT, hd, ⟨d, n, rfl, rfl⟩, _, q⟩ := h
  obtain ⟨v, _, rfl, hv, u, _, rfl, hu, rfl⟩ := hd
  obtain rfl : u = .int n := hu
  obtain ⟨t, ty, _, _, e3, _⟩ := hv.ask (K := K) sT
  refine ⟨_, (pss_one (ps_ret (pe_and (pe_callB call_isi (by rfl) m_isinstance boot_isinstance (pa_cons (pv 0) (pa_cons (pe_bltn (v := .ty "tuple") (by rfl) m_tuple boot_tuple rfl) pa_nil))) (pe_one (pe_cmpR op_eq (pe_callB call_len_seq (by rfl) m_len PySem.boot_len (pa_cons (pv 0) pa_nil)) (pv 1) (nomark _)))))), ?_⟩
  refine ⟨v, rfl, v, .ty "tuple", t, _, _, rfl, .ty _, ty, e3, _, rfl, ?_⟩
  have qq := q H T (.refl sT)
  cases d with
  | tuple ds =>
    obtain ⟨a, xs, rfl, ea, hx⟩ := hv
    refine iteT ⟨.ref a, rfl, a, xs, rfl, .inr (.inl (.inl (sT _ _ ea))), .int n, rfl, rfl, ?_⟩
    have e : decide (V.int (xs.length : Int) = V.int n) = decide ((ds.length : Int) = n) := by
      rw [hx.len]
      exact decide_eq_decide.mpr ⟨fun z => V.int.inj z, fun z => congrArg V.int z⟩
    rw [e]
    exact qq
  | _ => exact iteF qq
theorem ok_are_numbers {f fI fN c p : Addr} {fd fdI fdN : FuncData} (D : AtT K mg base "are_numbers" s_are_numbers ["value"] f fd c p) (DN : At K mg "is_number" s_is_number ["value"] fN fdN) (DI : At K mg "is_integer" s_is_integer ["value"] fI fdI)
    (m_isinstance : mg "isinstance" = none) (m_int : mg "int" = none) (m_bool : mg "bool" = none) (m_tuple : mg "tuple" = none) (m_all : mg "all" = none) : FnOk P w K mg base CX0 6 f fd ["value"] (spQ (fun H => H p = some (tabX p)) rNums) := by
  have GN : FnOk P w K mg base CX0 2 fN fdN ["value"] (spQ C0 rNum) := ok_is_number DN DI m_isinstance m_int m_bool
  have TB := D.tab
  refine fn_okC D.at_.F D.code sc_are_numbers (fun vs H Q E h => ?_) (fun A outer s H vs Q E hr h => ?_)
  · obtain ⟨T, _, _, _, hd, ⟨d, rfl, rfl⟩, _⟩ := h
    exact hd.len
  obtain ⟨T, _, _, sT, hd, ⟨d, rfl, rfl⟩, hP, q⟩ := h
  obtain ⟨v, _, rfl, hv, rfl⟩ := hd
  obtain ⟨t, ty, _, _, e3, _⟩ := hv.ask (K := K) sT
  have nd := sc_are_numbers.nd
  refine ⟨_, (pss_one (ps_ret (pe_and (pe_callB call_isi (by rfl) m_isinstance boot_isinstance (pa_cons (pv 0) (pa_cons (pe_bltn (v := .ty "tuple") (by rfl) m_tuple boot_tuple rfl) pa_nil))) (pe_one (pe_allG (own := [("part", 1)]) (g := gName 1) (tt := tYes) hr rfl (by rfl) m_all (by decide +kernel) TB rfl nd (pi_tup (pv 0)) (blkOk_by (own := [("part", 1)]) (N := ["value", "part"]) (sc := defScope s_are_numbers) (by decide +kernel)) (fun _ _ _ _ _ _ _ _ _ hr => (pg_name (i := 1) nd rfl (Or.inl rfl))) (fun _ _ _ _ _ _ _ _ _ hr => pts_nil) (fun _ _ _ _ _ _ _ _ _ hr => (pe_call GN hr (by rfl) DN.g DN.F.kp DN.b .nil pass0 (pa_cons (pv 1) pa_nil)))))))), ?_⟩
  refine ⟨v, rfl, v, .ty "tuple", t, _, _, rfl, .ty _, ty, e3, _, rfl, ?_⟩
  cases d with
  | tuple ds =>
    obtain ⟨a, xs, rfl, ea, hx⟩ := hv
    refine iteT ⟨.ref a, rfl, a, rfl, ⟨_, .inl (.inl (sT _ _ ea))⟩, hP, ?_⟩
    refine gw_dat (fun _ => true) isNumD sT (gives_tup sT ea hx) (fun i d x T2 H2 R R0 hd2 x2 hx2 r r0 => ?_) (fun T' H' x' => ?_)
    · exact ⟨rfl, x, rfl, T2, [d], _, x2.th, .one hx2, ⟨d, rfl, rfl⟩, trivial, fun H3 T3 x3 => r T3 H3 x3 rfl⟩
    · have qq := q H' T' x'
      rw [show ds.filter (fun _ => true) = ds from List.filter_eq_self.mpr fun _ _ => rfl]
      exact qq
  | _ => exact iteF (q H T (.refl sT))
theorem ok_is_level {f fI fN : Addr} {fd fdI fdN : FuncData} (D : At K mg "is_level" s_is_level ["levels", "value"] f fd) (DN : At K mg "is_number" s_is_number ["value"] fN fdN) (DI : At K mg "is_integer" s_is_integer ["value"] fI fdI)
    (m_isinstance : mg "isinstance" = none) (m_int : mg "int" = none) (m_bool : mg "bool" = none) : FnOk P w K mg base CX0 3 f fd ["levels", "value"] (spQ C0 rLev) := by
  have GN : FnOk P w K mg base CX0 2 fN fdN ["value"] (spQ C0 rNum) := ok_is_number DN DI m_isinstance m_int m_bool
  refine D.F.ok sc_is_level (fun vs H Q E h => ?_) (fun cdv A outer s H vs Q E hr h => ?_)
  · obtain ⟨T, _, _, _, hd, ⟨n, d, rfl, rfl⟩, _⟩ := h
    exact hd.len
  obtain ⟨T, _, _, sT, hd, ⟨n, d, rfl, rfl⟩, _, q⟩ := h
  obtain ⟨u, _, rfl, hu, v, _, rfl, hv, rfl⟩ := hd
  obtain rfl : u = .int n := hu
  refine ⟨_, (pss_one (ps_ret (pe_and (pe_call GN hr (by rfl) DN.g DN.F.kp DN.b .nil pass0 (pa_cons (pv 1) pa_nil)) (pe_one (pe_cmpR op_lt (pv 1) (pv 0) (nomark _)))))), ?_⟩
  refine ⟨v, rfl, T, [d], _, sT, .one hv, ⟨d, rfl, rfl⟩, trivial, fun H1 T1 x1 => ⟨_, rfl, ?_⟩⟩
  have qq := q H1 T1 x1
  cases d with
  | int i =>
    obtain rfl : v = .int i := hv
    refine ite2 (fun e => ?_) (fun e => ?_)
    · refine ⟨.int i, rfl, .int n, rfl, i, n, rfl, rfl, ?_⟩
      have e' : decide (0 ≤ i) = true := e
      rw [show isLev n (.int i) = (decide (0 ≤ i) && decide (i < n)) from rfl, e', Bool.true_and] at qq
      exact qq
    · have e' : decide (0 ≤ i) = false := Bool.eq_false_iff.mpr e
      rw [show isLev n (.int i) = (decide (0 ≤ i) && decide (i < n)) from rfl, e', Bool.false_and] at qq
      exact qq
  | _ => exact iteF qq
end
end K04
end

section
set_option maxHeartbeats 1000000
set_option pp.maxSteps 400
namespace K04
open PySem PySem.Spec PyProof.Rows L2 Zc
/-! ### lots, orders, records as data -/
def natD (n : Nat) : PyData := .int (n : Int)
def natsT (l : List Nat) : PyData := .tuple (l.map natD)
def ordD (O : List (List Nat)) : PyData := .tuple (O.map natsT)
inductive Deed where
  | out (l n : Nat) | fin (t : Nat)
  deriving DecidableEq
def deedD : Deed → PyData
  | .out l n => .tuple [.str "out", natD l, natD n]
  | .fin t => .tuple [.str "end", natD t]
def pairD (p : Nat × Deed) : PyData := .tuple [natD p.1, deedD p.2]
def recD (r : List (Nat × Deed)) : PyData := .tuple (r.map pairD)
def natV (n : Nat) : V := .int (n : Int)
theorem nats_of {T : Hp} : ∀ {l : List Nat} {vs : List V}, DaA T (l.map natD) vs → vs = l.map natV
  | [], _, h => h
  | n :: r, _, ⟨v, vs, q, h, g⟩ => by
    have h' : v = natV n := h
    rw [q, h', nats_of g]
    rfl
theorem nats_da {T : Hp} : ∀ (l : List Nat), DaA T (l.map natD) (l.map natV)
  | [] => rfl
  | n :: r => ⟨natV n, r.map natV, rfl, rfl, nats_da r⟩
theorem flat_nats (l : List Nat) : (l.map natV).all flatV = true := by
  rw [List.all_eq_true]
  intro x hx
  obtain ⟨n, _, rfl⟩ := List.mem_map.mp hx
  rfl
theorem inV_nats (n : Nat) (l : List Nat) : inV (natV n) (l.map natV) = decide (n ∈ l) := by
  unfold inV
  rw [List.any_map, Bool.eq_iff_iff, List.any_eq_true, decide_eq_true_iff]
  constructor
  · rintro ⟨m, hm, e⟩
    have e' : (decide ((m : Int) = (n : Int)) : Bool) = true := by
      have : eqV (natV m) (natV n) = true := e
      simpa [eqV, natV] using this
    have : (m : Int) = n := of_decide_eq_true e'
    have : m = n := by omega
    exact this ▸ hm
  · intro h
    refine ⟨n, h, ?_⟩
    show eqV (natV n) (natV n) = true
    simp [eqV, natV]
/-- a level's lot -/
theorem ord_at {T : Hp} {O : List (List Nat)} {vs : List V} {i : Nat} {ms : List Nat} (h : DaA T (O.map natsT) vs) (e : O[i]? = some ms) :
    ∃ a xs, vs[i]? = some (.ref a) ∧ T a = some (.tup (ms.map natV)) ∧ xs = ms.map natV := by
  obtain ⟨x, hx, a, xs, rfl, ea, hd⟩ := h.at (show (O.map natsT)[i]? = some (natsT ms) by rw [List.getElem?_map, e]; rfl)
  have := nats_of hd
  subst this
  exact ⟨a, _, hx, ea, rfl⟩
/-- lot_within: the lot O[lv] -/
def rWithin (ds : List PyData) (r : Bool) : Prop := ∃ (O : List (List Nat)) (lot : List Nat) (lv : Nat) (ms : List Nat), ds = [ordD O, natsT lot, natD lv] ∧ O[lv]? = some ms ∧ r = lot.all fun l => decide (l ∈ ms)
def rInput (ds : List PyData) (r : Bool) : Prop := ∃ (O : List (List Nat)) (d : PyData), ds = [ordD O, d] ∧ r = (tupLen d (O.length : Nat) && (match d with | .tuple xs => xs.all areNums | _ => false))
def rAlike (ds : List PyData) (r : Bool) : Prop := ∃ (O A B : List (List Nat)) (lv : Nat) (ms : List Nat), ds = [ordD O, natD lv, ordD A, ordD B] ∧ O[lv]? = some ms ∧ A.length = O.length ∧ B.length = O.length ∧ (∀ m ∈ ms, m < O.length) ∧
  (∀ l ∈ A ++ B, l.length ≤ 100 ∧ ∀ n ∈ l, n < 1000) ∧ r = ms.all fun m => decide (A[m]? = B[m]?)
def isDeedD (m : Int) : PyData → Bool
  | .tuple [.str x, b] => decide (x = "end") && isNumD b
  | .tuple [.str x, b, c] => decide (x = "out") && (isLev m b && isNumD c)
  | _ => false
def deedOk : PyData → Bool
  | .tuple [a, _] => isStrD a
  | .tuple [a, _, _] => isStrD a
  | _ => true
def rDeed (ds : List PyData) (r : Bool) : Prop := ∃ (O : List (List Nat)) (d : PyData), ds = [ordD O, d] ∧ deedOk d = true ∧ r = isDeedD (O.length : Nat) d
def pairOk : PyData → Bool
  | .tuple [_, d] => deedOk d
  | _ => true
def recGo (m : Int) (before : Int) : List PyData → Bool
  | [] => true
  | .tuple [.int t, d] :: r => decide (0 ≤ t) && (isDeedD m d && (!decide (t < before) && recGo m t r))
  | _ :: _ => false
def isRecD (m : Int) : PyData → Bool
  | .tuple xs => recGo m 0 xs
  | _ => false
def rRecord (ds : List PyData) (r : Bool) : Prop := ∃ (O : List (List Nat)) (d : PyData), ds = [ordD O, d] ∧ (∀ xs, d = .tuple xs → xs.all pairOk = true) ∧ r = isRecD (O.length : Nat) d
section
variable {P : Program} {w : World} {K : PySem.W.Frag} {mg : Str → Option Value} {base : Heap}
theorem ok_lot_within {f c p : Addr} {fd : FuncData} (D : AtT K mg base "lot_within" s_lot_within ["order", "lot", "level"] f fd c p) (m_all : mg "all" = none) :
    FnOk P w K mg base CX0 4 f fd ["order", "lot", "level"] (spQ (fun H => H p = some (tabX p)) rWithin) := by
  have TB := D.tab
  refine fn_okC D.at_.F D.code sc_lot_within (fun vs H Q E h => ?_) (fun A outer s H vs Q E hr h => ?_)
  · obtain ⟨T, _, _, _, hd, ⟨O, lot, lv, ms, rfl, _, rfl⟩, _⟩ := h
    exact hd.len
  obtain ⟨T, _, _, sT, hd, ⟨O, lot, lv, ms, rfl, hms, rfl⟩, hP, q⟩ := h
  obtain ⟨v1, _, rfl, ⟨ao, xo, rfl, eo, ho⟩, v2, _, rfl, ⟨al, xl, rfl, el, hl⟩, v3, _, rfl, hv, rfl⟩ := hd
  obtain rfl : v3 = natV lv := hv
  have nd := sc_lot_within.nd
  refine ⟨_, (pss_one (ps_ret (pe_allG (own := [("low", 3)]) (g := gName 3) (tt := tYes) hr rfl (by rfl) m_all (by decide +kernel) TB rfl nd (pi_tup (pv 1)) (blkOk_by (own := [("low", 3)]) (N := ["order", "lot", "level", "low"]) (sc := defScope s_lot_within) (by decide +kernel)) (fun _ _ _ _ _ _ _ _ _ hr => (pg_name (i := 3) nd rfl (Or.inl rfl))) (fun _ _ _ _ _ _ _ _ _ hr => pts_nil) (fun _ _ _ _ _ _ _ _ _ hr => (pe_cmpR (op_in_seqK K (by rfl)) (pv 3) (pe_ix (ix_tupK K (by rfl)) (pv 0) (pv 2) (fun _ _ => rfl)) (by rfl)))))), ?_⟩
  refine ⟨.ref al, rfl, al, rfl, ⟨_, .inl (.inl (sT _ _ el))⟩, hP, ?_⟩
  refine gw_dat (fun _ => true) (fun d => match d with | .int i => decide (i.toNat ∈ ms) | _ => false) sT (gives_tup sT el hl) (fun i d x T2 H2 R R0 hd2 x2 hx2 r r0 => ?_) (fun T' H' x' => ?_)
  · rw [List.getElem?_map] at hd2
    cases e : lot[i]? with
    | none => rw [e] at hd2; cases hd2
    | some l =>
      rw [e] at hd2
      cases hd2
      obtain rfl : x = natV l := hx2
      obtain ⟨a, xs, ha, ea, rfl⟩ := ord_at ho hms
      refine ⟨rfl, natV l, rfl, .ref ao, rfl, natV lv, rfl, ao, xo, lv, .ref a, rfl, rfl, .inl (.inl (x2.th _ _ (x2.tt _ _ eo))), atI_nat ha, ?_⟩
      refine ⟨a, _, rfl, .inr (.inl (.inl (x2.th _ _ (x2.tt _ _ ea)))), rfl, flat_nats ms, ?_⟩
      show R (.bl (inV (natV l) (ms.map natV))) H2
      rw [inV_nats]
      exact r T2 H2 (.refl x2.th) rfl
  · have qq := q H' T' x'
    rw [show (lot.map natD).filter (fun _ => true) = lot.map natD from List.filter_eq_self.mpr fun _ _ => rfl]
    have e : anyAll true (fun d => match d with | .int i => decide (i.toNat ∈ ms) | _ => false) (lot.map natD) = lot.all fun l => decide (l ∈ ms) := by
      show (if true = true then _ else _) = _
      rw [if_pos rfl, List.all_map]
      rfl
    rw [e]
    exact qq
theorem ok_is_input {f fT fM fN fI c p cM pM : Addr} {fd fdT fdM fdN fdI : FuncData} (D : AtT K mg base "is_input" s_is_input ["order", "value"] f fd c p) (DT : At K mg "is_tuple_of" s_is_tuple_of ["value", "many"] fT fdT) (DM' : AtT K mg base "are_numbers" s_are_numbers ["value"] fM fdM cM pM)
    (DN : At K mg "is_number" s_is_number ["value"] fN fdN) (DI : At K mg "is_integer" s_is_integer ["value"] fI fdI)
    (m_isinstance : mg "isinstance" = none) (m_int : mg "int" = none) (m_bool : mg "bool" = none) (m_tuple : mg "tuple" = none) (m_all : mg "all" = none) (m_len : mg "len" = none) :
    FnOk P w K mg base CX0 10 f fd ["order", "value"] (spQ (fun H => H p = some (tabX p) ∧ H pM = some (tabX pM)) rInput) := by
  have GT : FnOk P w K mg base CX0 9 fT fdT ["value", "many"] (spQ C0 rTupOf) := (ok_is_tuple_of DT m_isinstance m_tuple m_len).mono (by decide)
  have GM : FnOk P w K mg base CX0 6 fM fdM ["value"] (spQ (fun H => H pM = some (tabX pM)) rNums) := ok_are_numbers DM' DN DI m_isinstance m_int m_bool m_tuple m_all
  have DM := DM'.at_
  have TB := D.tab
  refine fn_okC D.at_.F D.code sc_is_input (fun vs H Q E h => ?_) (fun A outer s H vs Q E hr h => ?_)
  · obtain ⟨T, _, _, _, hd, ⟨O, d, rfl, rfl⟩, _⟩ := h
    exact hd.len
  obtain ⟨T, _, _, sT, hd, ⟨O, d, rfl, rfl⟩, hP, q⟩ := h
  obtain ⟨v1, _, rfl, ⟨ao, xo, rfl, eo, ho⟩, v, _, rfl, hv, rfl⟩ := hd
  have nd := sc_is_input.nd
  have lo : xo.length = O.length := by rw [ho.len, List.length_map]
  refine ⟨_, (pss_one (ps_ret (pe_and (pe_call GT hr (by rfl) DT.g DT.F.kp DT.b .nil pass0 (pa_cons (pv 1) (pa_cons (pe_callB call_len_seq (by rfl) m_len PySem.boot_len (pa_cons (pv 0) pa_nil)) pa_nil))) (pe_one (pe_allG (own := [("stream", 2)]) (g := gName 2) (tt := tYes) hr rfl (by rfl) m_all (by decide +kernel) TB rfl nd (pi_tup (pv 1)) (blkOk_by (own := [("stream", 2)]) (N := ["order", "value", "stream"]) (sc := defScope s_is_input) (by decide +kernel)) (fun _ _ _ _ _ _ _ _ _ hr => (pg_name (i := 2) nd rfl (Or.inl rfl))) (fun _ _ _ _ _ _ _ _ _ hr => pts_nil) (fun _ _ _ _ _ _ _ _ _ hr => (pe_call GM hr (by rfl) DM.g DM.F.kp DM.b .nil pass0 (pa_cons (pv 2) pa_nil)))))))), ?_⟩
  refine ⟨v, rfl, .ref ao, rfl, ao, xo, rfl, .inr (.inl (.inl (sT _ _ eo))), T, [d, .int (xo.length : Nat)], _, sT, .two hv rfl, ⟨d, _, rfl, rfl⟩, trivial, fun H1 T1 x1 => ⟨_, rfl, ?_⟩⟩
  rw [lo]
  have qq := fun T' H' (x' : Ext T1 H1 T' H') => q H' T' (x1.trans x')
  cases d with
  | tuple ds =>
    obtain ⟨a, xs, rfl, ea, hx⟩ := hv
    refine ite2 (fun e => ?_) (fun e => ?_)
    · refine ⟨.ref a, rfl, a, rfl, ⟨_, .inl (.inl (x1.th _ _ (x1.tt _ _ ea)))⟩, x1.hh _ _ hP.1, ?_⟩
      refine gw_dat (fun _ => true) areNums x1.th (gives_tup x1.th (x1.tt _ _ ea) (hx.keep x1.tt)) (fun i d x T2 H2 R R0 hd2 x2 hx2 r r0 => ?_) (fun T' H' x' => ?_)
      · exact ⟨rfl, x, rfl, T2, [d], _, x2.th, .one hx2, ⟨d, rfl, rfl⟩, x2.hh _ _ (x1.hh _ _ hP.2), fun H3 T3 x3 => r T3 H3 x3 rfl⟩
      · have q3 := qq T' H' x'
        rw [e, Bool.true_and] at q3
        rw [show ds.filter (fun _ => true) = ds from List.filter_eq_self.mpr fun _ _ => rfl]
        exact q3
    · have q3 := qq T1 H1 (.refl x1.th)
      rw [Bool.eq_false_iff.mpr e, Bool.false_and] at q3
      exact q3
  | _ => exact iteF (qq T1 H1 (.refl x1.th))
end
end K04
end

section
set_option maxHeartbeats 1000000
set_option pp.maxSteps 400
namespace K04
open PySem PySem.Spec PyProof.Rows L2 Zc
theorem int_eq (a b : Int) : decide (V.int a = V.int b) = decide (a = b) := decide_eq_decide.mpr ⟨fun z => V.int.inj z, fun z => congrArg V.int z⟩
theorem str_eq (a b : Str) : decide (V.str a = V.str b) = decide (a = b) := decide_eq_decide.mpr ⟨fun z => V.str.inj z, fun z => congrArg V.str z⟩
theorem in23 (n : Nat) : inV (.int (n : Int)) [.int 2, .int 3] = decide (n = 2 ∨ n = 3) := by
  have h : ∀ a : Int, eqV (.int a) (.int (n : Int)) = decide (a = (n : Int)) := fun a => by
    rw [Bool.eq_iff_iff]
    simp [eqV]
  show (eqV (.int 2) (.int (n : Int)) || (eqV (.int 3) (.int (n : Int)) || false)) = _
  rw [h, h, Bool.or_false, ← Bool.decide_or]
  exact decide_eq_decide.mpr (by omega)
/-- plain numbers -/
theorem nats_plain : ∀ {l : List Nat}, (∀ n ∈ l, n < 1000) → plainAll (l.map natD) = true
  | [], _ => by simp [plainAll]
  | n :: r, h => by
    have h1 : ((n : Int).natAbs) < 2 ^ 64 := by
      have := h n List.mem_cons_self
      have : (1000 : Nat) < 2 ^ 64 := by decide
      omega
    have h2 := nats_plain fun x hx => h x (List.mem_cons_of_mem _ hx)
    simp only [List.map_cons, plainAll, natD, plainD, decide_eq_true h1, Bool.true_and]
    exact h2
theorem nats_depth (l : List Nat) : PyData.depthAll (l.map natD) = 0 := depth_flat _ fun d hd => by
  obtain ⟨n, _, rfl⟩ := List.mem_map.mp hd
  simp [natD, PyData.depth]
theorem natsT_plain {l : List Nat} (h : ∀ n ∈ l, n < 1000) : plainD (natsT l) = true := by
  simp only [natsT, plainD]
  exact nats_plain h
theorem natsT_depth (l : List Nat) : (natsT l).depth = 1 := by
  simp only [natsT, PyData.depth, nats_depth]
theorem eqv_natsL : ∀ a b : List Nat, PyData.eqvAll (a.map natD) (b.map natD) = decide (a = b)
  | [], [] => by simp [PyData.eqvAll]
  | [], y :: b => by simp [PyData.eqvAll]
  | x :: a, [] => by simp [PyData.eqvAll]
  | x :: a, y :: b => by
    rw [List.map_cons, List.map_cons]
    have ih := eqv_natsL a b
    have e : PyData.eqv (natD x) (natD y) = decide (x = y) := by
      show PyData.eqv (.int x) (.int y) = _
      rw [Bool.eq_iff_iff]
      simp only [PyData.eqv, beq_iff_eq, decide_eq_true_eq]
      omega
    simp only [PyData.eqvAll, e, ih, List.cons.injEq, Bool.decide_and]
theorem eqv_nats (a b : List Nat) : PyData.eqv (natsT a) (natsT b) = decide (a = b) := by
  have := eqv_natsL a b
  simp only [natsT, PyData.eqv]
  exact this
section
variable {P : Program} {w : World} {K : PySem.W.Frag} {mg : Str → Option Value} {base : Heap}
theorem ok_alike_inputs {f c p : Addr} {fd : FuncData} (D : AtT K mg base "alike_inputs" s_alike_inputs ["order", "level", "one", "other"] f fd c p) (m_all : mg "all" = none) :
    FnOk P w K mg base CX0 4 f fd ["order", "level", "one", "other"] (spQ (fun H => H p = some (tabX p)) rAlike) := by
  have TB := D.tab
  refine fn_okC D.at_.F D.code sc_alike_inputs (fun vs H Q E h => ?_) (fun A outer s H vs Q E hr h => ?_)
  · obtain ⟨T, _, _, _, hd, ⟨O, X, Y, lv, ms, rfl, _⟩, _⟩ := h
    exact hd.len
  obtain ⟨T, _, _, sT, hd, ⟨O, X, Y, lv, ms, rfl, hms, lX, lY, hm, hs, rfl⟩, hP, q⟩ := h
  obtain ⟨v1, _, rfl, ⟨ao, xo, rfl, eo, ho⟩, v3, _, rfl, hv, v4, _, rfl, ⟨ax, xx, rfl, ex, hx⟩, v5, _, rfl, ⟨ay, xy, rfl, ey, hy⟩, rfl⟩ := hd
  obtain rfl : v3 = natV lv := hv
  have nd := sc_alike_inputs.nd
  obtain ⟨a, xs, ha, ea, rfl⟩ := ord_at ho hms
  refine ⟨_, (pss_one (ps_ret (pe_allG (own := [("low", 4)]) (g := gName 4) (tt := tYes) hr rfl (by rfl) m_all (by decide +kernel) TB rfl nd (pi_tup (pe_ix ix_tup (pv 0) (pv 1) (fun _ _ => rfl))) (blkOk_by (own := [("low", 4)]) (N := ["order", "level", "one", "other", "low"]) (sc := defScope s_alike_inputs) (by decide +kernel)) (fun _ _ _ _ _ _ _ _ _ hr => (pg_name (i := 4) nd rfl (Or.inl rfl))) (fun _ _ _ _ _ _ _ _ _ hr => pts_nil) (fun _ _ _ _ _ _ _ _ _ hr => (pe_cmpR (op_eqDK K (by rfl) hr.units) (pe_ix (ix_tupK K (by rfl)) (pv 2) (pv 4) (fun _ _ => rfl)) (pe_ix (ix_tupK K (by rfl)) (pv 3) (pv 4) (fun _ _ => rfl)) (nomark _)))))), ?_⟩
  refine ⟨.ref ao, rfl, natV lv, rfl, ao, xo, lv, .ref a, rfl, rfl, .inl (.inl (sT _ _ eo)), atI_nat ha, a, rfl, ⟨_, .inl (.inl (sT _ _ ea))⟩, hP, ?_⟩
  refine gw_dat (fun _ => true) (fun d => match d with | .int i => decide (X[i.toNat]? = Y[i.toNat]?) | _ => false) sT (gives_tup sT ea (nats_da ms)) (fun i d x T2 H2 R R0 hd2 x2 hx2 r r0 => ?_) (fun T' H' x' => ?_)
  · rw [List.getElem?_map] at hd2
    cases e : ms[i]? with
    | none => rw [e] at hd2; cases hd2
    | some m =>
      rw [e] at hd2
      cases hd2
      obtain rfl : x = natV m := hx2
      have mO := hm m (List.mem_of_getElem? e)
      have e1 : X[m]? = some X[m] := List.getElem?_eq_getElem (by omega)
      have e2 : Y[m]? = some Y[m] := List.getElem?_eq_getElem (by omega)
      obtain ⟨b1, _, hb1, eb1, rfl⟩ := ord_at hx e1
      obtain ⟨b2, _, hb2, eb2, rfl⟩ := ord_at hy e2
      refine ⟨rfl, .ref ax, rfl, natV m, rfl, ax, xx, m, .ref b1, rfl, rfl, .inl (.inl (x2.th _ _ (x2.tt _ _ ex))), atI_nat hb1, ?_⟩
      refine ⟨.ref ay, rfl, natV m, rfl, ay, xy, m, .ref b2, rfl, rfl, .inl (.inl (x2.th _ _ (x2.tt _ _ ey))), atI_nat hb2, ?_⟩
      have d1 : Da T2 (natsT X[m]) (.ref b1) := ⟨b1, _, rfl, x2.tt _ _ eb1, nats_da _⟩
      have d2 : Da T2 (natsT Y[m]) (.ref b2) := ⟨b2, _, rfl, x2.tt _ _ eb2, nats_da _⟩
      refine eq_ans (d1.dpH x2.th) (d2.dpH x2.th) (natsT_plain (hs _ (List.mem_append_left _ (List.getElem_mem _))).2) (natsT_plain (hs _ (List.mem_append_right _ (List.getElem_mem _))).2) (by rw [natsT_depth]; decide) (by rw [natsT_depth]; decide) ?_
      rw [eqv_nats]
      have := r T2 H2 (.refl x2.th) rfl
      rw [show (match natD m with | .int i => decide (X[i.toNat]? = Y[i.toNat]?) | _ => false) = decide (X[m]? = Y[m]?) from rfl, e1, e2] at this
      rw [show decide (X[m] = Y[m]) = decide (some X[m] = some Y[m]) from decide_eq_decide.mpr (by simp)]
      exact this
  · have qq := q H' T' x'
    rw [show (ms.map natD).filter (fun _ => true) = ms.map natD from List.filter_eq_self.mpr fun _ _ => rfl]
    have e : anyAll true (fun d => match d with | .int i => decide (X[i.toNat]? = Y[i.toNat]?) | _ => false) (ms.map natD) = ms.all fun m => decide (X[m]? = Y[m]?) := by
      show (if true = true then _ else _) = _
      rw [if_pos rfl, List.all_map]
      rfl
    rw [e]
    exact qq
theorem ok_is_deed {f fN fI fL : Addr} {fd fdN fdI fdL : FuncData} (D : At K mg "is_deed" s_is_deed ["order", "value"] f fd) (DL : At K mg "is_level" s_is_level ["levels", "value"] fL fdL) (DN : At K mg "is_number" s_is_number ["value"] fN fdN) (DI : At K mg "is_integer" s_is_integer ["value"] fI fdI)
    (m_isinstance : mg "isinstance" = none) (m_int : mg "int" = none) (m_bool : mg "bool" = none) (m_tuple : mg "tuple" = none) (m_len : mg "len" = none) : FnOk P w K mg base CX0 4 f fd ["order", "value"] (spQ C0 rDeed) := by
  have GN : FnOk P w K mg base CX0 3 fN fdN ["value"] (spQ C0 rNum) := (ok_is_number DN DI m_isinstance m_int m_bool).mono (by decide)
  have GL : FnOk P w K mg base CX0 3 fL fdL ["levels", "value"] (spQ C0 rLev) := ok_is_level DL DN DI m_isinstance m_int m_bool
  refine D.F.ok sc_is_deed (fun vs H Q E h => ?_) (fun cdv A outer s H vs Q E hr h => ?_)
  · obtain ⟨T, _, _, _, hd, ⟨O, d, rfl, _⟩, _⟩ := h
    exact hd.len
  obtain ⟨T, _, _, sT, hd, ⟨O, d, rfl, hok, rfl⟩, _, q⟩ := h
  obtain ⟨v1, _, rfl, ⟨ao, xo, rfl, eo, ho⟩, v, _, rfl, hv, rfl⟩ := hd
  have lo : xo.length = O.length := by rw [ho.len, List.length_map]
  obtain ⟨t, ty, _, _, e3, _⟩ := hv.ask (K := K) sT
  refine ⟨_, (pss_cons (ps_if (PW.pt (pw_or (pt_not (pt_val (pe_callB call_isi (by rfl) m_isinstance boot_isinstance (pa_cons (pv 1) (pa_cons (pe_bltn (v := .ty "tuple") (by rfl) m_tuple boot_tuple rfl) pa_nil))))) (pw_or1 (pt_cmpR op_notIn_seq (pe_callB call_len_seq (by rfl) m_len PySem.boot_len (pa_cons (pv 1) pa_nil)) (pe_tup (pa_cons pe_int (pa_cons pe_int pa_nil))) (by rfl)))))
    (pss_one (ps_ret pe_bl))
    pss_nil)
  (pss_cons (ps_if (pt_cmpR op_eq (pe_callB call_len_seq (by rfl) m_len PySem.boot_len (pa_cons (pv 1) pa_nil)) pe_int (nomark _))
    (pss_one (ps_ret (pe_and (pe_cmpR op_eq (pe_ix ix_tup (pv 1) pe_int (fun _ _ => rfl)) pe_str (nomark _)) (pe_one (pe_call GN hr (by rfl) DN.g DN.F.kp DN.b .nil pass0 (pa_cons (pe_ix ix_tup (pv 1) pe_int (fun _ _ => rfl)) pa_nil))))))
    pss_nil)
  (pss_one (ps_ret (pe_and (pe_cmpR op_eq (pe_ix ix_tup (pv 1) pe_int (fun _ _ => rfl)) pe_str (nomark _)) (pe_and (pe_call GL hr (by rfl) DL.g DL.F.kp DL.b .nil pass0 (pa_cons (pe_callB call_len_seq (by rfl) m_len PySem.boot_len (pa_cons (pv 0) pa_nil)) (pa_cons (pe_ix ix_tup (pv 1) pe_int (fun _ _ => rfl)) pa_nil))) (pe_one (pe_call GN hr (by rfl) DN.g DN.F.kp DN.b .nil pass0 (pa_cons (pe_ix ix_tup (pv 1) pe_int (fun _ _ => rfl)) pa_nil))))))))), ?_⟩
  refine ⟨v, rfl, v, .ty "tuple", t, _, _, rfl, .ty _, ty, e3, _, rfl, ?_⟩
  cases d with
  | tuple ds =>
    obtain ⟨a, xs, rfl, ea, hx⟩ := hv
    refine iteFe rfl ⟨.ref a, rfl, a, xs, rfl, .inr (.inl (.inl (sT _ _ ea))), by show 2 ≤ sizeLine; decide, fun m nm => ?_⟩
    have x1 : Ext T H T (upd H m (.tup [.int 2, .int 3])) := .more sT (same_new nm)
    refine ⟨m, _, rfl, .inr (.inl (.inl upd_same)), rfl, rfl, _, rfl, ?_⟩
    generalize (upd H m (.tup [.int 2, .int 3])) = H1 at x1 ⊢
    show if (!inV (.int (xs.length : Nat)) [.int 2, .int 3]) = true then _ else _
    rw [in23, hx.len]
    have sT1 := x1.th
    match ds, hx, hok with
    | [], _, _ => exact q H1 T x1
    | [d1], _, _ =>
      rw [show isDeedD (O.length : Nat) (.tuple [d1]) = false by cases d1 <;> rfl] at q
      exact q H1 T x1
    | [d1, d2], hx, hok =>
      obtain ⟨w1, _, rfl, h1, w2, _, rfl, h2, rfl⟩ := hx
      refine iteFe rfl ⟨.ref a, rfl, a, _, rfl, .inr (.inl (.inl (sT1 _ _ ea))), rfl, _, rfl, iteTe rfl ?_⟩
      refine ⟨.ref a, rfl, a, [w1, w2], 0, w1, rfl, rfl, .inl (.inl (sT1 _ _ ea)), rfl, ?_⟩
      cases d1 with
      | str x =>
        obtain rfl : w1 = .str x := h1
        refine ⟨rfl, _, rfl, ?_⟩
        rw [str_eq]
        refine ite2 (fun e => ?_) (fun e => ?_)
        · refine ⟨.ref a, rfl, a, [.str x, w2], 1, w2, rfl, rfl, .inl (.inl (sT1 _ _ ea)), rfl, T, [d2], _, sT1, .one h2, ⟨d2, rfl, rfl⟩, trivial, fun H2 T2 x2 => ?_⟩
          have := q H2 T2 (x1.trans x2)
          rw [show isDeedD (O.length : Nat) (.tuple [.str x, d2]) = (decide (x = "end") && isNumD d2) from rfl, e, Bool.true_and] at this
          exact this
        · have := q H1 T x1
          rw [show isDeedD (O.length : Nat) (.tuple [.str x, d2]) = (decide (x = "end") && isNumD d2) from rfl, Bool.eq_false_iff.mpr e, Bool.false_and] at this
          exact this
      | _ => cases hok
    | [d1, d2, d3], hx, hok =>
      obtain ⟨w1, _, rfl, h1, w2, _, rfl, h2, w3, _, rfl, h3, rfl⟩ := hx
      refine iteFe rfl ⟨.ref a, rfl, a, _, rfl, .inr (.inl (.inl (sT1 _ _ ea))), rfl, _, rfl, iteFe rfl ?_⟩
      refine ⟨.ref a, rfl, a, [w1, w2, w3], 0, w1, rfl, rfl, .inl (.inl (sT1 _ _ ea)), rfl, ?_⟩
      cases d1 with
      | str x =>
        obtain rfl : w1 = .str x := h1
        refine ⟨rfl, _, rfl, ?_⟩
        rw [str_eq]
        have eqD : isDeedD (O.length : Nat) (.tuple [.str x, d2, d3]) = (decide (x = "out") && (isLev (O.length : Nat) d2 && isNumD d3)) := rfl
        rw [eqD] at q
        refine ite2 (fun e => ?_) (fun e => ?_)
        · rw [e] at q
          refine ⟨.ref ao, rfl, ao, xo, rfl, .inr (.inl (.inl (sT1 _ _ eo))), .ref a, rfl, a, [.str x, w2, w3], 1, w2, rfl, rfl, .inl (.inl (sT1 _ _ ea)), rfl, T, [.int (xo.length : Nat), d2], _, sT1, .two rfl h2, ⟨_, d2, rfl, rfl⟩, trivial, fun H2 T2 x2 => ⟨_, rfl, ?_⟩⟩
          rw [lo]
          refine ite2 (fun e2 => ?_) (fun e2 => ?_)
          · rw [e2] at q
            refine ⟨.ref a, rfl, a, [.str x, w2, w3], 2, w3, rfl, rfl, .inl (.inl (x2.th _ _ (x2.tt _ _ ea))), rfl, T2, [d3], _, x2.th, .one (Da.keep x2.tt _ _ h3), ⟨d3, rfl, rfl⟩, trivial, fun H3 T3 x3 => ?_⟩
            exact q H3 T3 (x1.trans (x2.trans x3))
          · rw [Bool.eq_false_iff.mpr e2] at q
            exact q H2 T2 (x1.trans x2)
        · rw [Bool.eq_false_iff.mpr e] at q
          exact q H1 T x1
      | _ => cases hok
    | d1 :: d2 :: d3 :: d4 :: r, _, _ =>
      rw [show isDeedD (O.length : Nat) (.tuple (d1 :: d2 :: d3 :: d4 :: r)) = false by cases d1 <;> rfl] at q
      refine iteTe ?_ ?_
      · rw [List.length_cons, List.length_cons, List.length_cons, List.length_cons, decide_eq_false (by omega)]
        rfl
      · exact q H1 T x1
  | _ => exact iteTe rfl (q H T (.refl sT))
theorem ok_is_record {f fN fI fL fD fT : Addr} {fd fdN fdI fdL fdD fdT : FuncData} (D : At K mg "is_record" s_is_record ["order", "value"] f fd) (Dde : At K mg "is_deed" s_is_deed ["order", "value"] fD fdD) (DT : At K mg "is_tuple_of" s_is_tuple_of ["value", "many"] fT fdT)
    (DL : At K mg "is_level" s_is_level ["levels", "value"] fL fdL) (DN : At K mg "is_number" s_is_number ["value"] fN fdN) (DI : At K mg "is_integer" s_is_integer ["value"] fI fdI)
    (m_isinstance : mg "isinstance" = none) (m_int : mg "int" = none) (m_bool : mg "bool" = none) (m_tuple : mg "tuple" = none) (m_len : mg "len" = none) : FnOk P w K mg base CX0 5 f fd ["order", "value"] (spQ C0 rRecord) := by
  have GN : FnOk P w K mg base CX0 4 fN fdN ["value"] (spQ C0 rNum) := (ok_is_number DN DI m_isinstance m_int m_bool).mono (by decide)
  have GT : FnOk P w K mg base CX0 4 fT fdT ["value", "many"] (spQ C0 rTupOf) := (ok_is_tuple_of DT m_isinstance m_tuple m_len).mono (by decide)
  have Gde : FnOk P w K mg base CX0 4 fD fdD ["order", "value"] (spQ C0 rDeed) := ok_is_deed Dde DL DN DI m_isinstance m_int m_bool m_tuple m_len
  refine D.F.ok sc_is_record (fun vs H Q E h => ?_) (fun cdv A outer s H vs Q E hr h => ?_)
  · obtain ⟨T, _, _, _, hd, ⟨O, d, rfl, _⟩, _⟩ := h
    exact hd.len
  obtain ⟨T, _, _, sT, hd, ⟨O, d, rfl, hok, rfl⟩, _, q⟩ := h
  obtain ⟨v1, _, rfl, hO, v, _, rfl, hv, rfl⟩ := hd
  have nd := sc_is_record.nd
  obtain ⟨t, ty, _, _, e3, _⟩ := hv.ask (K := K) sT
  refine ⟨_, (pss_cons (ps_if (pt_not (pt_val (pe_callB call_isi (by rfl) m_isinstance boot_isinstance (pa_cons (pv 1) (pa_cons (pe_bltn (v := .ty "tuple") (by rfl) m_tuple boot_tuple rfl) pa_nil)))))
    (pss_one (ps_ret pe_bl))
    pss_nil)
  (pss_cons (ps_set (i := 2) nd rfl (.inl rfl) pe_int)
  (pss_cons (ps_for PassesOwn.never rfl (pi_tup (pv 1)) (pg_name (i := 3) nd rfl (Or.inl rfl))
    (pss_cons (ps_if (PW.pt (pw_or (pt_not (pt_val (pe_call GT hr (by rfl) DT.g DT.F.kp DT.b .nil pass0 (pa_cons (pv 3) (pa_cons pe_int pa_nil))))) (pw_or (pt_not (pt_val (pe_call GN hr (by rfl) DN.g DN.F.kp DN.b .nil pass0 (pa_cons (pe_ix ix_tup (pv 3) pe_int (fun _ _ => rfl)) pa_nil)))) (pw_or1 (pt_not (pt_val (pe_call Gde hr (by rfl) Dde.g Dde.F.kp Dde.b .nil pass0 (pa_cons (pv 0) (pa_cons (pe_ix ix_tup (pv 3) pe_int (fun _ _ => rfl)) pa_nil)))))))))
        (pss_one (ps_ret pe_bl))
        pss_nil)
      (pss_cons (ps_if (pt_cmpR op_lt (pe_ix ix_tup (pv 3) pe_int (fun _ _ => rfl)) (pv 2) (nomark _))
        (pss_one (ps_ret pe_bl))
        pss_nil)
      (pss_one (ps_set (i := 2) nd rfl (.inl rfl) (pe_ix ix_tup (pv 3) pe_int (fun _ _ => rfl)))))))
  (pss_one (ps_ret pe_bl))))), ?_⟩
  refine ⟨v, rfl, v, .ty "tuple", t, _, _, rfl, .ty _, ty, e3, _, rfl, ?_⟩
  cases d with
  | tuple ds =>
    have hok := hok ds rfl
    obtain ⟨a, xs, rfl, ea, hx⟩ := hv
    refine iteFe rfl ?_
    refine ⟨.ref a, rfl, a, rfl, ⟨_, .inl (.inl (sT _ _ ea))⟩, ?_⟩
    have lx := hx.len
    refine for_tup (K := K) (a := a) (xs := xs) (fun i σ H' => ∃ (b : Int) (y3 : Option V) (T' : Hp), σ = [some v1, some (.ref a), some (.int b), y3] ∧ Ext T H T' H' ∧ recGo (O.length : Nat) 0 ds = recGo (O.length : Nat) b (ds.drop i))
      ⟨0, none, T, rfl, .refl sT, rfl⟩ (fun i σ H' _ ⟨_, _, T', _, x', _⟩ => .inl (.inl (x'.th _ _ (x'.tt _ _ ea)))) ?_ ?_
    · rintro i x σ H' hi ⟨b, y3, T', rfl, x', hgo⟩
      obtain ⟨d, hd, hdx⟩ := hx.get hi
      have il : i < ds.length := (List.getElem?_eq_some_iff.mp hd).1
      have hdrop : ds.drop i = d :: ds.drop (i + 1) := by
        rw [List.drop_eq_getElem_cons il]
        congr 1
        rw [List.getElem?_eq_getElem il] at hd
        exact Option.some.inj hd
      rw [hdrop] at hgo
      have hdx' := Da.keep x'.tt _ _ hdx
      have okd : pairOk d = true := List.all_eq_true.mp hok d (List.mem_of_getElem? hd)
      rw [show isRecD (O.length : Nat) (.tuple ds) = recGo (O.length : Nat) 0 ds from rfl, hgo] at q
      -- a pair?
      refine ⟨x, rfl, T', [d, .int 2], _, x'.th, .two hdx' rfl, ⟨d, 2, rfl, rfl⟩, trivial, fun H1 T1 x1 => ⟨_, rfl, ?_⟩⟩
      have xA := x'.trans x1
      have bad : recGo (O.length : Nat) b (d :: ds.drop (i + 1)) = false → ∀ {T2 H2 : Hp}, Ext T H T2 H2 → Q (.bl false) H2 := fun e T2 H2 x2 => by
        have := q H2 T2 x2
        rw [e] at this
        exact this
      cases d with
      | tuple ps =>
        match ps, hdx', okd with
        | [], _, _ => exact iteTe rfl (bad rfl xA)
        | [p1], _, _ => exact iteTe rfl (bad (by cases p1 <;> rfl) xA)
        | p1 :: p2 :: p3 :: r, _, _ =>
          refine iteTe ?_ (bad (by cases p1 <;> rfl) xA)
          show (!decide (((p1 :: p2 :: p3 :: r).length : Int) = 2)) = true
          rw [decide_eq_false (by simp; omega)]
          rfl
        | [p1, p2], hdx', okd =>
          obtain ⟨pa, px, rfl, epa, hpx⟩ := hdx'
          obtain ⟨w1, _, rfl, h1, w2, _, rfl, h2, rfl⟩ := hpx
          refine iteFe rfl ?_
          have epa1 := x1.th _ _ (x1.tt _ _ epa)
          refine ⟨.ref pa, rfl, pa, [w1, w2], 0, w1, rfl, rfl, .inl (.inl epa1), rfl, T1, [p1], _, x1.th, .one (Da.keep x1.tt _ _ h1), ⟨p1, rfl, rfl⟩, trivial, fun H2 T2 x2 => ⟨_, rfl, ?_⟩⟩
          have xB := xA.trans x2
          cases p1 with
          | int tk =>
            obtain rfl : w1 = .int tk := h1
            have eqG : recGo (O.length : Nat) b (.tuple [.int tk, p2] :: ds.drop (i + 1)) = (decide (0 ≤ tk) && (isDeedD (O.length : Nat) p2 && (!decide (tk < b) && recGo (O.length : Nat) tk (ds.drop (i + 1))))) := rfl
            rw [show isNumD (.int tk) = decide (0 ≤ tk) from rfl]
            cases e0 : decide (0 ≤ tk) with
            | false => exact iteTe rfl (bad (by rw [eqG, e0, Bool.false_and]) xB)
            | true =>
              refine iteFe rfl ?_
              have epa2 := x2.th _ _ (x2.tt _ _ (x1.tt _ _ epa))
              refine ⟨v1, rfl, .ref pa, rfl, pa, [.int tk, w2], 1, w2, rfl, rfl, .inl (.inl epa2), rfl, T2, [ordD O, p2], _, x2.th, .two (Da.keep xB.tt _ _ hO) (Da.keep (x1.tt.trans x2.tt) _ _ h2), ⟨O, p2, rfl, okd, rfl⟩, trivial, fun H3 T3 x3 => ⟨_, rfl, ?_⟩⟩
              have xC := xB.trans x3
              cases e1 : isDeedD (O.length : Nat) p2 with
              | false => exact iteTe rfl (bad (by rw [eqG, e0, e1]; rfl) xC)
              | true =>
                refine iteFe rfl ?_
                have epa3 := x3.th _ _ (x3.tt _ _ (x2.tt _ _ (x1.tt _ _ epa)))
                refine ⟨.ref pa, rfl, pa, [.int tk, w2], 0, .int tk, rfl, rfl, .inl (.inl epa3), rfl, .int b, rfl, tk, b, rfl, rfl, _, rfl, ?_⟩
                cases e2 : decide (tk < b) with
                | true => exact iteT (bad (by rw [eqG, e0, e1, e2]; rfl) xC)
                | false =>
                  refine iteF ⟨.ref pa, rfl, pa, [.int tk, w2], 0, .int tk, rfl, rfl, .inl (.inl epa3), rfl, tk, _, T3, rfl, xC, ?_⟩
                  rw [hgo, eqG, e0, e1, e2]
                  rfl
          | _ => exact iteTe rfl (bad rfl xB)
      | _ => exact iteTe rfl (bad rfl xA)
    · rintro σ H' ⟨b, y3, T', rfl, x', hgo⟩
      have := q H' T' x'
      rw [show isRecD (O.length : Nat) (.tuple ds) = recGo (O.length : Nat) 0 ds from rfl, hgo, lx, List.drop_length] at this
      exact this
  | _ => exact iteTe rfl (q H T (.refl sT))
end
end K04
end

section
set_option maxHeartbeats 1000000
set_option pp.maxSteps 400
namespace K04
open PySem PySem.Spec PyProof.Rows L2 Zc
/-- what a level with the lot ms sees -/
def seenB (ms : List Nat) (E : List (List Nat)) : Deed → Bool
  | .out l _ => decide (l ∈ ms)
  | .fin t => (E.getD t []).all fun l => decide (l ∈ ms)
def wfD (n : Nat) : Deed → Prop
  | .out _ _ => True
  | .fin t => t < n
def wfR (n : Nat) (r : List (Nat × Deed)) : Prop := r.length < 1000 ∧ ∀ p ∈ r, wfD n p.2
def rIsSeen (ds : List PyData) (b : Bool) : Prop := ∃ (O E : List (List Nat)) (lv : Nat) (ms : List Nat) (d : Deed), ds = [ordD O, natD lv, ordD E, deedD d] ∧ O[lv]? = some ms ∧ wfD E.length d ∧ b = seenB ms E d
def seenR (ms : List Nat) (E : List (List Nat)) (r : List (Nat × Deed)) : List (Nat × Deed) := r.filter fun p => seenB ms E p.2
def cutR (tk : Nat) (r : List (Nat × Deed)) : List (Nat × Deed) := r.filter fun p => decide (p.1 < tk)
def rSeen (ds : List PyData) (out : PyData) : Prop := ∃ (O E : List (List Nat)) (lv : Nat) (ms : List Nat) (r : List (Nat × Deed)), ds = [ordD O, natD lv, ordD E, recD r] ∧ O[lv]? = some ms ∧ wfR E.length r ∧ out = recD (seenR ms E r)
def rCut (ds : List PyData) (out : PyData) : Prop := ∃ (r : List (Nat × Deed)) (tk : Nat), ds = [recD r, natD tk] ∧ r.length < 1000 ∧ out = recD (cutR tk r)
section
variable {P : Program} {w : World} {K : PySem.W.Frag} {mg : Str → Option Value} {base : Heap}
theorem ok_is_seen {f fW c p : Addr} {fd fdW : FuncData} (D : At K mg "is_seen" s_is_seen ["order", "level", "ends", "deed"] f fd) (DW' : AtT K mg base "lot_within" s_lot_within ["order", "lot", "level"] fW fdW c p) (m_all : mg "all" = none) :
    FnOk P w K mg base CX0 5 f fd ["order", "level", "ends", "deed"] (spQ (fun H => H p = some (tabX p)) rIsSeen) := by
  have GW : FnOk P w K mg base CX0 4 fW fdW ["order", "lot", "level"] (spQ (fun H => H p = some (tabX p)) rWithin) := ok_lot_within DW' m_all
  have DW := DW'.at_
  refine D.F.ok sc_is_seen (fun vs H Q E h => ?_) (fun cdv A outer s H vs Q E hr h => ?_)
  · obtain ⟨T, _, _, _, hd, ⟨O, En, lv, ms, d, rfl, _⟩, _⟩ := h
    exact hd.len
  obtain ⟨T, _, _, sT, hd, ⟨O, En, lv, ms, d, rfl, hms, hwf, rfl⟩, hP, q⟩ := h
  obtain ⟨v1, _, rfl, hO, v2, _, rfl, hv, v3, _, rfl, ⟨ae, xe, rfl, ee, he⟩, v4, _, rfl, hdd, rfl⟩ := hd
  obtain rfl : v2 = natV lv := hv
  obtain ⟨ao, xo, rfl, eo, ho⟩ := id hO
  obtain ⟨a, _, ha, ea, rfl⟩ := ord_at ho hms
  refine ⟨_, (pss_cons (ps_if (pt_cmpR op_eq (pe_ix ix_tup (pv 3) pe_int (fun _ _ => rfl)) pe_str (nomark _))
    (pss_one (ps_ret (pe_cmpR op_in_seq (pe_ix ix_tup (pv 3) pe_int (fun _ _ => rfl)) (pe_ix ix_tup (pv 0) (pv 1) (fun _ _ => rfl)) (by rfl))))
    pss_nil)
  (pss_one (ps_ret (pe_call GW hr (by rfl) DW.g DW.F.kp DW.b .nil pass0 (pa_cons (pv 0) (pa_cons (pe_ix ix_tup (pv 2) (pe_ix ix_tup (pv 3) pe_int (fun _ _ => rfl)) (fun _ _ => rfl)) (pa_cons (pv 1) pa_nil))))))), ?_⟩
  cases d with
  | out l n =>
    obtain ⟨ad, _, rfl, ed, w1, _, rfl, h1, w2, _, rfl, h2, w3, _, rfl, h3, rfl⟩ := hdd
    obtain rfl : w1 = .str "out" := h1
    obtain rfl : w2 = natV l := h2
    obtain rfl : w3 = natV n := h3
    refine ⟨.ref ad, rfl, ad, _, 0, .str "out", rfl, rfl, .inl (.inl (sT _ _ ed)), rfl, rfl, _, rfl, iteTe (decide_eq_true rfl) ?_⟩
    refine ⟨.ref ad, rfl, ad, _, 1, natV l, rfl, rfl, .inl (.inl (sT _ _ ed)), rfl, .ref ao, rfl, natV lv, rfl, ao, xo, lv, .ref a, rfl, rfl, .inl (.inl (sT _ _ eo)), atI_nat ha, ?_⟩
    refine ⟨a, _, rfl, .inr (.inl (.inl (sT _ _ ea))), rfl, flat_nats ms, ?_⟩
    show Q (.bl (inV (natV l) (ms.map natV))) H
    rw [inV_nats]
    exact q H T (.refl sT)
  | fin t =>
    obtain ⟨ad, _, rfl, ed, w1, _, rfl, h1, w2, _, rfl, h2, rfl⟩ := hdd
    obtain rfl : w1 = .str "end" := h1
    obtain rfl : w2 = natV t := h2
    have ht : t < En.length := hwf
    have et : En[t]? = some En[t] := List.getElem?_eq_getElem ht
    obtain ⟨b, _, hb, eb, rfl⟩ := ord_at he et
    refine ⟨.ref ad, rfl, ad, _, 0, .str "end", rfl, rfl, .inl (.inl (sT _ _ ed)), rfl, rfl, _, rfl, iteFe (by decide +kernel) ?_⟩
    refine ⟨.ref ao, rfl, .ref ae, rfl, .ref ad, rfl, ad, _, 1, natV t, rfl, rfl, .inl (.inl (sT _ _ ed)), rfl, ae, xe, t, .ref b, rfl, rfl, .inl (.inl (sT _ _ ee)), atI_nat hb, natV lv, rfl, ?_⟩
    refine ⟨T, [ordD O, natsT En[t], natD lv], _, sT, .three hO ⟨b, _, rfl, eb, nats_da _⟩ rfl, ⟨O, En[t], lv, ms, rfl, hms, rfl⟩, hP, fun H1 T1 x1 => ?_⟩
    have := q H1 T1 x1
    rw [show seenB ms En (.fin t) = (En.getD t []).all fun l => decide (l ∈ ms) from rfl, List.getD_eq_getElem?_getD, et] at this
    exact this
theorem ok_seen {f fS fW c p : Addr} {fd fdS fdW : FuncData} (D : At K mg "seen" s_seen ["order", "level", "ends", "record"] f fd) (Dis : At K mg "is_seen" s_is_seen ["order", "level", "ends", "deed"] fS fdS) (DW' : AtT K mg base "lot_within" s_lot_within ["order", "lot", "level"] fW fdW c p)
    (m_all : mg "all" = none) (m_tuple : mg "tuple" = none) : FnOk P w K mg base CX0 6 f fd ["order", "level", "ends", "record"] (spD (fun H => H p = some (tabX p)) rSeen) := by
  have Gis : FnOk P w K mg base CX0 5 fS fdS ["order", "level", "ends", "deed"] (spQ (fun H => H p = some (tabX p)) rIsSeen) := ok_is_seen Dis DW' m_all
  refine D.F.ok sc_seen (fun vs H Q E h => ?_) (fun cdv A outer s H vs Q E hr h => ?_)
  · obtain ⟨T, _, _, _, hd, ⟨O, En, lv, ms, d, rfl, _⟩, _⟩ := h
    exact hd.len
  obtain ⟨T, _, _, sT, hd, ⟨O, En, lv, ms, r, rfl, hms, hwf, rfl⟩, hP, q⟩ := h
  obtain ⟨v1, _, rfl, hO, v2, _, rfl, hv, v3, _, rfl, hE, v4, _, rfl, ⟨ar, xr, rfl, er, hr4⟩, rfl⟩ := hd
  have nd := sc_seen.nd
  have big : (1000 : Nat) < sizeLine := by decide
  refine ⟨_, (pss_one (ps_ret (pe_callTy call_tuple_of (by rfl) m_tuple boot_tuple (pa_cons (pe_lc (own := [("tick", 4), ("deed", 5)]) (g := gTup K 2 (gCons (gName 4) (gCons (gName 5) gNil)))  (by rfl) nd (pi_tup (pv 3)) (blkOk_by (own := [("tick", 4), ("deed", 5)]) (N := ["order", "level", "ends", "record", "tick", "deed"]) (sc := defScope s_seen) (by decide +kernel)) (fun _ _ _ _ _ => (pg_tup (by rfl) (pgs_cons (pg_name (i := 4) nd rfl (Or.inl rfl)) (pgs_cons (pg_name (i := 5) nd rfl (Or.inl rfl)) pgs_nil)))) (fun _ _ _ _ _ => pts_one (pt_val (pe_call Gis hr (by rfl) Dis.g Dis.F.kp Dis.b .nil pass0 (pa_cons (pv 0) (pa_cons (pv 1) (pa_cons (pv 2) (pa_cons (pv 5) pa_nil))))))) (fun _ _ _ _ _ => (pe_tup (pa_cons (pv 4) (pa_cons (pv 5) pa_nil))))) pa_nil)))), ?_⟩
  refine ⟨.ref ar, rfl, ar, rfl, ⟨_, .inl (.inl (sT _ _ er))⟩, fun Dl nD => ?_⟩
  refine lc_enc (enc := pairD) (p := fun p => seenB ms En p.2) (f := pairD) (ds := r) (T := T) sT nD (by have := hwf.1; omega) (gives_tup sT er hr4) (fun i pr x T2 H2 R R0 hi x2 hx2 r1 r0 => ?_) (fun T' H' ys x' hys hda => ?_)
  · obtain ⟨t2, _, rfl, et, w1, _, rfl, h1, w2, _, rfl, h2, rfl⟩ := hx2
    refine ⟨t2, _, rfl, .inl (.inl (x2.th _ _ et)), rfl, _, _, rfl, _, _, rfl, ⟨rfl, rfl, ?_⟩⟩
    refine ⟨v1, rfl, v2, rfl, v3, rfl, w2, rfl, T2, [ordD O, natD lv, ordD En, deedD pr.2], _, x2.th, ⟨v1, _, rfl, Da.keep x2.tt _ _ hO, v2, _, rfl, hv, v3, _, rfl, Da.keep x2.tt _ _ hE, w2, _, rfl, h2, rfl⟩, ⟨O, En, lv, ms, pr.2, rfl, hms, hwf.2 pr (List.mem_of_getElem? hi), rfl⟩, x2.hh _ _ hP, fun H3 T3 x3 => ⟨_, rfl, ?_⟩⟩
    refine ite2 (fun e => ?_) (fun e => r0 T3 H3 x3 (Bool.eq_false_iff.mpr e))
    refine ⟨w1, rfl, w2, rfl, by show 2 ≤ sizeLine; decide, fun m nm => ?_⟩
    have x4 := Ext.new (o := .tup [w1, w2]) x3.th nm
    exact r1 _ _ _ (x3.trans x4) ⟨m, _, rfl, upd_same, .two (Da.keep (x3.tt.trans x4.tt) _ _ h1) (Da.keep (x3.tt.trans x4.tt) _ _ h2)⟩ e
  · refine ⟨Dl, ys, rfl, .inl ⟨.inl (.inl (x'.th _ _ hys)), fun t nt => ?_⟩⟩
    have x4 := Ext.new (o := .tup ys) x'.th nt
    exact q _ _ _ (x'.trans x4) ⟨t, ys, rfl, upd_same, hda.keep x4.tt⟩
theorem ok_cut_record {f : Addr} {fd : FuncData} (D : At K mg "cut_record" s_cut_record ["record", "tick"] f fd) (m_tuple : mg "tuple" = none) : FnOk P w K mg base CX0 1 f fd ["record", "tick"] (spD C0 rCut) := by
  refine D.F.ok sc_cut_record (fun vs H Q E h => ?_) (fun cdv A outer s H vs Q E hr h => ?_)
  · obtain ⟨T, _, _, _, hd, ⟨r, tk, rfl, _⟩, _⟩ := h
    exact hd.len
  obtain ⟨T, _, _, sT, hd, ⟨r, tk, rfl, hl, rfl⟩, _, q⟩ := h
  obtain ⟨v4, _, rfl, ⟨ar, xr, rfl, er, hr4⟩, v2, _, rfl, hv, rfl⟩ := hd
  obtain rfl : v2 = natV tk := hv
  have nd := sc_cut_record.nd
  have big : (1000 : Nat) < sizeLine := by decide
  refine ⟨_, (pss_one (ps_ret (pe_callTy call_tuple_of (by rfl) m_tuple boot_tuple (pa_cons (pe_lc (own := [("pair", 2)]) (g := gName 2)  (by rfl) nd (pi_tup (pv 0)) (blkOk_by (own := [("pair", 2)]) (N := ["record", "tick", "pair"]) (sc := defScope s_cut_record) (by decide +kernel)) (fun _ _ _ _ _ => (pg_name (i := 2) nd rfl (Or.inl rfl))) (fun _ _ _ _ _ => pts_one (pt_cmpR op_lt (pe_ix (ix_tupK K (by rfl)) (pv 2) pe_int (fun _ _ => rfl)) (pv 1) (nomark _))) (fun _ _ _ _ _ => (pv 2))) pa_nil)))), ?_⟩
  refine ⟨.ref ar, rfl, ar, rfl, ⟨_, .inl (.inl (sT _ _ er))⟩, fun Dl nD => ?_⟩
  refine lc_enc (enc := pairD) (p := fun p => decide (p.1 < tk)) (f := pairD) (ds := r) (T := T) sT nD (by omega) (gives_tup sT er hr4) (fun i pr x T2 H2 R R0 hi x2 hx2 r1 r0 => ?_) (fun T' H' ys x' hys hda => ?_)
  · have hx3 := hx2
    obtain ⟨t2, _, rfl, et, w1, _, rfl, h1, w2, _, rfl, h2, rfl⟩ := hx2
    obtain rfl : w1 = natV pr.1 := h1
    refine ⟨rfl, .ref t2, rfl, t2, _, 0, natV pr.1, rfl, rfl, .inl (.inl (x2.th _ _ et)), rfl, natV tk, rfl, _, _, rfl, rfl, _, rfl, ?_⟩
    have e0 : decide ((pr.1 : Int) < (tk : Int)) = decide (pr.1 < tk) := decide_eq_decide.mpr (by omega)
    rw [e0]
    refine ite2 (fun e => ?_) (fun e => r0 T2 H2 (.refl x2.th) (Bool.eq_false_iff.mpr e))
    exact ⟨.ref t2, rfl, r1 T2 H2 _ (.refl x2.th) hx3 e⟩
  · refine ⟨Dl, ys, rfl, .inl ⟨.inl (.inl (x'.th _ _ hys)), fun t nt => ?_⟩⟩
    have x4 := Ext.new (o := .tup ys) x'.th nt
    exact q _ _ _ (x'.trans x4) ⟨t, ys, rfl, upd_same, hda.keep x4.tt⟩
end
end K04
end

section
set_option maxHeartbeats 2000000
set_option pp.maxSteps 400
namespace K04
open PySem PySem.Spec PyProof.Rows L2 Zc
theorem natV_int (xs : List Nat) : (xs.map natV) = (xs.map Int.ofNat).map V.int := by
  rw [List.map_map]
  rfl
theorem ne_nil_nats {K : PySem.W.Frag} {H : Hp} {l p : Addr} {xs : List Nat} {Q : VK} (h : SqL K H l (xs.map natV)) (hp : SqL K H p []) (q : Q (.bl (!xs.isEmpty)) H) : rNeD K (.ref l) (.ref p) H Q := by
  refine ne_nil_read (ns := xs.map Int.ofNat) (by rw [← natV_int]; exact h) hp ?_
  rw [show (xs.map Int.ofNat).isEmpty = xs.isEmpty by cases xs <;> rfl]
  exact q
theorem seqIx {k n : Nat} (h : k < n) : seqIndex? (k : Int) n = some k := by
  unfold seqIndex?
  have h0 : ¬ ((k : Int) < 0) := by omega
  simp only [h0, if_false]
  rw [show (decide (0 ≤ (k : Int)) && decide ((k : Int) < (n : Int))) = true by rw [decide_eq_true (by omega), decide_eq_true (by omega)]; rfl]
  simp
def spMixed (K : PySem.W.Frag) : Sp := fun vs H Q _ => ∃ (d l a : Addr) (xs : List Nat), vs = [.ref d, .ref a] ∧ Deal H d l ∧ SqL K H a (xs.map natV) ∧ xs.length ≤ 1000 ∧
  ∀ (ys : List Nat) (p : Addr) (H' : Hp), ys.Perm xs → H p = none → H' p = some (.lst (ys.map natV)) → Deal H' d l → But d l H H' → Q (.ref p) H'
def pairN (p : Nat × Nat) : PyData := .tuple [natD p.1, natD p.2]
/-- what the closing hands back -/
structure Closed (n : Nat) (ps : List (Nat × Nat)) (O : List (List Nat)) : Prop where
  C : Closing n ps O
  F : Full n ps n O
def spClosed : Sp := fun vs H Q _ => ∃ (T : Hp) (n : Nat) (a : Addr) (xs : List V) (ps : List (Nat × Nat)), vs = [.int (n : Int), .ref a] ∧ Same T H ∧ T a = some (.lst xs) ∧ DaA T (ps.map pairN) xs ∧ n ≤ 100 ∧ ps.length ≤ 1000 ∧ (∀ p ∈ ps, p.1 < n ∧ p.2 < n) ∧
  ∀ O H' T' v, Closed n ps O → Ext T H T' H' → Da T' (ordD O) v → Q v H'
theorem eraseIdx_map {α β : Type} (f : α → β) : ∀ (l : List α) (k : Nat), (l.map f).eraseIdx k = (l.eraseIdx k).map f
  | [], _ => rfl
  | a :: r, 0 => rfl
  | a :: r, k + 1 => by
    rw [List.map_cons, List.eraseIdx_cons_succ, List.eraseIdx_cons_succ, List.map_cons, eraseIdx_map f r k]
theorem perm_take : ∀ {l : List Nat} {k x : Nat}, l[k]? = some x → l.Perm (x :: l.eraseIdx k)
  | [], k, x, h => by cases h
  | a :: r, 0, x, h => by
    cases h
    exact List.Perm.refl _
  | a :: r, k + 1, x, h => by
    have h' : r[k]? = some x := h
    rw [List.eraseIdx_cons_succ]
    exact ((perm_take h').cons a).trans (List.Perm.swap x a _)
section
variable {P : Program} {w : World} {K : PySem.W.Frag} {mg : Str → Option Value} {base : Heap}
theorem ok_mixed {f fA : Addr} {fd fdA : FuncData} (D : At K mg "_law_mixed" s__law_mixed ["deal", "some"] f fd) (DA : At K mg "_law_any" s__law_any ["deal", "bound"] fA fdA)
    (m_int : mg "int" = none) (m_len : mg "len" = none) (m_list : mg "list" = none) : FnOk P w K mg base CX0 2 f fd ["deal", "some"] (spMixed K) := by
  have GA : FnOk P w K mg base CX0 1 fA fdA ["deal", "bound"] spAny := ok_any DA m_int
  refine D.F.ok sc__law_mixed (fun vs H Q E h => ?_) (fun cdv A outer s H vs Q E hr h => ?_)
  · obtain ⟨d, l, a, xs, rfl, _⟩ := h
    rfl
  obtain ⟨d, l, a, xs, rfl, hD, hxs, hlen, q⟩ := h
  have hu := hr.units
  have nd := sc__law_mixed.nd
  have big : (1000 : Nat) < sizeLine := by decide
  refine ⟨_, (pss_cons (ps_par (i := 2) (j := 3) (by rfl) nd rfl rfl (by decide) rfl rfl (pa_cons (pe_callTy call_list_of (by rfl) m_list boot_list (pa_cons (pv 1) pa_nil)) (pa_cons (pe_lst pa_nil) pa_nil)) (by rfl))
  (pss_cons (ps_while PassesOwn.never (pt_cmpR (op_neD hu) (pv 2) (pe_lst pa_nil) (nomark _))
    (pss_one (ps_expr (pe_bm PySem.F.plainAttrs_list PySem.F.slot_list_append PySem.F.type_list_append mt_append (pv 3) (pa_cons (pe_bm PySem.F.plainAttrs_list PySem.F.slot_list_pop PySem.F.type_list_pop mt_popAt (pv 2) (pa_cons (pe_call GA hr (by rfl) DA.g DA.F.kp DA.b .nil pass0 (pa_cons (pv 0) (pa_cons (pe_callB call_len_seq (by rfl) m_len PySem.boot_len (pa_cons (pv 2) pa_nil)) pa_nil))) pa_nil)) pa_nil)))))
  (pss_one (ps_ret (pv 3))))), ?_⟩
  refine ⟨.ref a, rfl, a, _, rfl, .inl hxs, fun L nL => ⟨Nat.zero_le _, fun p np => ⟨_, _, rfl, ?_⟩⟩⟩
  have hLp : L ≠ p := ne_of_none (upd_same (H := H) (a := L)) np
  have np0 : H p = none := (same_new nL).free np
  have nLd := hD.ne nL
  have npd := hD.ne np0
  refine while_by (fun σ H' => ∃ left found : List Nat, σ = [some (.ref d), some (.ref a), some (.ref L), some (.ref p)] ∧ Deal H' d l ∧ But d l H H' ∧ H' L = some (.lst (left.map natV)) ∧ H' p = some (.lst (found.map natV)) ∧ (left ++ found).Perm xs)
    (fun _ H' => match H' L with | some (.lst zs) => zs.length | _ => 0)
    ⟨xs, [], rfl, Deal.same hD ((same_new nL).trans (same_new np)), .of ((same_new nL).trans (same_new np)), by rw [upd_ne hLp]; exact upd_same, upd_same, by rw [List.append_nil]⟩ ?_ ?_
  · rintro σ H1 ⟨left, found, rfl, hD1, hB1, hL1, hp1, hperm⟩
    have nn : ∀ {b : Addr} {o : HO}, H b = none → H1 b = some o → b ≠ d ∧ b ≠ l := fun {b o} e _ => hD.ne e
    refine ⟨.ref L, rfl, Nat.zero_le _, fun m nm => ?_⟩
    have s1 : Same H1 (upd H1 m (.lst [])) := same_new nm
    refine ne_nil_nats (.inl (.inl (s1 _ _ hL1))) (.inl (.inl upd_same)) ⟨_, rfl, ?_⟩
    have hB2 : But d l H (upd H1 m (.lst [])) := hB1.trans (.of s1)
    have hD2 := Deal.same hD1 s1
    have hL2 := s1 _ _ hL1
    have hp2 := s1 _ _ hp1
    generalize (upd H1 m (.lst [])) = H2 at hB2 hD2 hL2 hp2 ⊢
    cases left with
    | nil =>
      refine iteF ?_
      exact ⟨.ref p, rfl, q found p H2 (by simpa using hperm) np0 hp2 hD2 hB2⟩
    | cons z r =>
      refine iteT ?_
      have ll : (z :: r).length + found.length = xs.length := by rw [← List.length_append]; exact hperm.length_eq
      refine ⟨.ref p, rfl, .inl ⟨rfl, _, .inl (.inl hp2)⟩, .ref L, rfl, .inl ⟨rfl, _, .inl (.inl hL2)⟩, .ref d, rfl, .ref L, rfl, L, _, rfl, .inl (.inl (.inl hL2)), ?_⟩
      rw [List.length_map]
      refine ⟨d, l, ((z :: r).length : Nat), rfl, hD2, by rw [List.length_cons]; omega, by omega, fun k H3 k0 k1 hD3 hB3 => ?_⟩
      obtain ⟨k, rfl⟩ : ∃ j : Nat, k = (j : Int) := ⟨k.toNat, by omega⟩
      have hk : k < (z :: r).length := by omega
      have hL3 := hB3 _ _ nLd.1 nLd.2 hL2
      have hp3 := hB3 _ _ npd.1 npd.2 hp2
      have ek : (z :: r)[k]? = some (z :: r)[k] := List.getElem?_eq_getElem hk
      refine ⟨L, _, (k : Int), k, natV (z :: r)[k], rfl, rfl, hL3, by omega, by omega, seqIx (by rw [List.length_map]; exact hk), by rw [List.getElem?_map, ek]; rfl, ?_⟩
      rw [eraseIdx_map]
      refine ⟨p, _, _, rfl, rfl, by rw [upd_ne (Ne.symm hLp)]; exact hp3, by rw [List.length_map]; omega, ?_⟩
      have eL : (upd (upd H3 L (.lst (((z :: r).eraseIdx k).map natV))) p (.lst (found.map natV ++ [natV (z :: r)[k]]))) L = some (.lst (((z :: r).eraseIdx k).map natV)) := by rw [upd_ne hLp]; exact upd_same
      refine ⟨⟨(z :: r).eraseIdx k, found ++ [(z :: r)[k]], rfl, (hD3.upd nLd.1 nLd.2).upd npd.1 npd.2, ?_, eL, ?_, ?_⟩, ?_⟩
      · intro b o n1 n2 e
        rw [upd_ne (ne_of_none e np0), upd_ne (ne_of_none e nL)]
        exact (hB2.trans hB3) b o n1 n2 e
      · rw [upd_same, List.map_append]
        rfl
      · have p1 := perm_take ek
        have p2 : ((z :: r).eraseIdx k ++ (found ++ [(z :: r)[k]])).Perm (z :: r ++ found) := by
          rw [← List.append_assoc]
          refine (List.perm_append_comm).trans ?_
          exact (List.Perm.append_right found p1).symm
        exact p2.trans hperm
      · show (match (upd (upd H3 L (.lst (((z :: r).eraseIdx k).map natV))) p (.lst (found.map natV ++ [natV (z :: r)[k]]))) L with | some (.lst zs) => zs.length | _ => 0) < (match H1 L with | some (.lst zs) => zs.length | _ => 0)
        rw [eL, hL1]
        show (((z :: r).eraseIdx k).map natV).length < ((z :: r).map natV).length
        rw [List.length_map, List.length_map, List.length_eraseIdx_of_lt hk]
        rw [List.length_cons]
        omega
  · intro σ H1 Q1 Q2 hq h
    obtain ⟨v, e1, e2, h2⟩ := h
    refine ⟨v, e1, e2, fun m nm => ?_⟩
    obtain ⟨d1, d2, g1, g2, g3, g4, c, e7, h3⟩ := h2 m nm
    exact ⟨d1, d2, g1, g2, g3, g4, c, e7, hq _ _ h3⟩
/-- everything new stands from now on -/
def fresh (T H H3 : Hp) : Hp := fun b => match H b with
  | none => H3 b
  | some _ => T b
theorem ext_all {T H H3 : Hp} (sT : Same T H) (s : Same H H3) : Ext T H (fresh T H H3) H3 where
  hh := s
  tt := fun b o e => by
    show (match H b with | none => H3 b | some _ => T b) = some o
    rw [sT _ _ e]
    exact e
  th := fun b o e => by
    have e' : (match H b with | none => H3 b | some _ => T b) = some o := e
    cases q : H b with
    | none => rw [q] at e'; exact e'
    | some u => rw [q] at e'; exact s _ _ (sT _ _ e')
  nw := fun b h => by
    cases q : H b with
    | none => exact .inr rfl
    | some u =>
      refine .inl fun z => h ?_
      show (match H b with | none => H3 b | some _ => T b) = none
      rw [q]
      exact z
theorem fresh_at {T H H3 : Hp} {b : Addr} (n : H b = none) : fresh T H H3 b = H3 b := by
  show (match H b with | none => H3 b | some _ => T b) = _
  rw [n]
/-- the lists of the lots so far; H0: the heap at the beginning -/
def IsB (H0 H : Hp) (D : Addr) (B : List (List Nat)) : Prop := ∃ as : List Addr, H D = some (.lst (as.map V.ref)) ∧ as.length = B.length ∧
  ∀ (i : Nat) (b : List Nat), B[i]? = some b → ∃ ad, as[i]? = some ad ∧ ad ≠ D ∧ H0 ad = none ∧ H ad = some (.lst (b.map natV))
theorem IsB.same {H0 H H' : Hp} {D : Addr} {B : List (List Nat)} (h : IsB H0 H D B) (s : Same H H') : IsB H0 H' D B := by
  obtain ⟨as, e1, e2, e3⟩ := h
  refine ⟨as, s _ _ e1, e2, fun i b hb => ?_⟩
  obtain ⟨ad, a1, a2, a3, a4⟩ := e3 i b hb
  exact ⟨ad, a1, a2, a3, s _ _ a4⟩
theorem IsB.set {H0 H : Hp} {D q : Addr} {B : List (List Nat)} {as : List Addr} {h : Nat} {b' : List Nat} (h1 : H D = some (.lst (as.map V.ref))) (h2 : as.length = B.length)
    (h3 : ∀ (i : Nat) (b : List Nat), B[i]? = some b → ∃ ad, as[i]? = some ad ∧ ad ≠ D ∧ H0 ad = none ∧ H ad = some (.lst (b.map natV))) (hq : H q = some (.lst (b'.map natV))) (nq : q ≠ D) (fq : H0 q = none) :
    IsB H0 (upd H D (.lst ((as.set h q).map V.ref))) D (B.set h b') := by
  refine ⟨as.set h q, upd_same, by rw [List.length_set, List.length_set, h2], fun i b hb => ?_⟩
  by_cases e : h = i
  · subst e
    have hl : h < B.length := by
      have := (List.getElem?_eq_some_iff.mp hb).1
      rwa [List.length_set] at this
    rw [List.getElem?_set_self hl] at hb
    cases hb
    exact ⟨q, List.getElem?_set_self (by rw [h2]; exact hl), nq, fq, by rw [upd_ne nq]; exact hq⟩
  · rw [List.getElem?_set_ne e] at hb
    obtain ⟨ad, a1, a2, a3, a4⟩ := h3 i b hb
    exact ⟨ad, by rw [List.getElem?_set_ne e]; exact a1, a2, a3, by rw [upd_ne a2]; exact a4⟩
theorem nat_perm {ns' : List Int} {l : List Nat} (h : ns'.Perm (l.map Int.ofNat)) (s : ns'.Pairwise (· ≤ ·)) : ∃ b' : List Nat, ns' = b'.map Int.ofNat ∧ b'.Perm l ∧ b'.Pairwise (· ≤ ·) := by
  have all : ∀ x ∈ ns', ∃ n : Nat, x = Int.ofNat n := fun x hx => by
    obtain ⟨n, _, e⟩ := List.mem_map.mp (h.mem_iff.mp hx)
    exact ⟨n, e.symm⟩
  have e1 : ns' = (ns'.map Int.toNat).map Int.ofNat := by
    rw [List.map_map]
    have e0 : ns'.map (Int.ofNat ∘ Int.toNat) = ns'.map id := List.map_congr_left fun x hx => by
      obtain ⟨n, rfl⟩ := all x hx
      rfl
    rw [e0, List.map_id]
  refine ⟨ns'.map Int.toNat, e1, ?_, ?_⟩
  · have := h.map Int.toNat
    rw [List.map_map] at this
    have e2 : l.map (Int.toNat ∘ Int.ofNat) = l := by
      refine (List.map_congr_left fun x _ => ?_).trans (List.map_id l)
      rfl
    rw [e2] at this
    exact this
  · rw [List.pairwise_map]
    refine s.imp_of_mem fun {a b} ha hb hab => ?_
    obtain ⟨n, rfl⟩ := all a ha
    obtain ⟨m, rfl⟩ := all b hb
    have : (n : Int) ≤ (m : Int) := hab
    show n ≤ m
    omega
def natsL (l : List Nat) : PyData := .list (l.map natD)
theorem ok_closed {f : Addr} {fd : FuncData} (D : At K mg "_law_closed" s__law_closed ["many", "pairs"] f fd) (m_range : mg "range" = none) (m_sorted : mg "sorted" = none) (m_tuple : mg "tuple" = none) :
    FnOk P w K mg base CX0 1 f fd ["many", "pairs"] spClosed := by
  refine D.F.ok sc__law_closed (fun vs H Q E h => ?_) (fun cdv A outer s H vs Q E hr h => ?_)
  · obtain ⟨T, n, a, xs, ps, rfl, _⟩ := h
    rfl
  obtain ⟨T, n, a, xs, ps, rfl, sT, ea, hxs, hn, hps, hlt, q⟩ := h
  have nd := sc__law_closed.nd
  have big : (100000 : Nat) < sizeLine := by decide
  have lxs : xs.length = ps.length := by rw [hxs.len, List.length_map]
  refine ⟨_, (pss_cons (ps_set (i := 2) nd rfl (.inr rfl) (pe_lc (own := [("level", 6)]) (g := gName 6) (tt := tYes) (by rfl) nd (pi_range1 (by rfl) m_range (pa_cons (pv 0) pa_nil)) (blkOk_by (own := [("level", 6)]) (N := ["many", "pairs", "below", "turn", "low", "high", "level", "one", "lot"]) (sc := defScope s__law_closed) (by decide +kernel)) (fun _ _ _ _ _ => (pg_name (i := 6) nd rfl (Or.inl rfl))) (fun _ _ _ _ _ => pts_nil) (fun _ _ _ _ _ => (pe_lst (pa_cons (pv 6) pa_nil)))))
  (pss_cons (ps_for PassesOwn.never rfl (pi_range1 (by rfl) m_range (pa_cons (pv 0) pa_nil)) (pg_name (i := 3) nd rfl (Or.inl rfl))
    (pss_one (ps_for PassesOwn.never rfl (pi_list (pv 1)) (pg_tup (by rfl) (pgs_cons (pg_name (i := 4) nd rfl (Or.inl rfl)) (pgs_cons (pg_name (i := 5) nd rfl (Or.inr rfl)) pgs_nil)))
        (pss_one (ps_asg (pe_callB cr_sortedI (by rfl) m_sorted (by decide +kernel) (pa_cons (pe_op op_cat (pe_ix ix_list (pv 2) (pv 5) (fun _ _ => rfl)) (pe_lc (own := [("one", 7)]) (g := gName 7)  (by rfl) nd (pi_list (pe_ix ix_list (pv 2) (pv 4) (fun _ _ => rfl))) (blkOk_by (own := [("one", 7)]) (N := ["many", "pairs", "below", "turn", "low", "high", "level", "one", "lot"]) (sc := defScope s__law_closed) (by decide +kernel)) (fun _ _ _ _ _ => (pg_name (i := 7) nd rfl (Or.inl rfl))) (fun _ _ _ _ _ => pts_one (pt_cmpR (op_notIn_seqK K (by rfl)) (pv 7) (pe_ix (ix_listK K (by rfl)) (pv 2) (pv 5) (fun _ _ => rfl)) (by rfl))) (fun _ _ _ _ _ => (pv 7)))) pa_nil)) (pg_sub (pv 2) (pv 5) set_list))))))
  (pss_one (ps_ret (pe_callTy call_tuple_of (by rfl) m_tuple boot_tuple (pa_cons (pe_lc (own := [("lot", 8)]) (g := gName 8) (tt := tYes) (by rfl) nd (pi_list (pv 2)) (blkOk_by (own := [("lot", 8)]) (N := ["many", "pairs", "below", "turn", "low", "high", "level", "one", "lot"]) (sc := defScope s__law_closed) (by decide +kernel)) (fun _ _ _ _ _ => (pg_name (i := 8) nd rfl (Or.inl rfl))) (fun _ _ _ _ _ => pts_nil) (fun _ _ _ _ _ => (pe_callTy (call_tuple_ofK K (by rfl)) (by rfl) m_tuple boot_tuple (pa_cons (pv 8) pa_nil)))) pa_nil)))))), ?_⟩
  refine ⟨.int (n : Int), rfl, (n : Int), rfl, by omega, by omega, fun Dl nD => ?_⟩
  refine lc_range (lo := 0) (n := n) (fun i H' => Same H H' ∧ IsB H H' Dl ((List.range i).map fun k => [k])) ⟨same_new nD, [], upd_same, rfl, fun i b hb => by simp at hb⟩ ?_ ?_
  · rintro i H1 hi ⟨s1, as, e1, e2, e3⟩
    rw [List.length_map, List.length_range] at e2
    refine ⟨rfl, _, rfl, by show 1 ≤ sizeLine; omega, fun p np => ?_⟩
    have npD : p ≠ Dl := fun z => by rw [z, e1] at np; cases np
    refine ⟨_, by rw [upd_ne (Ne.symm npD)]; exact e1, by rw [List.length_map]; omega, fun b o e => ?_, as ++ [p], by rw [upd_same, List.map_append]; rfl, by rw [List.length_append, List.length_map, List.length_range, e2]; rfl, fun j b hb => ?_⟩
    · rw [upd_ne (ne_of_none e nD)]
      exact same_new np _ _ (s1 _ _ e)
    · rw [List.range_succ, List.map_append] at hb
      by_cases hj : j < i
      · rw [List.getElem?_append_left (by rw [List.length_map, List.length_range]; exact hj)] at hb
        obtain ⟨ad, a1, a2, a3, a4⟩ := e3 j b hb
        exact ⟨ad, by rw [List.getElem?_append_left (by rw [e2]; exact hj)]; exact a1, a2, a3, by rw [upd_ne a2]; exact same_new np _ _ a4⟩
      · rw [List.getElem?_append_right (by rw [List.length_map, List.length_range]; omega), List.length_map, List.length_range] at hb
        have ej : j = i := by
          have := (List.getElem?_eq_some_iff.mp hb).1
          simp at this
          omega
        subst ej
        rw [Nat.sub_self] at hb
        cases hb
        refine ⟨p, by rw [List.getElem?_append_right (by rw [e2]; exact Nat.le_refl _), e2, Nat.sub_self]; rfl, npD, s1.free np, ?_⟩
        rw [upd_ne npD, upd_same]
        show some (HO.lst [V.int (0 + (j : Int))]) = some (HO.lst [natV j])
        rw [Int.zero_add]
        rfl
  rintro H1 ⟨s1, hB1⟩
  have C0 : Closing n ps ((List.range n).map fun k => [k]) := by
    refine ⟨by rw [List.length_map, List.length_range], fun i b hb => ?_⟩
    rw [List.getElem?_map] at hb
    by_cases hi : i < n
    · rw [List.getElem?_range hi] at hb
      cases hb
      exact ⟨List.pairwise_singleton _ _, fun x hx => by rw [List.mem_singleton.mp hx]; exact hi, List.mem_singleton.mpr rfl, fun x hx => by rw [List.mem_singleton.mp hx]; exact .refl _⟩
    · rw [List.getElem?_eq_none (by rw [List.length_range]; omega)] at hb
      cases hb
  refine ⟨.int (n : Int), rfl, (n : Int), rfl, by omega, by omega, for_range (lo := 0) (n := n) (fun t σ H' => ∃ (y3 y4 y5 : Option V) (B : List (List Nat)), σ = [some (.int n), some (.ref a), some (.ref Dl), y3, y4, y5, none, none, none] ∧ Same H H' ∧ IsB H H' Dl B ∧ Closing n ps B ∧ Full n ps t B)
    ⟨none, none, none, _, rfl, s1, hB1, C0, Full.zero C0⟩ ?_ ?_⟩
  · rintro t σ H2 ht ⟨y3, y4, y5, B, rfl, s2, hB2, C2, F2⟩
    refine ⟨.ref a, rfl, a, rfl, ⟨_, .inl (.inl (s2 _ _ (sT _ _ ea)))⟩, for_list (K := K) (a := a) (xs := xs) (fun j σ H' => ∃ (y4 y5 : Option V) (B : List (List Nat)), σ = [some (.int n), some (.ref a), some (.ref Dl), some (.int (0 + t)), y4, y5, none, none, none] ∧ Same H H' ∧ IsB H H' Dl B ∧ Closing n ps B ∧ Full n ps t B ∧ Rnd ps t j B)
      ⟨y4, y5, B, rfl, s2, hB2, C2, F2, fun p hp => absurd hp (by rw [List.take_zero]; exact List.not_mem_nil)⟩ (fun j σ H' _ ⟨_, _, _, _, s', _⟩ => .inl (.inl (s' _ _ (sT _ _ ea)))) ?_ ?_⟩
    · rintro j x σ H3 hx ⟨y4, y5, B, rfl, s3, ⟨as, b1, b2, b3⟩, C3, F3, R3⟩
      obtain ⟨d, hd, hdx⟩ := hxs.get hx
      obtain ⟨⟨lo, hi⟩, hpr, rfl⟩ : ∃ pr, ps[j]? = some pr ∧ d = pairN pr := by
        rw [List.getElem?_map] at hd
        cases e : ps[j]? with
        | none => rw [e] at hd; cases hd
        | some pr => rw [e] at hd; exact ⟨pr, rfl, (Option.some.inj hd).symm⟩
      obtain ⟨t2, _, rfl, et, w1, _, rfl, h1, w2, _, rfl, h2, rfl⟩ := hdx
      obtain rfl : w1 = natV lo := h1
      obtain rfl : w2 = natV hi := h2
      have hm := List.mem_of_getElem? hpr
      obtain ⟨hlo, hhi⟩ := hlt _ hm
      have lB : B.length = n := C3.len
      have elo : B[lo]? = some B[lo] := List.getElem?_eq_getElem (by rw [lB]; exact hlo)
      have ehi : B[hi]? = some B[hi] := List.getElem?_eq_getElem (by rw [lB]; exact hhi)
      obtain ⟨al, l1, l2, l3, l4⟩ := b3 lo _ elo
      obtain ⟨ah, g1, g2, g3, g4⟩ := b3 hi _ ehi
      have atR : ∀ {k : Nat} {ad : Addr}, as[k]? = some ad → atI (as.map V.ref) (k : Int) = some (.ref ad) := fun {k ad} e => atI_nat (by rw [List.getElem?_map, e]; rfl)
      refine ⟨t2, _, rfl, .inl (.inl (s3 _ _ (sT _ _ et))), rfl, _, _, rfl, _, _, rfl, ⟨rfl, ?_⟩⟩
      refine ⟨.ref Dl, rfl, natV hi, rfl, Dl, _, hi, .ref ah, rfl, rfl, .inl (.inl b1), atR g1, .ref Dl, rfl, natV lo, rfl, Dl, _, lo, .ref al, rfl, rfl, .inl (.inl b1), atR l1, al, rfl, ⟨_, .inl (.inl l4)⟩, fun E1 nE => ?_⟩
      have bl : ∀ (i : Nat) (b : List Nat), B[i]? = some b → b.length ≤ 100 := fun i b hb => by
        have hc := C3.lot i b hb
        have := (nodup_of_lt hc.1).length_le_of_subset (l₂ := List.range n) fun x hx => List.mem_range.mpr (hc.2.1 x hx)
        rw [List.length_range] at this
        omega
      refine lc_enc (enc := natD) (p := fun x => !decide (x ∈ B[hi])) (f := natD) (ds := B[lo]) (T := H3) (Same.refl H3) nE (by have := bl _ _ elo; omega) (gives_list (Same.refl H3) l4 (nats_da _)) (fun i v x T2 H4 R R0 hi2 x2 hx2 r1 r0 => ?_) (fun T' H' ys x' hys hda => ?_)
      · obtain rfl : x = natV v := hx2
        refine ⟨rfl, natV v, rfl, .ref Dl, rfl, natV hi, rfl, Dl, _, hi, .ref ah, rfl, rfl, .inl (.inl (x2.hh _ _ b1)), atR g1, ah, _, rfl, .inl (.inl (.inl (x2.hh _ _ g4))), rfl, flat_nats _, _, rfl, ?_⟩
        show if (!inV (natV v) (B[hi].map natV)) = true then _ else _
        rw [inV_nats]
        exact ite2 (fun e => ⟨_, rfl, r1 T2 H4 _ (.refl x2.th) rfl e⟩) (fun e => r0 T2 H4 (.refl x2.th) (Bool.eq_false_iff.mpr e))
      · have eys := nats_of hda
        subst eys
        have hE := x'.th _ _ hys
        have sz1 := bl _ _ ehi
        have sz2 : (B[lo].filter fun x => !decide (x ∈ B[hi])).length ≤ 100 := Nat.le_trans (List.length_filter_le _ _) (bl _ _ elo)
        refine ⟨ah, E1, _, _, rfl, rfl, x'.hh _ _ g4, hE, by rw [List.length_map, List.length_map]; omega, fun c nc => ?_⟩
        rw [← List.map_append, natV_int]
        refine ⟨c, _, rfl, .inl (.inl upd_same), fun ns' q1 hperm hsrt nq => ?_⟩
        obtain ⟨b', rfl, p1, p2⟩ := nat_perm hperm hsrt
        obtain ⟨C4, g4', all4⟩ := C3.step elo ehi hm p1 p2
        have s4 : Same H3 (upd (upd H' c (.lst ((((B[hi] ++ B[lo].filter fun x => !decide (x ∈ B[hi]))).map Int.ofNat).map V.int))) q1 (.lst ((b'.map Int.ofNat).map V.int))) := (x'.hh.trans (same_new nc)).trans (same_new nq)
        have hq1 : (upd (upd H' c (.lst ((((B[hi] ++ B[lo].filter fun x => !decide (x ∈ B[hi]))).map Int.ofNat).map V.int))) q1 (.lst ((b'.map Int.ofNat).map V.int))) q1 = some (.lst (b'.map natV)) := by rw [upd_same, natV_int]
        have nq3 : H3 q1 = none := (x'.hh.trans (same_new nc)).free nq
        generalize (upd (upd H' c (.lst ((((B[hi] ++ B[lo].filter fun x => !decide (x ∈ B[hi]))).map Int.ofNat).map V.int))) q1 (.lst ((b'.map Int.ofNat).map V.int))) = H5 at s4 hq1 ⊢
        have nqD : q1 ≠ Dl := fun z => by rw [z, b1] at nq3; cases nq3
        have hix : ixN (as.map V.ref).length (hi : Int) = some hi := by
          unfold ixN
          rw [if_pos (by omega), if_pos (by rw [List.length_map, b2, lB]; omega), Int.toNat_natCast]
        refine ⟨.ref Dl, rfl, natV hi, rfl, Dl, _, hi, hi, rfl, rfl, s4 _ _ b1, hix, ?_⟩
        have em : (as.map V.ref).set hi (.ref q1) = (as.set hi q1).map V.ref := by rw [List.map_set]
        rw [em]
        refine ⟨_, _, B.set hi b', rfl, fun b o e => ?_, IsB.set (s4 _ _ b1) b2 (fun i b hb => ?_) hq1 nqD (s3.free nq3), C4, F3.grow g4' (List.length_set ..), ?_⟩
        · rw [upd_ne (ne_of_none e nD)]
          exact s4 _ _ (s3 _ _ e)
        · obtain ⟨ad, a1, a2, a3, a4⟩ := b3 i b hb
          exact ⟨ad, a1, a2, a3, s4 _ _ a4⟩
        · exact R3.next F3 g4' (List.length_set ..) hpr hlo elo (List.getElem?_set_self (by rw [lB]; exact hhi)) all4
    · rintro σ H3 ⟨y4, y5, B, rfl, s3, hB3, C3, F3, R3⟩
      rw [lxs] at R3
      exact ⟨_, _, _, B, rfl, s3, hB3, C3, Full.next C3 R3⟩
  · rintro σ H2 ⟨y3, y4, y5, B, rfl, s2, ⟨as, b1, b2, b3⟩, C2, F2⟩
    have xA := ext_all sT s2
    have lB : B.length = n := C2.len
    have fD : fresh T H H2 Dl = some (.lst (as.map V.ref)) := by rw [fresh_at nD]; exact b1
    have hda : DaA (fresh T H H2) (B.map natsL) (as.map V.ref) := by
      have key : ∀ (B' : List (List Nat)) (as' : List Addr), as'.length = B'.length → (∀ (i : Nat) (b : List Nat), B'[i]? = some b → ∃ ad, as'[i]? = some ad ∧ H ad = none ∧ H2 ad = some (.lst (b.map natV))) → DaA (fresh T H H2) (B'.map natsL) (as'.map V.ref) := by
        intro B'
        induction B' with
        | nil =>
          intro as' hl _
          rw [List.length_eq_zero_iff.mp hl]
          rfl
        | cons b r ih =>
          intro as' hl hs
          cases as' with
          | nil => cases hl
          | cons ad r' =>
            obtain ⟨ad2, e1, e2, e3⟩ := hs 0 b rfl
            cases e1
            exact ⟨.ref ad, r'.map V.ref, rfl, ⟨ad, _, rfl, by rw [fresh_at e2]; exact e3, nats_da b⟩, ih r' (Nat.succ.inj hl) fun i c hc => hs (i + 1) c hc⟩
      exact key B as b2 fun i b hb => by
        obtain ⟨ad, a1, a2, a3, a4⟩ := b3 i b hb
        exact ⟨ad, a1, a3, a4⟩
    refine ⟨.ref Dl, rfl, Dl, rfl, ⟨_, .inl (.inl b1)⟩, fun E1 nE => ?_⟩
    refine lc_enc (enc := natsL) (p := fun _ => true) (f := natsT) (ds := B) (T := fresh T H H2) xA.th nE (by omega) (gives_list xA.th fD hda) (fun i b x T2 H4 R R0 hi2 x2 hx2 r1 r0 => ?_) (fun T' H' ys x' hys hda2 => ?_)
    · obtain ⟨ad, zs, rfl, ead, hz⟩ := hx2
      have ez := nats_of hz
      subst ez
      refine ⟨rfl, .ref ad, rfl, ad, _, rfl, .inl ⟨.inl (.inl (x2.th _ _ ead)), fun t nt => ?_⟩⟩
      have x4 := Ext.new (o := .tup (b.map natV)) x2.th nt
      exact r1 _ _ _ x4 ⟨t, _, rfl, upd_same, nats_da b⟩ rfl
    · rw [filter_yes] at hda2
      refine ⟨E1, ys, rfl, .inl ⟨.inl (.inl (x'.th _ _ hys)), fun t nt => ?_⟩⟩
      have x4 := Ext.new (o := .tup ys) x'.th nt
      exact q B _ _ _ ⟨C2, F2⟩ (xA.trans (x'.trans x4)) ⟨t, ys, rfl, upd_same, hda2.keep x4.tt⟩
end
end K04
end

section
set_option maxHeartbeats 2000000
set_option pp.maxSteps 400
namespace K04
open PySem PySem.Spec PyProof.Rows L2 Zc
theorem idx_lt : ∀ {row : List Nat} {x : Nat}, x ∈ row → idx row x < row.length
  | a :: r, x, h => by
    unfold idx
    split
    · exact Nat.succ_pos _
    · rename_i ne
      rcases List.mem_cons.mp h with e | e
      · exact absurd e.symm ne
      · exact Nat.succ_lt_succ (idx_lt e)
theorem rgV_nat (n : Nat) : rgV 0 (n : Int) = (List.range n).map natV := by
  unfold rgV
  rw [show ((n : Int) - 0).toNat = n by omega]
  exact List.map_congr_left fun x _ => by
    show V.int (0 + (x : Int)) = V.int (x : Int)
    rw [Int.zero_add]
section
variable {d l p : Addr} {T H T1 H1 : Hp} {o : HO}
/-- a new thing is laid among what stands -/
theorem _root_.Zc.ExD.lay (x : ExD d l T H T1 H1) (n : H p = none) (h : H1 p = some o) : ExD d l T H (upd T1 p o) H1 where
  hh := x.hh
  tt := fun b u e => by
    have e1 := x.tt _ _ e
    by_cases q : b = p
    · subst q
      rw [upd_same]
      have := x.th _ _ e1
      rw [h] at this
      exact this
    · rw [upd_ne q]
      exact e1
  th := fun b u e => by
    by_cases q : b = p
    · subst q
      rw [upd_same] at e
      cases e
      exact h
    · rw [upd_ne q] at e
      exact x.th _ _ e
  nw := fun b hb => by
    by_cases q : b = p
    · exact .inr (q ▸ n)
    · rw [upd_ne q] at hb
      exact x.nw b hb
theorem _root_.Zc.ExD.td (x : ExD d l T H T1 H1) (hD : Deal H d l) (td : T d = none) (tl : T l = none) : T1 d = none ∧ T1 l = none := by
  obtain ⟨_, _, _, e1, e2, _⟩ := hD
  exact ⟨x.out td e1, x.out tl e2⟩
end
def spOrder : Sp := fun vs H Q _ => ∃ (T : Hp) (d l : Addr), vs = [.ref d] ∧ Same T H ∧ T d = none ∧ T l = none ∧ Deal H d l ∧
  ∀ (n : Nat) (O : List (List Nat)) (T' H' : Hp) (v : V), 1 ≤ n → n ≤ 5 → OrdOk n O → OrdTr O → ExD d l T H T' H' → Deal H' d l → Da T' (ordD O) v → Q v H'
def mn (p : Nat × Nat) : Nat := if p.2 < p.1 then p.2 else p.1
def mx (p : Nat × Nat) : Nat := if p.2 > p.1 then p.2 else p.1
def rowP (row : List Nat) (p : Nat × Nat) : Nat × Nat := (row.getD (mn p) 0, row.getD (mx p) 0)
theorem mn_int (a b : Nat) : (if (b : Int) < (a : Int) then (b : Int) else (a : Int)) = (mn (a, b) : Int) := by
  unfold mn
  by_cases h : b < a
  · rw [if_pos (by omega), if_pos h]
  · rw [if_neg (by omega), if_neg h]
theorem mx_int (a b : Nat) : (if (b : Int) > (a : Int) then (b : Int) else (a : Int)) = (mx (a, b) : Int) := by
  unfold mx
  by_cases h : b > a
  · rw [if_pos (by omega), if_pos h]
  · rw [if_neg (by omega), if_neg h]
theorem mn_mx {a b n : Nat} (ha : a < n) (hb : b < n) : mn (a, b) < n ∧ mx (a, b) < n ∧ (mn (a, b) = mx (a, b) ∨ mn (a, b) < mx (a, b)) := by
  unfold mn mx
  show (if b < a then b else a) < n ∧ (if b > a then b else a) < n ∧ ((if b < a then b else a) = (if b > a then b else a) ∨ (if b < a then b else a) < (if b > a then b else a))
  split <;> split <;> omega
section
variable {P : Program} {w : World} {K : PySem.W.Frag} {mg : Str → Option Value} {base : Heap}
theorem ok_order {f fA fX fC : Addr} {fd fdA fdX fdC : FuncData} (D : At K mg "_law_order" s__law_order ["deal"] f fd) (DA : At K mg "_law_any" s__law_any ["deal", "bound"] fA fdA) (DX : At K mg "_law_mixed" s__law_mixed ["deal", "some"] fX fdX) (DC : At K mg "_law_closed" s__law_closed ["many", "pairs"] fC fdC)
    (m_int : mg "int" = none) (m_len : mg "len" = none) (m_list : mg "list" = none) (m_range : mg "range" = none) (m_sorted : mg "sorted" = none) (m_tuple : mg "tuple" = none) (m_min : mg "min" = none) (m_max : mg "max" = none) :
    FnOk P w K mg base CX0 3 f fd ["deal"] spOrder := by
  have GA : FnOk P w K mg base CX0 2 fA fdA ["deal", "bound"] spAny := (ok_any DA m_int).mono (by decide)
  have GX : FnOk P w K mg base CX0 2 fX fdX ["deal", "some"] (spMixed K) := ok_mixed DX DA m_int m_len m_list
  have GC : FnOk P w K mg base CX0 2 fC fdC ["many", "pairs"] spClosed := (ok_closed DC m_range m_sorted m_tuple).mono (by decide)
  refine D.F.ok sc__law_order (fun vs H Q E h => ?_) (fun cdv A outer s H vs Q E hr h => ?_)
  · obtain ⟨T, d, l, rfl, _⟩ := h
    rfl
  obtain ⟨T, d, l, rfl, sT, td, tl, hD, q⟩ := h
  have hu := hr.units
  have nd := sc__law_order.nd
  have big : (100000 : Nat) < sizeLine := by decide
  refine ⟨_, (pss_cons (ps_set (i := 1) nd rfl (.inr rfl) (pe_op op_add pe_int (pe_call GA hr (by rfl) DA.g DA.F.kp DA.b .nil pass0 (pa_cons (pv 0) (pa_cons pe_int pa_nil)))))
  (pss_cons (ps_set (i := 2) nd rfl (.inr rfl) (pe_call GX hr (by rfl) DX.g DX.F.kp DX.b .nil pass0 (pa_cons (pv 0) (pa_cons (pe_listRg rfl (by rfl) m_list (prg_1 (by rfl) m_range (pv 1))) pa_nil))))
  (pss_cons (ps_setLc (i := 3) (own := [("a", 4), ("b", 5)]) (g := gTup K 2 (gCons (gName 4) (gCons (gName 5) gNil))) (tt := tYes) (by rfl) nd rfl rfl (sw_true rfl rfl rfl (by decide +kernel)) (pi_list (pe_lc (own := [("turn", 6)]) (g := gName 6) (tt := tYes) (by rfl) nd (pi_range1 (by rfl) m_range (pa_cons (pe_call GA hr (by rfl) DA.g DA.F.kp DA.b .nil pass0 (pa_cons (pv 0) (pa_cons (pe_op op_mul pe_int (pv 1)) pa_nil))) pa_nil)) (blkOk_by (own := [("turn", 6)]) (N := ["deal", "many", "row", "pairs", "a", "b", "turn"]) (sc := defScope s__law_order) (by decide +kernel)) (fun _ _ _ _ _ => (pg_name (i := 6) nd rfl (Or.inl rfl))) (fun _ _ _ _ _ => pts_nil) (fun _ _ _ _ _ => (pe_tup (pa_cons (pe_call GA hr (by rfl) DA.g DA.F.kp DA.b .nil pass0 (pa_cons (pv 0) (pa_cons (pv 1) pa_nil))) (pa_cons (pe_call GA hr (by rfl) DA.g DA.F.kp DA.b .nil pass0 (pa_cons (pv 0) (pa_cons (pv 1) pa_nil))) pa_nil)))))) (blkOk_by (own := [("a", 4), ("b", 5)]) (N := ["deal", "many", "row", "pairs", "a", "b", "turn"]) (sc := defScope s__law_order) (by decide +kernel)) (fun _ _ _ _ _ => (pg_tup (by rfl) (pgs_cons (pg_name (i := 4) nd rfl (Or.inl rfl)) (pgs_cons (pg_name (i := 5) nd rfl (Or.inl rfl)) pgs_nil)))) (fun _ _ _ _ _ => pts_nil) (fun _ _ _ _ _ => (pe_tup (pa_cons (pe_ix (ix_listK K (by rfl)) (pv 2) (pe_callB (call_min2 (by rfl)) (by rfl) m_min PyProof.Rows.boot_min (pa_cons (pv 4) (pa_cons (pv 5) pa_nil))) (fun _ _ => rfl)) (pa_cons (pe_ix (ix_listK K (by rfl)) (pv 2) (pe_callB (call_max2 (by rfl)) (by rfl) m_max PyProof.Rows.boot_max (pa_cons (pv 4) (pa_cons (pv 5) pa_nil))) (fun _ _ => rfl)) pa_nil)))))
  (pss_one (ps_ret (pe_call GC hr (by rfl) DC.g DC.F.kp DC.b .nil pass0 (pa_cons (pv 1) (pa_cons (pv 3) pa_nil)))))))), ?_⟩
  refine ⟨.ref d, rfl, d, l, 5, rfl, hD, by decide, by decide, fun k H1 k0 k1 hD1 hB1 => ?_⟩
  obtain ⟨k, rfl⟩ : ∃ j : Nat, k = (j : Int) := ⟨k.toNat, by omega⟩
  refine ⟨1, k, rfl, rfl, ?_⟩
  have x1 := ExD.turn sT td tl hB1
  obtain ⟨n, hn⟩ : ∃ n : Nat, n = 1 + k := ⟨_, rfl⟩
  have en : V.int (1 + (k : Int)) = V.int (n : Int) := congrArg V.int (by omega)
  rw [show (fun i j : Int => V.int (i + j)) 1 (k : Int) = V.int (n : Int) from en]
  refine ⟨.ref d, rfl, .int n, rfl, n, rfl, ⟨by omega, by omega, by omega, by omega, by omega⟩, fun a na => ?_⟩
  rw [rgV_nat]
  have x2 := ExD.trans hD x1 hD1 (Ext.more x1.th (same_new (o := .lst ((List.range n).map natV)) na)).toD
  refine ⟨d, l, a, List.range n, rfl, hD1.same (same_new na), .inl (.inl upd_same), by rw [List.length_range]; omega, fun ys p H2 hperm np hp hD2 hB2 => ?_⟩
  have np1 : H1 p = none := (same_new na).free np
  obtain ⟨npd, npl⟩ := hD1.ne np1
  have np0 : H p = none := hB1.free npd npl np1
  have td2 := x2.td hD td tl
  have x3 := (ExD.trans hD x2 (hD1.same (same_new na)) (ExD.turn x2.th td2.1 td2.2 hB2)).lay np0 hp
  have td3 := x3.td hD td tl
  have hp3 : (upd T p (HO.lst (ys.map natV))) p = some (.lst (ys.map natV)) := upd_same
  generalize upd T p (HO.lst (ys.map natV)) = T3 at x3 td3 hp3
  have hD2' := hD2
  have ly : ys.length = n := by rw [hperm.length_eq, List.length_range]
  refine ⟨.ref d, rfl, .int n, rfl, 2, n, rfl, rfl, .inl ⟨by decide, by decide⟩, d, l, 2 * n, rfl, hD2, by omega, by omega, fun c H3 c0 c1 hD3 hB3 => ?_⟩
  obtain ⟨c, rfl⟩ : ∃ j : Nat, c = (j : Int) := ⟨c.toNat, by omega⟩
  have x4 := ExD.trans hD x3 hD2 (ExD.turn x3.th td3.1 td3.2 hB3)
  refine ⟨_, rfl, by omega, by omega, fun L nL => ?_⟩
  refine lc_draw (T := T3) (fun i es => ∃ ps : List (Nat × Nat), es = ps.map pairN ∧ (∀ p ∈ ps, p.1 < n ∧ p.2 < n) ∧ ps.length ≤ i) x4.th td3.1 td3.2 hD3 nL (by rw [List.length_map, List.length_range]; omega) givT_range ⟨[], rfl, fun _ h => absurd h List.not_mem_nil, Nat.le_refl _⟩ (fun i e0 x T4 H4 es R R0 he hi hx x5 td5 tl5 hD4 hPi r1 r0 => ?_) (fun T' H' zs es x5 hD4 hzs hda hPi => ?_)
  · obtain ⟨ps, rfl, hps, hle⟩ := hPi
    refine ⟨rfl, .ref d, rfl, .int n, rfl, d, l, n, rfl, hD4, by omega, by omega, fun a1 H5 a10 a11 hD5 hB5 => ?_⟩
    refine ⟨.ref d, rfl, .int n, rfl, d, l, n, rfl, hD5, by omega, by omega, fun b1 H6 b10 b11 hD6 hB6 => ?_⟩
    obtain ⟨a1, rfl⟩ : ∃ j : Nat, a1 = (j : Int) := ⟨a1.toNat, by omega⟩
    obtain ⟨b1, rfl⟩ : ∃ j : Nat, b1 = (j : Int) := ⟨b1.toNat, by omega⟩
    refine ⟨by show 2 ≤ sizeLine; omega, fun m nm => ?_⟩
    have x6 := ExD.turn x5.th td5 tl5 (hB5.trans hB6)
    have x7 := Ext.new (o := .tup [.int a1, .int b1]) x6.th nm
    refine r1 _ _ _ (pairN (a1, b1)) (ExD.trans hD4 x6 hD6 x7.toD) (hD6.same (same_new nm)) ⟨m, _, rfl, upd_same, .two rfl rfl⟩ ⟨ps ++ [(a1, b1)], by rw [List.map_append]; rfl, fun p hp => ?_, ?_⟩
    · rcases List.mem_append.mp hp with z | z
      · exact hps p z
      · rw [List.mem_singleton.mp z]
        exact ⟨by show a1 < n; omega, by show b1 < n; omega⟩
    · rw [List.length_append, List.length_singleton]
      omega
  · obtain ⟨ps, rfl, hps, hle⟩ := hPi
    rw [List.length_map, List.length_range] at hle
    have hp5 := x5.tt _ _ hp3
    have xA := ExD.trans hD x4 hD3 x5
    refine ⟨L, rfl, ⟨_, .inl (.inl (x5.th _ _ hzs))⟩, fun E1 nE => ?_⟩
    refine lc_enc (enc := pairN) (p := fun _ => true) (f := fun p => pairN (rowP ys p)) (ds := ps) (T := T') x5.th nE (by omega) (gives_list x5.th hzs hda) (fun i pr x T2 H2 R R0 hi x2 hx2 r1 r0 => ?_) (fun T6 H6 us x6 hus hdu => ?_)
    · obtain ⟨u, v⟩ := pr
      obtain ⟨h1, h2⟩ := hps _ (List.mem_of_getElem? hi)
      obtain ⟨m1, m2, _⟩ := mn_mx h1 h2
      obtain ⟨t2, _, rfl, et, w1, _, rfl, e1, w2, _, rfl, e2, rfl⟩ := hx2
      obtain rfl : w1 = natV u := e1
      obtain rfl : w2 = natV v := e2
      have hrow := x2.th _ _ (x2.tt _ _ hp5)
      have atr : ∀ {k : Nat}, k < n → atI (ys.map natV) (k : Int) = some (natV (ys.getD k 0)) := fun {k} hk => atI_nat (by
        rw [List.getElem?_map, List.getD_eq_getElem?_getD, List.getElem?_eq_getElem (by omega)]
        rfl)
      refine ⟨t2, _, rfl, .inl (.inl (x2.th _ _ et)), rfl, _, _, rfl, _, _, rfl, ⟨rfl, rfl, ?_⟩⟩
      refine ⟨.ref p, rfl, natV u, rfl, natV v, rfl, u, v, rfl, p, _, mn (u, v), natV (ys.getD (mn (u, v)) 0), rfl, congrArg V.int (mn_int u v), .inl (.inl hrow), atr m1, ?_⟩
      refine ⟨.ref p, rfl, natV u, rfl, natV v, rfl, u, v, rfl, p, _, mx (u, v), natV (ys.getD (mx (u, v)) 0), rfl, congrArg V.int (mx_int u v), .inl (.inl hrow), atr m2, ?_⟩
      refine ⟨by show 2 ≤ sizeLine; omega, fun m nm => ?_⟩
      have x7 := Ext.new (o := .tup [natV (ys.getD (mn (u, v)) 0), natV (ys.getD (mx (u, v)) 0)]) x2.th nm
      exact r1 _ _ _ x7 ⟨m, _, rfl, upd_same, .two rfl rfl⟩ rfl
    · rw [filter_yes] at hdu
      have nd2 : ys.Nodup := hperm.nodup_iff.mpr List.nodup_range
      have inR : ∀ {k : Nat}, k < n → ys.getD k 0 < n := fun {k} hk => by
        rw [List.getD_eq_getElem?_getD, List.getElem?_eq_getElem (by omega)]
        exact List.mem_range.mp (hperm.mem_iff.mp (List.getElem_mem (by omega)))
      have hall : ∀ p ∈ ps.map (rowP ys), p.1 < n ∧ p.2 < n ∧ (p.1 = p.2 ∨ idx ys p.1 < idx ys p.2) := fun p hp => by
        obtain ⟨⟨u, v⟩, hq, rfl⟩ := List.mem_map.mp hp
        obtain ⟨h1, h2⟩ := hps _ hq
        obtain ⟨m1, m2, m3⟩ := mn_mx h1 h2
        refine ⟨inR m1, inR m2, ?_⟩
        have id : ∀ {k : Nat}, k < n → idx ys (ys.getD k 0) = k := fun {k} hk => idx_at nd2 (by
          rw [List.getD_eq_getElem?_getD, List.getElem?_eq_getElem (by omega)]
          rfl)
        show ys.getD (mn (u, v)) 0 = ys.getD (mx (u, v)) 0 ∨ idx ys (ys.getD (mn (u, v)) 0) < idx ys (ys.getD (mx (u, v)) 0)
        rw [id m1, id m2]
        rcases m3 with z | z
        · rw [z]
          exact .inl rfl
        · exact .inr z
      refine ⟨.int n, rfl, .ref E1, rfl, T6, n, E1, us, ps.map (rowP ys), rfl, x6.th, hus, by rw [List.map_map]; exact hdu, by omega, by rw [List.length_map]; omega, fun p hp => ⟨(hall p hp).1, (hall p hp).2.1⟩, fun O H7 T7 v hO x7 hv => ?_⟩
      have xx := (ExD.trans hD xA hD4 x6.toD)
      have hD6 := hD4.same x6.hh
      have x8 := ExD.trans hD xx hD6 x7.toD
      refine q n O T7 H7 v (by omega) (by omega) hO.C.ok (ord_trans hO.C hO.F (idx ys) (fun p hp => (hall p hp).2.2) fun i hi => ?_) x8 (hD6.same x7.hh) hv
      rw [← ly]
      exact idx_lt (hperm.mem_iff.mpr (List.mem_range.mpr hi))
end
end K04
end

section
set_option maxHeartbeats 2000000
set_option pp.maxSteps 400
namespace K04
open PySem PySem.Spec PyProof.Rows L2 Zc
def deedIn (m k : Nat) : Deed → Prop
  | .out l n => l < m ∧ n < 5
  | .fin t => t < k
/-- the records that the law draws -/
structure RecOk (m k : Nat) (r : List (Nat × Deed)) : Prop where
  len : r.length ≤ 8
  deed : ∀ p ∈ r, deedIn m k p.2
  tick : ∀ p ∈ r, p.1 ≤ 16
  asc : r.Pairwise fun a b => a.1 ≤ b.1
def spLRec : Sp := fun vs H Q _ => ∃ (T : Hp) (d l : Addr) (m k : Nat), vs = [.ref d, .int (m : Int), .int (k : Int)] ∧ Same T H ∧ T d = none ∧ T l = none ∧ Deal H d l ∧ 0 < m ∧ m ≤ 5 ∧ 0 < k ∧ k ≤ 3 ∧
  ∀ (r : List (Nat × Deed)) (T' H' : Hp) (v : V), RecOk m k r → ExD d l T H T' H' → Deal H' d l → Da T' (recD r) v → Q v H'
theorem eq_nil_nats {K : PySem.W.Frag} {H : Hp} {l p : Addr} {xs : List Nat} {Q : VK} (h : SqL K H l (xs.map natV)) (hp : SqL K H p []) (q : Q (.bl xs.isEmpty) H) : rEqD K (.ref l) (.ref p) H Q := by
  rw [natV_int] at h
  refine ⟨.list ((xs.map Int.ofNat).map .int), .list [], .lst h (dp_ints _), .lst hp .nil, shaped_ints _, shaped_nil, ?_⟩
  have e := eqv_nil (xs.map Int.ofNat)
  rw [show PyData.eqv (.list ((xs.map Int.ofNat).map .int)) (.list []) = xs.isEmpty by
    cases xs <;> simp [PyData.eqv, PyData.eqvAll]]
  exact q
theorem recok_snoc {m k tk t : Nat} {r : List (Nat × Deed)} {dd : Deed} (h : RecOk m k r) (hl : r.length = t) (ht : t < 8) (hk : ∀ p ∈ r, p.1 ≤ tk) (b : tk ≤ 16) (hd : deedIn m k dd) : RecOk m k (r ++ [(tk, dd)]) where
  len := by rw [List.length_append, List.length_singleton]; omega
  deed := fun p hp => by
    rcases List.mem_append.mp hp with z | z
    · exact h.deed p z
    · rw [List.mem_singleton.mp z]; exact hd
  tick := fun p hp => by
    rcases List.mem_append.mp hp with z | z
    · exact h.tick p z
    · rw [List.mem_singleton.mp z]; exact b
  asc := List.pairwise_append.mpr ⟨h.asc, List.pairwise_singleton _ _, fun a ha b hb => by rw [List.mem_singleton.mp hb]; exact hk a ha⟩
def rSeenL (ds : List PyData) (out : PyData) : Prop := ∃ (O E : List (List Nat)) (lv : Nat) (ms : List Nat) (r : List (Nat × Deed)), ds = [ordD O, natD lv, ordD E, recD r] ∧ O[lv]? = some ms ∧ wfR E.length r ∧ (∀ l ∈ E, l.length ≤ 1000) ∧ out = recD (seenR ms E r)
theorem none_out (ms : List Nat) : ∀ lt : List Nat, (lt.filter fun x => !decide (x ∈ ms)).isEmpty = lt.all fun l => decide (l ∈ ms)
  | [] => rfl
  | x :: r => by
    rw [List.filter_cons, List.all_cons]
    cases e : decide (x ∈ ms) with
    | true =>
      rw [if_neg (by simp), Bool.true_and]
      exact none_out ms r
    | false => rfl
section
variable {P : Program} {w : World} {K : PySem.W.Frag} {mg : Str → Option Value} {base : Heap}
theorem ok_lrec {f fA : Addr} {fd fdA : FuncData} (D : At K mg "_law_record" s__law_record ["deal", "many", "threads"] f fd) (DA : At K mg "_law_any" s__law_any ["deal", "bound"] fA fdA)
    (m_int : mg "int" = none) (m_range : mg "range" = none) (m_tuple : mg "tuple" = none) : FnOk P w K mg base CX0 2 f fd ["deal", "many", "threads"] spLRec := by
  have GA : FnOk P w K mg base CX0 1 fA fdA ["deal", "bound"] spAny := ok_any DA m_int
  refine D.F.ok sc__law_record (fun vs H Q E h => ?_) (fun cdv A outer s H vs Q E hr h => ?_)
  · obtain ⟨T, d, l, m, k, rfl, _⟩ := h
    rfl
  obtain ⟨T, d, l, m, k, rfl, sT, td, tl, hD, m0, m1, k0, k1, q⟩ := h
  have hu := hr.units
  have nd := sc__law_record.nd
  have big : (100000 : Nat) < sizeLine := by decide
  refine ⟨_, (pss_cons (ps_par (i := 3) (j := 4) (by rfl) nd rfl rfl (by decide) rfl rfl (pa_cons (pe_lst pa_nil) (pa_cons pe_int pa_nil)) (by rfl))
  (pss_cons (ps_for PassesOwn.never rfl (pi_range1 (by rfl) m_range (pa_cons (pe_call GA hr (by rfl) DA.g DA.F.kp DA.b .nil pass0 (pa_cons (pv 0) (pa_cons pe_int pa_nil))) pa_nil)) (pg_name (i := 5) nd rfl (Or.inl rfl))
    (pss_cons (ps_set (i := 4) nd rfl (.inl rfl) (pe_op op_add (pv 4) (pe_call GA hr (by rfl) DA.g DA.F.kp DA.b .nil pass0 (pa_cons (pv 0) (pa_cons pe_int pa_nil)))))
      (pss_cons (ps_set (i := 6) nd rfl (.inl rfl) (pe_ifExp (pt_cmpR op_eq (pe_call GA hr (by rfl) DA.g DA.F.kp DA.b .nil pass0 (pa_cons (pv 0) (pa_cons pe_int pa_nil))) pe_int (nomark _)) (pe_tup (pa_cons pe_str (pa_cons (pe_call GA hr (by rfl) DA.g DA.F.kp DA.b .nil pass0 (pa_cons (pv 0) (pa_cons (pv 2) pa_nil))) pa_nil))) (pe_tup (pa_cons pe_str (pa_cons (pe_call GA hr (by rfl) DA.g DA.F.kp DA.b .nil pass0 (pa_cons (pv 0) (pa_cons (pv 1) pa_nil))) (pa_cons (pe_call GA hr (by rfl) DA.g DA.F.kp DA.b .nil pass0 (pa_cons (pv 0) (pa_cons pe_int pa_nil))) pa_nil))))))
      (pss_one (ps_expr (pe_bm PySem.F.plainAttrs_list PySem.F.slot_list_append PySem.F.type_list_append mt_append (pv 3) (pa_cons (pe_tup (pa_cons (pv 4) (pa_cons (pv 6) pa_nil))) pa_nil)))))))
  (pss_one (ps_ret (pe_callTy call_tuple_of (by rfl) m_tuple boot_tuple (pa_cons (pv 3) pa_nil)))))), ?_⟩
  refine ⟨Nat.zero_le _, fun L nL => ⟨_, _, rfl, ?_⟩⟩
  obtain ⟨nLd, nLl⟩ := hD.ne nL
  have hD0 := hD.same (same_new (o := .lst []) nL)
  refine ⟨.ref d, rfl, d, l, 9, rfl, hD0, by decide, by decide, fun c H1 c0 c1 hD1 hB1 => ?_⟩
  obtain ⟨c, rfl⟩ : ∃ j : Nat, c = (j : Int) := ⟨c.toNat, by omega⟩
  have x1 : ExD d l T H T H1 := ExD.turn sT td tl ((But.of (same_new (o := .lst []) nL)).trans hB1)
  refine ⟨_, rfl, by omega, by omega, for_range (lo := 0) (n := c) (fun t σ H' => ∃ (r : List (Nat × Deed)) (tk : Nat) (T' : Hp) (vs : List V) (y5 y6 : Option V), σ = [some (.ref d), some (.int m), some (.int k), some (.ref L), some (.int (tk : Int)), y5, y6] ∧
      ExD d l T H T' H' ∧ Deal H' d l ∧ T' L = none ∧ H' L = some (.lst vs) ∧ DaA T' (r.map pairD) vs ∧ RecOk m k r ∧ r.length = t ∧ (∀ p ∈ r, p.1 ≤ tk) ∧ tk ≤ 2 * t)
    ⟨[], 0, T, [], none, none, rfl, x1, hD1, sT.free nL, hB1 _ _ nLd nLl upd_same, rfl, ⟨by decide, fun _ h => absurd h List.not_mem_nil, fun _ h => absurd h List.not_mem_nil, .nil⟩, rfl, fun _ h => absurd h List.not_mem_nil, by decide⟩ ?_ ?_⟩
  · rintro t σ H2 ht ⟨r, tk, T2, vs, y5, y6, rfl, x2, hD2, tL2, hL2, hda, hok, hrl, hle, htk⟩
    have td2 := x2.td hD td tl
    refine ⟨.int tk, rfl, .ref d, rfl, d, l, 3, rfl, hD2, by decide, by decide, fun c3 H3 c30 c31 hD3 hB3 => ?_⟩
    obtain ⟨c3, rfl⟩ : ∃ j : Nat, c3 = (j : Int) := ⟨c3.toNat, by omega⟩
    refine ⟨tk, c3, rfl, rfl, ?_⟩
    have en : V.int ((tk : Int) + (c3 : Int)) = V.int ((tk + c3 : Nat) : Int) := congrArg V.int (by omega)
    rw [show (fun i j : Int => V.int (i + j)) (tk : Int) (c3 : Int) = V.int ((tk + c3 : Nat) : Int) from en]
    refine ⟨.ref d, rfl, d, l, 4, rfl, hD3, by decide, by decide, fun c4 H4 c40 c41 hD4 hB4 => ⟨rfl, _, rfl, ite2 (fun e => ?_) (fun e => ?_)⟩⟩
    · refine ⟨.ref d, rfl, .int k, rfl, d, l, k, rfl, hD4, by omega, by omega, fun c5 H5 c50 c51 hD5 hB5 => ?_⟩
      obtain ⟨c5, rfl⟩ : ∃ j : Nat, c5 = (j : Int) := ⟨c5.toNat, by omega⟩
      have hB : But d l H2 H5 := (hB3.trans hB4).trans hB5
      refine ⟨by show 2 ≤ sizeLine; omega, fun a na => ?_⟩
      have x6 := ExD.turn x2.th td2.1 td2.2 hB
      have x7 := Ext.new (o := .tup [.str "end", .int c5]) x6.th na
      have hdd : Da (upd T2 a (.tup [.str "end", .int c5])) (deedD (.fin c5)) (.ref a) := ⟨a, _, rfl, upd_same, .two rfl rfl⟩
      have hdi : deedIn m k (.fin c5) := by show c5 < k; omega
      have hL5 := x7.hh _ _ (hB _ _ nLd nLl hL2)
      have hD6 := hD5.same x7.hh
      have x8 := ExD.trans hD2 x6 hD5 x7.toD
      generalize Deed.fin c5 = dd at hdd hdi
      generalize upd T2 a (.tup [.str "end", .int c5]) = T6 at x7 hdd x8
      generalize upd H5 a (.tup [.str "end", .int c5]) = H6 at x7 hL5 hD6 x8 ⊢
      refine ⟨.ref L, rfl, .inl ⟨rfl, _, .inl (.inl hL5)⟩, .int ((tk + c3 : Nat) : Int), rfl, .ref a, rfl, by show 2 ≤ sizeLine; omega, fun b nb => ?_⟩
      have x9 := Ext.new (o := .tup [.int ((tk + c3 : Nat) : Int), .ref a]) x8.th nb
      have lv : vs.length = t := by rw [hda.len, List.length_map, hrl]
      have hL6 := x9.hh _ _ hL5
      have tL6 := (ExD.trans hD2 x8 hD6 x9.toD).out tL2 hL2
      refine ⟨L, _, _, rfl, rfl, hL6, by omega, r ++ [(tk + c3, dd)], tk + c3, _, _, _, _, rfl, ?_, ?_, tL6, upd_same, ?_, recok_snoc hok hrl (by omega) (fun p hp => Nat.le_trans (hle p hp) (by omega)) (by omega) hdi, by rw [List.length_append, List.length_singleton, hrl], fun p hp => ?_, by omega⟩
      · have xx := ExD.trans hD (ExD.trans hD x2 hD2 x8) hD6 x9.toD
        exact ⟨fun b u n1 n2 e => by rw [upd_ne (ne_of_none e nL)]; exact xx.hh b u n1 n2 e, xx.tt, same_upd xx.th tL6, xx.nw⟩
      · exact (hD6.same x9.hh).upd nLd nLl
      · rw [List.map_append]
        exact (hda.keep (x8.tt.trans x9.tt)).snoc ⟨b, _, rfl, upd_same, .two rfl (hdd.keep x9.tt)⟩
      · rcases List.mem_append.mp hp with z | z
        · exact Nat.le_trans (hle p z) (by omega)
        · rw [List.mem_singleton.mp z]
          exact Nat.le_refl _
    · refine ⟨.ref d, rfl, .int m, rfl, d, l, m, rfl, hD4, by omega, by omega, fun c5 H5 c50 c51 hD5 hB5 => ?_⟩
      obtain ⟨c5, rfl⟩ : ∃ j : Nat, c5 = (j : Int) := ⟨c5.toNat, by omega⟩
      refine ⟨.ref d, rfl, d, l, 5, rfl, hD5, by decide, by decide, fun c6 H5' c60 c61 hD5' hB5' => ?_⟩
      obtain ⟨c6, rfl⟩ : ∃ j : Nat, c6 = (j : Int) := ⟨c6.toNat, by omega⟩
      have hB : But d l H2 H5' := ((hB3.trans hB4).trans hB5).trans hB5'
      refine ⟨by show 3 ≤ sizeLine; omega, fun a na => ?_⟩
      have x6 := ExD.turn x2.th td2.1 td2.2 hB
      have x7 := Ext.new (o := .tup [.str "out", .int c5, .int c6]) x6.th na
      have hdd : Da (upd T2 a (.tup [.str "out", .int c5, .int c6])) (deedD (.out c5 c6)) (.ref a) := ⟨a, _, rfl, upd_same, .three rfl rfl rfl⟩
      have hdi : deedIn m k (.out c5 c6) := by show c5 < m ∧ c6 < 5; omega
      have hL5 := x7.hh _ _ (hB _ _ nLd nLl hL2)
      have hD6 := hD5'.same x7.hh
      have x8 := ExD.trans hD2 x6 hD5' x7.toD
      generalize Deed.out c5 c6 = dd at hdd hdi
      generalize upd T2 a (.tup [.str "out", .int c5, .int c6]) = T6 at x7 hdd x8
      generalize upd H5' a (.tup [.str "out", .int c5, .int c6]) = H6 at x7 hL5 hD6 x8 ⊢
      refine ⟨.ref L, rfl, .inl ⟨rfl, _, .inl (.inl hL5)⟩, .int ((tk + c3 : Nat) : Int), rfl, .ref a, rfl, by show 2 ≤ sizeLine; omega, fun b nb => ?_⟩
      have x9 := Ext.new (o := .tup [.int ((tk + c3 : Nat) : Int), .ref a]) x8.th nb
      have lv : vs.length = t := by rw [hda.len, List.length_map, hrl]
      have hL6 := x9.hh _ _ hL5
      have tL6 := (ExD.trans hD2 x8 hD6 x9.toD).out tL2 hL2
      refine ⟨L, _, _, rfl, rfl, hL6, by omega, r ++ [(tk + c3, dd)], tk + c3, _, _, _, _, rfl, ?_, ?_, tL6, upd_same, ?_, recok_snoc hok hrl (by omega) (fun p hp => Nat.le_trans (hle p hp) (by omega)) (by omega) hdi, by rw [List.length_append, List.length_singleton, hrl], fun p hp => ?_, by omega⟩
      · have xx := ExD.trans hD (ExD.trans hD x2 hD2 x8) hD6 x9.toD
        exact ⟨fun b u n1 n2 e => by rw [upd_ne (ne_of_none e nL)]; exact xx.hh b u n1 n2 e, xx.tt, same_upd xx.th tL6, xx.nw⟩
      · exact (hD6.same x9.hh).upd nLd nLl
      · rw [List.map_append]
        exact (hda.keep (x8.tt.trans x9.tt)).snoc ⟨b, _, rfl, upd_same, .two rfl (hdd.keep x9.tt)⟩
      · rcases List.mem_append.mp hp with z | z
        · exact Nat.le_trans (hle p z) (by omega)
        · rw [List.mem_singleton.mp z]
          exact Nat.le_refl _
  · rintro σ H2 ⟨r, tk, T2, vs, y5, y6, rfl, x2, hD2, tL2, hL2, hda, hok, hrl, hle, htk⟩
    refine ⟨.ref L, rfl, L, vs, rfl, .inl ⟨.inl (.inl hL2), fun t nt => ?_⟩⟩
    have x4 := Ext.new (o := .tup vs) x2.th nt
    exact q r _ _ _ hok (ExD.trans hD x2 hD2 x4.toD) (hD2.same x4.hh) ⟨t, vs, rfl, upd_same, hda.keep x4.tt⟩
/-- the law's own look: the same as the program's -/
theorem ok_lseen {f : Addr} {fd : FuncData} (D : At K mg "_law_seen" s__law_seen ["order", "level", "ends", "record"] f fd) (m_list : mg "list" = none) (m_tuple : mg "tuple" = none) :
    FnOk P w K mg base CX0 1 f fd ["order", "level", "ends", "record"] (spD C0 rSeenL) := by
  refine D.F.ok sc__law_seen (fun vs H Q E h => ?_) (fun cdv A outer s H vs Q E hr h => ?_)
  · obtain ⟨T, _, _, _, hd, ⟨O, En, lv, ms, d, rfl, _⟩, _⟩ := h
    exact hd.len
  obtain ⟨T, _, _, sT, hd, ⟨O, En, lv, ms, r, rfl, hms, hwf, hEl, rfl⟩, _, q⟩ := h
  obtain ⟨v1, _, rfl, ⟨ao, xo, rfl, eo, ho⟩, v2, _, rfl, hv, v3, _, rfl, ⟨ae, xe, rfl, ee, he⟩, v4, _, rfl, ⟨ar, xr, rfl, er, hr4⟩, rfl⟩ := hd
  obtain rfl : v2 = natV lv := hv
  have hu := hr.units
  have nd := sc__law_seen.nd
  have big : (1000 : Nat) < sizeLine := by decide
  obtain ⟨am, _, ha, em, rfl⟩ := ord_at ho hms
  have lr : xr.length = r.length := by rw [hr4.len, List.length_map]
  have hlen := hwf.1
  refine ⟨_, (pss_cons (ps_set (i := 4) nd rfl (.inl rfl) (pe_lst pa_nil))
  (pss_cons (ps_for PassesOwn.never rfl (pi_tup (pv 3)) (pg_tup (by rfl) (pgs_cons (pg_name (i := 5) nd rfl (Or.inl rfl)) (pgs_cons (pg_name (i := 6) nd rfl (Or.inl rfl)) pgs_nil)))
    (pss_cons (ps_set (i := 7) nd rfl (.inl rfl) (pe_ifExp (pt_cmpR op_eq (pe_ix ix_tup (pv 6) pe_int (fun _ _ => rfl)) pe_str (nomark _)) (pe_lst (pa_cons (pe_ix ix_tup (pv 6) pe_int (fun _ _ => rfl)) pa_nil)) (pe_callTy call_list_of (by rfl) m_list boot_list (pa_cons (pe_ix ix_tup (pv 2) (pe_ix ix_tup (pv 6) pe_int (fun _ _ => rfl)) (fun _ _ => rfl)) pa_nil))))
      (pss_one (ps_if (pt_cmpR (op_eqD hu) (pe_lc (own := [("one", 8)]) (g := gName 8)  (by rfl) nd (pi_list (pv 7)) (blkOk_by (own := [("one", 8)]) (N := ["order", "level", "ends", "record", "found", "tick", "deed", "lot", "one"]) (sc := defScope s__law_seen) (by decide +kernel)) (fun _ _ _ _ _ => (pg_name (i := 8) nd rfl (Or.inl rfl))) (fun _ _ _ _ _ => pts_one (pt_cmpR (op_notIn_seqK K (by rfl)) (pv 8) (pe_ix (ix_tupK K (by rfl)) (pv 0) (pv 1) (fun _ _ => rfl)) (by rfl))) (fun _ _ _ _ _ => (pv 8))) (pe_lst pa_nil) (nomark _))
        (pss_one (ps_expr (pe_bm PySem.F.plainAttrs_list PySem.F.slot_list_append PySem.F.type_list_append mt_append (pv 4) (pa_cons (pe_tup (pa_cons (pv 5) (pa_cons (pv 6) pa_nil))) pa_nil))))
        pss_nil))))
  (pss_one (ps_ret (pe_callTy call_tuple_of (by rfl) m_tuple boot_tuple (pa_cons (pv 4) pa_nil)))))), ?_⟩
  refine ⟨Nat.zero_le _, fun L nL => ?_⟩
  refine ⟨.ref ar, rfl, ar, rfl, ⟨_, .inl (.inl (same_new nL _ _ (sT _ _ er)))⟩, for_tup (K := K) (a := ar) (xs := xr) (fun i σ H' => ∃ (T' : Hp) (vs : List V) (y5 y6 y7 : Option V), σ = [some (.ref ao), some (natV lv), some (.ref ae), some (.ref ar), some (.ref L), y5, y6, y7, none] ∧
      Ext T H T' H' ∧ T' L = none ∧ H' L = some (.lst vs) ∧ DaA T' ((seenR ms En (r.take i)).map pairD) vs)
    ⟨T, [], none, none, none, rfl, Ext.more sT (same_new nL), sT.free nL, upd_same, rfl⟩ (fun i σ H' _ ⟨T', _, _, _, _, _, x', _⟩ => .inl (.inl (x'.th _ _ (x'.tt _ _ er)))) ?_ ?_⟩
  · rintro i x σ H1 hi ⟨T1, vs, y5, y6, y7, rfl, x1, tL, hL, hda⟩
    obtain ⟨d, hd, hdx⟩ := hr4.get hi
    obtain ⟨pr, hpr, rfl⟩ : ∃ pr, r[i]? = some pr ∧ d = pairD pr := by
      rw [List.getElem?_map] at hd
      cases e : r[i]? with
      | none => rw [e] at hd; cases hd
      | some pr => rw [e] at hd; exact ⟨pr, rfl, (Option.some.inj hd).symm⟩
    have il : i < r.length := (List.getElem?_eq_some_iff.mp hpr).1
    have lvs : vs.length ≤ i := by
      have h1 := hda.len
      have h2 : ((seenR ms En (r.take i)).map pairD).length ≤ (r.take i).length := by
        rw [List.length_map]
        exact List.length_filter_le _ _
      rw [List.length_take] at h2
      omega
    have hsn : seenR ms En (r.take (i + 1)) = seenR ms En (r.take i) ++ (if seenB ms En pr.2 = true then [pr] else []) := by
      unfold seenR
      rw [List.take_add_one, hpr, List.filter_append]
      congr 1
      cases hp : seenB ms En pr.2 with
      | true => simp [hp]
      | false => simp [hp]
    obtain ⟨t2, _, rfl, et, w1, _, rfl, h1, w2, _, rfl, h2, rfl⟩ := hdx
    have g := fun {b : Addr} {o : HO} (e : T b = some o) => x1.th _ _ (x1.tt _ _ e)
    refine ⟨t2, _, rfl, .inl (.inl (g et)), rfl, _, _, rfl, _, _, rfl, ⟨rfl, ?_⟩⟩
    have wfd := hwf.2 pr (List.mem_of_getElem? hpr)
    obtain ⟨tk, dd⟩ := pr
    cases dd with
    | out o n =>
      obtain ⟨ad, _, rfl, ed, u1, _, rfl, g1, u2, _, rfl, g2, u3, _, rfl, g3, rfl⟩ := id h2
      obtain rfl : u1 = .str "out" := g1
      obtain rfl : u2 = natV o := g2
      refine ⟨.ref ad, rfl, ad, _, 0, .str "out", rfl, rfl, .inl (.inl (g ed)), rfl, rfl, _, rfl, iteTe (decide_eq_true rfl) ?_⟩
      refine ⟨.ref ad, rfl, ad, _, 1, natV o, rfl, rfl, .inl (.inl (g ed)), rfl, by show 1 ≤ sizeLine; omega, fun m nm => ?_⟩
      have eB : seenB ms En (.out o n) = ([o].all fun l => decide (l ∈ ms)) := by
        show decide (o ∈ ms) = (decide (o ∈ ms) && true)
        rw [Bool.and_true]
      have x2 := Ext.new (o := .lst ([o].map natV)) x1.th nm
      have e2 : (upd T1 m (.lst ([o].map natV))) m = some (.lst ([o].map natV)) := upd_same
      have lot : [o].length ≤ 1000 := by show 1 ≤ 1000; decide
      rw [show ([natV o] : List V) = [o].map natV from rfl]
      generalize [o] = lt at eB x2 e2 lot ⊢
      generalize upd T1 m (.lst (lt.map natV)) = T2 at x2 e2 ⊢
      generalize upd H1 m (.lst (lt.map natV)) = H2 at x2 ⊢
      generalize Deed.out o n = dd at eB hsn h2 hpr
      refine ⟨.ref m, rfl, m, rfl, ⟨_, .inl (.inl (x2.th _ _ e2))⟩, fun E1 nE => ?_⟩
      refine lc_enc (enc := natD) (p := fun x => !decide (x ∈ ms)) (f := natD) (ds := lt) (T := T2) x2.th nE (by omega) (gives_list x2.th e2 (nats_da _)) (fun i v x T4 H4 R R0 hi2 x4 hx4 r1 r0 => ?_) (fun T' H' ys x' hys hdy => ?_)
      · obtain rfl : x = natV v := hx4
        have g4 := fun {b : Addr} {o : HO} (e : T b = some o) => x4.hh _ _ (x2.hh _ _ (x1.hh _ _ (sT _ _ e)))
        refine ⟨rfl, natV v, rfl, .ref ao, rfl, natV lv, rfl, ao, xo, lv, .ref am, rfl, rfl, .inl (.inl (g4 eo)), atI_nat ha, am, _, rfl, .inr (.inl (.inl (g4 em))), rfl, flat_nats _, _, rfl, ?_⟩
        show if (!inV (natV v) (ms.map natV)) = true then _ else _
        rw [inV_nats]
        exact ite2 (fun e => ⟨_, rfl, r1 T4 H4 _ (.refl x4.th) rfl e⟩) (fun e => r0 T4 H4 (.refl x4.th) (Bool.eq_false_iff.mpr e))
      · have eys := nats_of hdy
        subst eys
        refine ⟨Nat.zero_le _, fun p np => eq_nil_nats (.inl (.inl (same_new np _ _ (x'.th _ _ hys)))) (.inl (.inl upd_same)) ⟨_, rfl, ?_⟩⟩
        rw [none_out, ← eB]
        have x6 := (x1.trans (x2.trans x')).trans (Ext.more x'.th (same_new (o := .lst []) np))
        have x7 := (x2.trans x').trans (Ext.more x'.th (same_new (o := .lst []) np))
        have hL7 := x7.hh _ _ hL
        have tL7 := x7.out tL hL
        have hda7 := hda.keep x7.tt
        generalize upd H' p (.lst []) = H7 at x6 x7 hL7 ⊢
        refine ite2 (fun e => ?_) (fun e => ?_)
        · refine ⟨.ref L, rfl, .inl ⟨rfl, _, .inl (.inl hL7)⟩, w1, rfl, .ref ad, rfl, by show 2 ≤ sizeLine; omega, fun b nb => ?_⟩
          have x8 := Ext.new (o := .tup [w1, .ref ad]) x6.th nb
          have hL8 := x8.hh _ _ hL7
          have tL8 := x8.out tL7 hL7
          have xx := x6.trans x8
          refine ⟨L, _, _, rfl, rfl, hL8, by omega, _, _, _, _, _, rfl, ⟨fun b u e => by rw [upd_ne (ne_of_none e nL)]; exact xx.hh b u e, xx.tt, same_upd xx.th tL8, xx.nw⟩, tL8, upd_same, ?_⟩
          rw [hsn, if_pos e, List.map_append]
          exact (hda7.keep x8.tt).snoc ⟨b, _, rfl, upd_same, .two h1 (Da.keep (x6.tt.trans x8.tt) _ _ h2)⟩
        · refine ⟨_, _, _, _, _, rfl, x6, tL7, hL7, ?_⟩
          rw [hsn, if_neg e, List.append_nil]
          exact hda7
    | fin t =>
      obtain ⟨ad, _, rfl, ed, u1, _, rfl, g1, u2, _, rfl, g2, rfl⟩ := id h2
      obtain rfl : u1 = .str "end" := g1
      obtain rfl : u2 = natV t := g2
      have ht : t < En.length := wfd
      have ete : En[t]? = some En[t] := List.getElem?_eq_getElem ht
      obtain ⟨b, _, hb, eb, rfl⟩ := ord_at he ete
      refine ⟨.ref ad, rfl, ad, _, 0, .str "end", rfl, rfl, .inl (.inl (g ed)), rfl, rfl, _, rfl, iteFe (by decide +kernel) ?_⟩
      refine ⟨.ref ae, rfl, .ref ad, rfl, ad, _, 1, natV t, rfl, rfl, .inl (.inl (g ed)), rfl, ae, xe, t, .ref b, rfl, rfl, .inl (.inl (g ee)), atI_nat hb, b, _, rfl, .inr (.inl (.inl (g eb))), fun m nm => ?_⟩
      have eB : seenB ms En (.fin t) = (En[t].all fun l => decide (l ∈ ms)) := by
        show ((En.getD t []).all fun l => decide (l ∈ ms)) = _
        rw [List.getD_eq_getElem?_getD, ete]
        rfl
      have x2 := Ext.new (o := .lst (En[t].map natV)) x1.th nm
      have e2 : (upd T1 m (.lst (En[t].map natV))) m = some (.lst (En[t].map natV)) := upd_same
      have lot : En[t].length ≤ 1000 := hEl _ (List.getElem_mem ht)
      generalize En[t] = lt at eB x2 e2 lot ⊢
      generalize upd T1 m (.lst (lt.map natV)) = T2 at x2 e2 ⊢
      generalize upd H1 m (.lst (lt.map natV)) = H2 at x2 ⊢
      generalize Deed.fin t = dd at eB hsn h2 hpr
      refine ⟨.ref m, rfl, m, rfl, ⟨_, .inl (.inl (x2.th _ _ e2))⟩, fun E1 nE => ?_⟩
      refine lc_enc (enc := natD) (p := fun x => !decide (x ∈ ms)) (f := natD) (ds := lt) (T := T2) x2.th nE (by omega) (gives_list x2.th e2 (nats_da _)) (fun i v x T4 H4 R R0 hi2 x4 hx4 r1 r0 => ?_) (fun T' H' ys x' hys hdy => ?_)
      · obtain rfl : x = natV v := hx4
        have g4 := fun {b : Addr} {o : HO} (e : T b = some o) => x4.hh _ _ (x2.hh _ _ (x1.hh _ _ (sT _ _ e)))
        refine ⟨rfl, natV v, rfl, .ref ao, rfl, natV lv, rfl, ao, xo, lv, .ref am, rfl, rfl, .inl (.inl (g4 eo)), atI_nat ha, am, _, rfl, .inr (.inl (.inl (g4 em))), rfl, flat_nats _, _, rfl, ?_⟩
        show if (!inV (natV v) (ms.map natV)) = true then _ else _
        rw [inV_nats]
        exact ite2 (fun e => ⟨_, rfl, r1 T4 H4 _ (.refl x4.th) rfl e⟩) (fun e => r0 T4 H4 (.refl x4.th) (Bool.eq_false_iff.mpr e))
      · have eys := nats_of hdy
        subst eys
        refine ⟨Nat.zero_le _, fun p np => eq_nil_nats (.inl (.inl (same_new np _ _ (x'.th _ _ hys)))) (.inl (.inl upd_same)) ⟨_, rfl, ?_⟩⟩
        rw [none_out, ← eB]
        have x6 := (x1.trans (x2.trans x')).trans (Ext.more x'.th (same_new (o := .lst []) np))
        have x7 := (x2.trans x').trans (Ext.more x'.th (same_new (o := .lst []) np))
        have hL7 := x7.hh _ _ hL
        have tL7 := x7.out tL hL
        have hda7 := hda.keep x7.tt
        generalize upd H' p (.lst []) = H7 at x6 x7 hL7 ⊢
        refine ite2 (fun e => ?_) (fun e => ?_)
        · refine ⟨.ref L, rfl, .inl ⟨rfl, _, .inl (.inl hL7)⟩, w1, rfl, .ref ad, rfl, by show 2 ≤ sizeLine; omega, fun b nb => ?_⟩
          have x8 := Ext.new (o := .tup [w1, .ref ad]) x6.th nb
          have hL8 := x8.hh _ _ hL7
          have tL8 := x8.out tL7 hL7
          have xx := x6.trans x8
          refine ⟨L, _, _, rfl, rfl, hL8, by omega, _, _, _, _, _, rfl, ⟨fun b u e => by rw [upd_ne (ne_of_none e nL)]; exact xx.hh b u e, xx.tt, same_upd xx.th tL8, xx.nw⟩, tL8, upd_same, ?_⟩
          rw [hsn, if_pos e, List.map_append]
          exact (hda7.keep x8.tt).snoc ⟨b, _, rfl, upd_same, .two h1 (Da.keep (x6.tt.trans x8.tt) _ _ h2)⟩
        · refine ⟨_, _, _, _, _, rfl, x6, tL7, hL7, ?_⟩
          rw [hsn, if_neg e, List.append_nil]
          exact hda7
  · rintro σ H1 ⟨T1, vs, y5, y6, y7, rfl, x1, tL, hL, hda⟩
    rw [lr, List.take_length] at hda
    refine ⟨.ref L, rfl, L, vs, rfl, .inl ⟨.inl (.inl hL), fun t nt => ?_⟩⟩
    have x4 := Ext.new (o := .tup vs) x1.th nt
    exact q _ _ _ (x1.trans x4) ⟨t, vs, rfl, upd_same, hda.keep x4.tt⟩
end
end K04
end

section
set_option maxHeartbeats 2000000
set_option pp.maxSteps 400
namespace K04
open PySem PySem.Spec PyProof.Rows L2 Zc
def badD (m : Nat) (d : PyData) : Prop := isRecD (m : Int) d = false ∧ ∀ xs, d = .tuple xs → xs.all pairOk = true
def oddD (m : Nat) (x : PyData) : Prop := (∀ (b : Int) (r : List PyData), recGo (m : Int) b (x :: r) = false) ∧ pairOk x = true
theorem recGo_bad {m : Int} {tl : List PyData} (h : ∀ b, recGo m b tl = false) : ∀ (pre : List PyData) (b : Int), recGo m b (pre ++ tl) = false
  | [], b => h b
  | p :: r, b => by
    show recGo m b (p :: (r ++ tl)) = false
    unfold recGo
    split
    · rename_i e
      cases e
    · rename_i t d r' e
      cases e
      rw [recGo_bad h r t, Bool.and_false, Bool.and_false, Bool.and_false]
    · rfl
def odds (m : Nat) : List PyData := [.tuple [.int 3], .tuple [.int 0, .tuple [.str "out", .int (m : Int), .int 1]], .tuple [.int 0, .tuple [.str "out", .int 0, .int (-1)]], .tuple [.int 0, .tuple [.str "end", .none]], .tuple [.int 0, .tuple [.str "End", .int 0]], .tuple [.bool true, .tuple [.str "end", .int 0]], .list [.int 0, .tuple [.str "end", .int 0]], .tuple [.int 0, .list [.str "end", .int 0]]] ++ [.tuple [.int (-1), .tuple [.str "end", .int 0]], .tuple [.int 0, .tuple [.str "out", .bool true, .int 1]], .tuple [.int 0, .tuple [.str "out", .int 0, .bool false]], .tuple [.int 0, .tuple [.str "end", .int (-1)]], .tuple [.int 0, .tuple [.str "out", .int 0]], .tuple [.int 0, .tuple [.str "end", .int 0, .int 0]]]
def lates : List PyData := [.tuple [.int 9, .tuple [.str "end", .int 0]], .tuple [.int 8, .tuple [.str "end", .int 0]]]
theorem odds_bad (m : Nat) : ∀ x ∈ odds m, oddD m x := fun x hx => by
  unfold odds at hx
  simp only [List.cons_append, List.nil_append, List.mem_cons, List.not_mem_nil, or_false] at hx
  rcases hx with rfl | rfl | rfl | rfl | rfl | rfl | rfl | rfl | rfl | rfl | rfl | rfl | rfl | rfl <;> refine ⟨fun b r => ?_, rfl⟩ <;> first | rfl | simp [recGo, isDeedD, isLev, isNumD]
theorem pair_ok (p : Nat × Deed) : pairOk (pairD p) = true := by
  obtain ⟨t, d⟩ := p
  cases d <;> rfl
theorem pairs_ok (r : List (Nat × Deed)) : (r.map pairD).all pairOk = true := List.all_eq_true.mpr fun x hx => by
  obtain ⟨p, _, rfl⟩ := List.mem_map.mp hx
  exact pair_ok p
theorem late_bad (m : Int) (b : Int) : recGo m b lates = false := by
  simp [lates, recGo, isDeedD, isNumD]
theorem bad_in {m : Nat} {r : List (Nat × Deed)} {x : PyData} (h : oddD m x) (k : Nat) : badD m (.tuple ((r.map pairD).take k ++ [x] ++ (r.map pairD).drop k)) := by
  refine ⟨?_, fun xs e => ?_⟩
  · show recGo (m : Int) 0 ((r.map pairD).take k ++ [x] ++ (r.map pairD).drop k) = false
    rw [List.append_assoc]
    exact recGo_bad (fun b => h.1 b _) _ _
  · cases e
    have hp := pairs_ok r
    rw [List.all_append, List.all_append]
    have h1 : ((r.map pairD).take k).all pairOk = true := List.all_eq_true.mpr fun y hy => List.all_eq_true.mp hp y (List.mem_of_mem_take hy)
    have h2 : ((r.map pairD).drop k).all pairOk = true := List.all_eq_true.mpr fun y hy => List.all_eq_true.mp hp y (List.mem_of_mem_drop hy)
    rw [h1, h2]
    show (true && (pairOk x && true) && true) = true
    rw [h.2]
    rfl
theorem bad_late {m : Nat} {r : List (Nat × Deed)} : badD m (.tuple (r.map pairD ++ lates)) := by
  refine ⟨recGo_bad (late_bad m) _ _, fun xs e => ?_⟩
  cases e
  rw [List.all_append, pairs_ok r]
  rfl
def spBad : Sp := fun vs H Q _ => ∃ (T : Hp) (d l ar : Addr) (xr : List V) (m : Nat) (r : List (Nat × Deed)), vs = [.ref d, .ref ar, .int (m : Int)] ∧ Same T H ∧ T d = none ∧ T l = none ∧ Deal H d l ∧ T ar = some (.tup xr) ∧ DaA T (r.map pairD) xr ∧ r.length ≤ 8 ∧
  ∀ (x : PyData) (T' H' : Hp) (v : V), badD m x → ExD d l T H T' H' → Deal H' d l → Da T' x v → Q v H'
section
variable {P : Program} {w : World} {K : PySem.W.Frag} {mg : Str → Option Value} {base : Heap}
theorem ok_lbad {f fA fO : Addr} {fd fdA fdO : FuncData} (D : At K mg "_law_bad_record" s__law_bad_record ["deal", "record", "many"] f fd) (DA : At K mg "_law_any" s__law_any ["deal", "bound"] fA fdA) (DO : At K mg "_law_of" s__law_of ["deal", "some"] fO fdO)
    (m_int : mg "int" = none) (m_len : mg "len" = none) (m_list : mg "list" = none) : FnOk P w K mg base CX0 3 f fd ["deal", "record", "many"] spBad := by
  have GA : FnOk P w K mg base CX0 2 fA fdA ["deal", "bound"] spAny := (ok_any DA m_int).mono (by decide)
  have GO : FnOk P w K mg base CX0 2 fO fdO ["deal", "some"] (spOf K) := ok_of DO DA m_int m_len
  refine D.F.ok sc__law_bad_record (fun vs H Q E h => ?_) (fun cdv A outer s H vs Q E hr h => ?_)
  · obtain ⟨T, d, l, ar, xr, m, r, rfl, _⟩ := h
    rfl
  obtain ⟨T, d, l, ar, xr, m, r, rfl, sT, td, tl, hD, er, hdr, hlr, q⟩ := h
  have hu := hr.units
  have nd := sc__law_bad_record.nd
  have big : (100000 : Nat) < sizeLine := by decide
  have lxr : xr.length = r.length := by rw [hdr.len, List.length_map]
  refine ⟨_, (pss_cons (ps_set (i := 3) nd rfl (.inl rfl) (pe_call GA hr (by rfl) DA.g DA.F.kp DA.b .nil pass0 (pa_cons (pv 0) (pa_cons (pe_op op_add (pe_callB call_len_seq (by rfl) m_len PySem.boot_len (pa_cons (pv 1) pa_nil)) pe_int) pa_nil))))
  (pss_cons (ps_set (i := 4) nd rfl (.inl rfl) (pe_lst (pa_cons (pe_tup (pa_cons pe_int pa_nil)) (pa_cons (pe_tup (pa_cons pe_int (pa_cons (pe_tup (pa_cons pe_str (pa_cons (pv 2) (pa_cons pe_int pa_nil)))) pa_nil))) (pa_cons (pe_tup (pa_cons pe_int (pa_cons (pe_tup (pa_cons pe_str (pa_cons pe_int (pa_cons (pe_un un_neg pe_int) pa_nil)))) pa_nil))) (pa_cons (pe_tup (pa_cons pe_int (pa_cons (pe_tup (pa_cons pe_str (pa_cons pe_non pa_nil))) pa_nil))) (pa_cons (pe_tup (pa_cons pe_int (pa_cons (pe_tup (pa_cons pe_str (pa_cons pe_int pa_nil))) pa_nil))) (pa_cons (pe_tup (pa_cons pe_bl (pa_cons (pe_tup (pa_cons pe_str (pa_cons pe_int pa_nil))) pa_nil))) (pa_cons (pe_lst (pa_cons pe_int (pa_cons (pe_tup (pa_cons pe_str (pa_cons pe_int pa_nil))) pa_nil))) (pa_cons (pe_tup (pa_cons pe_int (pa_cons (pe_lst (pa_cons pe_str (pa_cons pe_int pa_nil))) pa_nil))) pa_nil))))))))))
  (pss_cons (ps_set (i := 4) nd rfl (.inl rfl) (pe_op op_cat (pv 4) (pe_lst (pa_cons (pe_tup (pa_cons (pe_un un_neg pe_int) (pa_cons (pe_tup (pa_cons pe_str (pa_cons pe_int pa_nil))) pa_nil))) (pa_cons (pe_tup (pa_cons pe_int (pa_cons (pe_tup (pa_cons pe_str (pa_cons pe_bl (pa_cons pe_int pa_nil)))) pa_nil))) (pa_cons (pe_tup (pa_cons pe_int (pa_cons (pe_tup (pa_cons pe_str (pa_cons pe_int (pa_cons pe_bl pa_nil)))) pa_nil))) (pa_cons (pe_tup (pa_cons pe_int (pa_cons (pe_tup (pa_cons pe_str (pa_cons (pe_un un_neg pe_int) pa_nil))) pa_nil))) (pa_cons (pe_tup (pa_cons pe_int (pa_cons (pe_tup (pa_cons pe_str (pa_cons pe_int pa_nil))) pa_nil))) (pa_cons (pe_tup (pa_cons pe_int (pa_cons (pe_tup (pa_cons pe_str (pa_cons pe_int (pa_cons pe_int pa_nil)))) pa_nil))) pa_nil)))))))))
  (pss_cons (ps_set (i := 5) nd rfl (.inl rfl) (pe_tup (pa_cons (pe_tup (pa_cons pe_int (pa_cons (pe_tup (pa_cons pe_str (pa_cons pe_int pa_nil))) pa_nil))) (pa_cons (pe_tup (pa_cons pe_int (pa_cons (pe_tup (pa_cons pe_str (pa_cons pe_int pa_nil))) pa_nil))) pa_nil))))
  (pss_one (ps_ret (pe_call GO hr (by rfl) DO.g DO.F.kp DO.b .nil pass0 (pa_cons (pv 0) (pa_cons (pe_lst (pa_cons (pe_op op_catA (pe_op op_catA (pe_slice sl_tupA (pv 1) po_none (po_some (pv 3))) (pe_tup (pa_cons (pe_call GO hr (by rfl) DO.g DO.F.kp DO.b .nil pass0 (pa_cons (pv 0) (pa_cons (pv 4) pa_nil))) pa_nil))) (pe_slice sl_tupA (pv 1) (po_some (pv 3)) po_none)) (pa_cons (pe_callTy call_list_of (by rfl) m_list boot_list (pa_cons (pv 1) pa_nil)) (pa_cons pe_non (pa_cons (pe_op op_catA (pv 1) (pv 5)) pa_nil))))) pa_nil))))))))), ?_⟩
  refine ⟨.ref d, rfl, .ref ar, rfl, ar, xr, rfl, .inr (.inl (.inl (sT _ _ er))), _, 1, rfl, rfl, d, l, _, rfl, hD, by omega, by omega, fun k H1 k0 k1 hD1 hB1 => ?_⟩
  obtain ⟨k, rfl⟩ : ∃ j : Nat, k = (j : Int) := ⟨k.toNat, by omega⟩
  have hk : k ≤ xr.length := by omega
  have x1 := ExD.turn sT td tl hB1
  refine ⟨by show 1 ≤ sizeLine; omega, fun m1 n1 => ?_⟩
  have y1 := Ext.new (o := (.tup [.int 3])) x1.th n1
  have e1 := @upd_same T m1 (.tup [.int 3])
  generalize upd T m1 (.tup [.int 3]) = T11 at y1 e1
  generalize upd H1 m1 (.tup [.int 3]) = H11 at y1 ⊢
  have p1 : DaA T11 [.tuple [.int 3]] [.ref m1] := .one ⟨m1, _, rfl, e1, .one rfl⟩
  refine ⟨.int (m : Int), rfl, ?_⟩
  refine ⟨by show 3 ≤ sizeLine; omega, fun m2 n2 => ?_⟩
  have y2 := Ext.new (o := (.tup [.str "out", .int (m : Int), .int 1])) y1.th n2
  have e2 := @upd_same T11 m2 (.tup [.str "out", .int (m : Int), .int 1])
  generalize upd T11 m2 (.tup [.str "out", .int (m : Int), .int 1]) = T12 at y2 e2
  generalize upd H11 m2 (.tup [.str "out", .int (m : Int), .int 1]) = H12 at y2 ⊢
  refine ⟨by show 2 ≤ sizeLine; omega, fun m3 n3 => ?_⟩
  have y3 := Ext.new (o := (.tup [.int 0, .ref m2])) y2.th n3
  have e3 := @upd_same T12 m3 (.tup [.int 0, .ref m2])
  generalize upd T12 m3 (.tup [.int 0, .ref m2]) = T13 at y3 e3
  generalize upd H12 m3 (.tup [.int 0, .ref m2]) = H13 at y3 ⊢
  have p3 := (p1.keep (y2.tt.trans y3.tt)).snoc (d := .tuple [.int 0, .tuple [.str "out", .int (m : Int), .int 1]]) (v := .ref m3) ⟨m3, _, rfl, e3, .two rfl (Da.keep y3.tt _ _ ⟨m2, _, rfl, e2, .three rfl rfl rfl⟩)⟩
  refine ⟨1, rfl, ?_⟩
  refine ⟨by show 3 ≤ sizeLine; omega, fun m4 n4 => ?_⟩
  have y4 := Ext.new (o := (.tup [.str "out", .int 0, .int (-1)])) y3.th n4
  have e4 := @upd_same T13 m4 (.tup [.str "out", .int 0, .int (-1)])
  generalize upd T13 m4 (.tup [.str "out", .int 0, .int (-1)]) = T14 at y4 e4
  generalize upd H13 m4 (.tup [.str "out", .int 0, .int (-1)]) = H14 at y4 ⊢
  refine ⟨by show 2 ≤ sizeLine; omega, fun m5 n5 => ?_⟩
  have y5 := Ext.new (o := (.tup [.int 0, .ref m4])) y4.th n5
  have e5 := @upd_same T14 m5 (.tup [.int 0, .ref m4])
  generalize upd T14 m5 (.tup [.int 0, .ref m4]) = T15 at y5 e5
  generalize upd H14 m5 (.tup [.int 0, .ref m4]) = H15 at y5 ⊢
  have p5 := (p3.keep (y4.tt.trans y5.tt)).snoc (d := .tuple [.int 0, .tuple [.str "out", .int 0, .int (-1)]]) (v := .ref m5) ⟨m5, _, rfl, e5, .two rfl (Da.keep y5.tt _ _ ⟨m4, _, rfl, e4, .three rfl rfl rfl⟩)⟩
  refine ⟨by show 2 ≤ sizeLine; omega, fun m6 n6 => ?_⟩
  have y6 := Ext.new (o := (.tup [.str "end", .non])) y5.th n6
  have e6 := @upd_same T15 m6 (.tup [.str "end", .non])
  generalize upd T15 m6 (.tup [.str "end", .non]) = T16 at y6 e6
  generalize upd H15 m6 (.tup [.str "end", .non]) = H16 at y6 ⊢
  refine ⟨by show 2 ≤ sizeLine; omega, fun m7 n7 => ?_⟩
  have y7 := Ext.new (o := (.tup [.int 0, .ref m6])) y6.th n7
  have e7 := @upd_same T16 m7 (.tup [.int 0, .ref m6])
  generalize upd T16 m7 (.tup [.int 0, .ref m6]) = T17 at y7 e7
  generalize upd H16 m7 (.tup [.int 0, .ref m6]) = H17 at y7 ⊢
  have p7 := (p5.keep (y6.tt.trans y7.tt)).snoc (d := .tuple [.int 0, .tuple [.str "end", .none]]) (v := .ref m7) ⟨m7, _, rfl, e7, .two rfl (Da.keep y7.tt _ _ ⟨m6, _, rfl, e6, .two rfl rfl⟩)⟩
  refine ⟨by show 2 ≤ sizeLine; omega, fun m8 n8 => ?_⟩
  have y8 := Ext.new (o := (.tup [.str "End", .int 0])) y7.th n8
  have e8 := @upd_same T17 m8 (.tup [.str "End", .int 0])
  generalize upd T17 m8 (.tup [.str "End", .int 0]) = T18 at y8 e8
  generalize upd H17 m8 (.tup [.str "End", .int 0]) = H18 at y8 ⊢
  refine ⟨by show 2 ≤ sizeLine; omega, fun m9 n9 => ?_⟩
  have y9 := Ext.new (o := (.tup [.int 0, .ref m8])) y8.th n9
  have e9 := @upd_same T18 m9 (.tup [.int 0, .ref m8])
  generalize upd T18 m9 (.tup [.int 0, .ref m8]) = T19 at y9 e9
  generalize upd H18 m9 (.tup [.int 0, .ref m8]) = H19 at y9 ⊢
  have p9 := (p7.keep (y8.tt.trans y9.tt)).snoc (d := .tuple [.int 0, .tuple [.str "End", .int 0]]) (v := .ref m9) ⟨m9, _, rfl, e9, .two rfl (Da.keep y9.tt _ _ ⟨m8, _, rfl, e8, .two rfl rfl⟩)⟩
  refine ⟨by show 2 ≤ sizeLine; omega, fun m10 n10 => ?_⟩
  have y10 := Ext.new (o := (.tup [.str "end", .int 0])) y9.th n10
  have e10 := @upd_same T19 m10 (.tup [.str "end", .int 0])
  generalize upd T19 m10 (.tup [.str "end", .int 0]) = T110 at y10 e10
  generalize upd H19 m10 (.tup [.str "end", .int 0]) = H110 at y10 ⊢
  refine ⟨by show 2 ≤ sizeLine; omega, fun m11 n11 => ?_⟩
  have y11 := Ext.new (o := (.tup [.bl true, .ref m10])) y10.th n11
  have e11 := @upd_same T110 m11 (.tup [.bl true, .ref m10])
  generalize upd T110 m11 (.tup [.bl true, .ref m10]) = T111 at y11 e11
  generalize upd H110 m11 (.tup [.bl true, .ref m10]) = H111 at y11 ⊢
  have p11 := (p9.keep (y10.tt.trans y11.tt)).snoc (d := .tuple [.bool true, .tuple [.str "end", .int 0]]) (v := .ref m11) ⟨m11, _, rfl, e11, .two rfl (Da.keep y11.tt _ _ ⟨m10, _, rfl, e10, .two rfl rfl⟩)⟩
  refine ⟨by show 2 ≤ sizeLine; omega, fun m12 n12 => ?_⟩
  have y12 := Ext.new (o := (.tup [.str "end", .int 0])) y11.th n12
  have e12 := @upd_same T111 m12 (.tup [.str "end", .int 0])
  generalize upd T111 m12 (.tup [.str "end", .int 0]) = T112 at y12 e12
  generalize upd H111 m12 (.tup [.str "end", .int 0]) = H112 at y12 ⊢
  refine ⟨by show 2 ≤ sizeLine; omega, fun m13 n13 => ?_⟩
  have y13 := Ext.new (o := (.lst [.int 0, .ref m12])) y12.th n13
  have e13 := @upd_same T112 m13 (.lst [.int 0, .ref m12])
  generalize upd T112 m13 (.lst [.int 0, .ref m12]) = T113 at y13 e13
  generalize upd H112 m13 (.lst [.int 0, .ref m12]) = H113 at y13 ⊢
  have p13 := (p11.keep (y12.tt.trans y13.tt)).snoc (d := .list [.int 0, .tuple [.str "end", .int 0]]) (v := .ref m13) ⟨m13, _, rfl, e13, .two rfl (Da.keep y13.tt _ _ ⟨m12, _, rfl, e12, .two rfl rfl⟩)⟩
  refine ⟨by show 2 ≤ sizeLine; omega, fun m14 n14 => ?_⟩
  have y14 := Ext.new (o := (.lst [.str "end", .int 0])) y13.th n14
  have e14 := @upd_same T113 m14 (.lst [.str "end", .int 0])
  generalize upd T113 m14 (.lst [.str "end", .int 0]) = T114 at y14 e14
  generalize upd H113 m14 (.lst [.str "end", .int 0]) = H114 at y14 ⊢
  refine ⟨by show 2 ≤ sizeLine; omega, fun m15 n15 => ?_⟩
  have y15 := Ext.new (o := (.tup [.int 0, .ref m14])) y14.th n15
  have e15 := @upd_same T114 m15 (.tup [.int 0, .ref m14])
  generalize upd T114 m15 (.tup [.int 0, .ref m14]) = T115 at y15 e15
  generalize upd H114 m15 (.tup [.int 0, .ref m14]) = H115 at y15 ⊢
  have p15 := (p13.keep (y14.tt.trans y15.tt)).snoc (d := .tuple [.int 0, .list [.str "end", .int 0]]) (v := .ref m15) ⟨m15, _, rfl, e15, .two rfl (Da.keep y15.tt _ _ ⟨m14, _, rfl, e14, .two rfl rfl⟩)⟩
  refine ⟨by show 8 ≤ sizeLine; omega, fun m16 n16 => ?_⟩
  have y16 := Ext.new (o := (.lst [.ref m1, .ref m3, .ref m5, .ref m7, .ref m9, .ref m11, .ref m13, .ref m15])) y15.th n16
  have e16 := @upd_same T115 m16 (.lst [.ref m1, .ref m3, .ref m5, .ref m7, .ref m9, .ref m11, .ref m13, .ref m15])
  generalize upd T115 m16 (.lst [.ref m1, .ref m3, .ref m5, .ref m7, .ref m9, .ref m11, .ref m13, .ref m15]) = T116 at y16 e16
  generalize upd H115 m16 (.lst [.ref m1, .ref m3, .ref m5, .ref m7, .ref m9, .ref m11, .ref m13, .ref m15]) = H116 at y16 ⊢
  have a16 := (p15.keep y16.tt)
  refine ⟨.ref m16, rfl, ?_⟩
  refine ⟨1, rfl, ?_⟩
  refine ⟨by show 2 ≤ sizeLine; omega, fun m17 n17 => ?_⟩
  have y17 := Ext.new (o := (.tup [.str "end", .int 0])) y16.th n17
  have e17 := @upd_same T116 m17 (.tup [.str "end", .int 0])
  generalize upd T116 m17 (.tup [.str "end", .int 0]) = T117 at y17 e17
  generalize upd H116 m17 (.tup [.str "end", .int 0]) = H117 at y17 ⊢
  refine ⟨by show 2 ≤ sizeLine; omega, fun m18 n18 => ?_⟩
  have y18 := Ext.new (o := (.tup [.int (-1), .ref m17])) y17.th n18
  have e18 := @upd_same T117 m18 (.tup [.int (-1), .ref m17])
  generalize upd T117 m18 (.tup [.int (-1), .ref m17]) = T118 at y18 e18
  generalize upd H117 m18 (.tup [.int (-1), .ref m17]) = H118 at y18 ⊢
  have q18 : DaA T118 [.tuple [.int (-1), .tuple [.str "end", .int 0]]] [.ref m18] := .one ⟨m18, _, rfl, e18, .two rfl (Da.keep y18.tt _ _ ⟨m17, _, rfl, e17, .two rfl rfl⟩)⟩
  refine ⟨by show 3 ≤ sizeLine; omega, fun m19 n19 => ?_⟩
  have y19 := Ext.new (o := (.tup [.str "out", .bl true, .int 1])) y18.th n19
  have e19 := @upd_same T118 m19 (.tup [.str "out", .bl true, .int 1])
  generalize upd T118 m19 (.tup [.str "out", .bl true, .int 1]) = T119 at y19 e19
  generalize upd H118 m19 (.tup [.str "out", .bl true, .int 1]) = H119 at y19 ⊢
  refine ⟨by show 2 ≤ sizeLine; omega, fun m20 n20 => ?_⟩
  have y20 := Ext.new (o := (.tup [.int 0, .ref m19])) y19.th n20
  have e20 := @upd_same T119 m20 (.tup [.int 0, .ref m19])
  generalize upd T119 m20 (.tup [.int 0, .ref m19]) = T120 at y20 e20
  generalize upd H119 m20 (.tup [.int 0, .ref m19]) = H120 at y20 ⊢
  have q20 := (q18.keep (y19.tt.trans y20.tt)).snoc (d := .tuple [.int 0, .tuple [.str "out", .bool true, .int 1]]) (v := .ref m20) ⟨m20, _, rfl, e20, .two rfl (Da.keep y20.tt _ _ ⟨m19, _, rfl, e19, .three rfl rfl rfl⟩)⟩
  refine ⟨by show 3 ≤ sizeLine; omega, fun m21 n21 => ?_⟩
  have y21 := Ext.new (o := (.tup [.str "out", .int 0, .bl false])) y20.th n21
  have e21 := @upd_same T120 m21 (.tup [.str "out", .int 0, .bl false])
  generalize upd T120 m21 (.tup [.str "out", .int 0, .bl false]) = T121 at y21 e21
  generalize upd H120 m21 (.tup [.str "out", .int 0, .bl false]) = H121 at y21 ⊢
  refine ⟨by show 2 ≤ sizeLine; omega, fun m22 n22 => ?_⟩
  have y22 := Ext.new (o := (.tup [.int 0, .ref m21])) y21.th n22
  have e22 := @upd_same T121 m22 (.tup [.int 0, .ref m21])
  generalize upd T121 m22 (.tup [.int 0, .ref m21]) = T122 at y22 e22
  generalize upd H121 m22 (.tup [.int 0, .ref m21]) = H122 at y22 ⊢
  have q22 := (q20.keep (y21.tt.trans y22.tt)).snoc (d := .tuple [.int 0, .tuple [.str "out", .int 0, .bool false]]) (v := .ref m22) ⟨m22, _, rfl, e22, .two rfl (Da.keep y22.tt _ _ ⟨m21, _, rfl, e21, .three rfl rfl rfl⟩)⟩
  refine ⟨1, rfl, ?_⟩
  refine ⟨by show 2 ≤ sizeLine; omega, fun m23 n23 => ?_⟩
  have y23 := Ext.new (o := (.tup [.str "end", .int (-1)])) y22.th n23
  have e23 := @upd_same T122 m23 (.tup [.str "end", .int (-1)])
  generalize upd T122 m23 (.tup [.str "end", .int (-1)]) = T123 at y23 e23
  generalize upd H122 m23 (.tup [.str "end", .int (-1)]) = H123 at y23 ⊢
  refine ⟨by show 2 ≤ sizeLine; omega, fun m24 n24 => ?_⟩
  have y24 := Ext.new (o := (.tup [.int 0, .ref m23])) y23.th n24
  have e24 := @upd_same T123 m24 (.tup [.int 0, .ref m23])
  generalize upd T123 m24 (.tup [.int 0, .ref m23]) = T124 at y24 e24
  generalize upd H123 m24 (.tup [.int 0, .ref m23]) = H124 at y24 ⊢
  have q24 := (q22.keep (y23.tt.trans y24.tt)).snoc (d := .tuple [.int 0, .tuple [.str "end", .int (-1)]]) (v := .ref m24) ⟨m24, _, rfl, e24, .two rfl (Da.keep y24.tt _ _ ⟨m23, _, rfl, e23, .two rfl rfl⟩)⟩
  refine ⟨by show 2 ≤ sizeLine; omega, fun m25 n25 => ?_⟩
  have y25 := Ext.new (o := (.tup [.str "out", .int 0])) y24.th n25
  have e25 := @upd_same T124 m25 (.tup [.str "out", .int 0])
  generalize upd T124 m25 (.tup [.str "out", .int 0]) = T125 at y25 e25
  generalize upd H124 m25 (.tup [.str "out", .int 0]) = H125 at y25 ⊢
  refine ⟨by show 2 ≤ sizeLine; omega, fun m26 n26 => ?_⟩
  have y26 := Ext.new (o := (.tup [.int 0, .ref m25])) y25.th n26
  have e26 := @upd_same T125 m26 (.tup [.int 0, .ref m25])
  generalize upd T125 m26 (.tup [.int 0, .ref m25]) = T126 at y26 e26
  generalize upd H125 m26 (.tup [.int 0, .ref m25]) = H126 at y26 ⊢
  have q26 := (q24.keep (y25.tt.trans y26.tt)).snoc (d := .tuple [.int 0, .tuple [.str "out", .int 0]]) (v := .ref m26) ⟨m26, _, rfl, e26, .two rfl (Da.keep y26.tt _ _ ⟨m25, _, rfl, e25, .two rfl rfl⟩)⟩
  refine ⟨by show 3 ≤ sizeLine; omega, fun m27 n27 => ?_⟩
  have y27 := Ext.new (o := (.tup [.str "end", .int 0, .int 0])) y26.th n27
  have e27 := @upd_same T126 m27 (.tup [.str "end", .int 0, .int 0])
  generalize upd T126 m27 (.tup [.str "end", .int 0, .int 0]) = T127 at y27 e27
  generalize upd H126 m27 (.tup [.str "end", .int 0, .int 0]) = H127 at y27 ⊢
  refine ⟨by show 2 ≤ sizeLine; omega, fun m28 n28 => ?_⟩
  have y28 := Ext.new (o := (.tup [.int 0, .ref m27])) y27.th n28
  have e28 := @upd_same T127 m28 (.tup [.int 0, .ref m27])
  generalize upd T127 m28 (.tup [.int 0, .ref m27]) = T128 at y28 e28
  generalize upd H127 m28 (.tup [.int 0, .ref m27]) = H128 at y28 ⊢
  have q28 := (q26.keep (y27.tt.trans y28.tt)).snoc (d := .tuple [.int 0, .tuple [.str "end", .int 0, .int 0]]) (v := .ref m28) ⟨m28, _, rfl, e28, .two rfl (Da.keep y28.tt _ _ ⟨m27, _, rfl, e27, .three rfl rfl rfl⟩)⟩
  refine ⟨by show 6 ≤ sizeLine; omega, fun m29 n29 => ?_⟩
  have y29 := Ext.new (o := (.lst [.ref m18, .ref m20, .ref m22, .ref m24, .ref m26, .ref m28])) y28.th n29
  have e29 := @upd_same T128 m29 (.lst [.ref m18, .ref m20, .ref m22, .ref m24, .ref m26, .ref m28])
  generalize upd T128 m29 (.lst [.ref m18, .ref m20, .ref m22, .ref m24, .ref m26, .ref m28]) = T129 at y29 e29
  generalize upd H128 m29 (.lst [.ref m18, .ref m20, .ref m22, .ref m24, .ref m26, .ref m28]) = H129 at y29 ⊢
  have b29 := (q28.keep y29.tt)
  have a29 := a16.keep ((((((((((((y17.tt.trans y18.tt).trans y19.tt).trans y20.tt).trans y21.tt).trans y22.tt).trans y23.tt).trans y24.tt).trans y25.tt).trans y26.tt).trans y27.tt).trans y28.tt).trans y29.tt)
  have ea29 := ((((((((((((y17.tt.trans y18.tt).trans y19.tt).trans y20.tt).trans y21.tt).trans y22.tt).trans y23.tt).trans y24.tt).trans y25.tt).trans y26.tt).trans y27.tt).trans y28.tt).trans y29.tt) _ _ e16
  refine ⟨m16, m29, _, _, rfl, rfl, y29.th _ _ ea29, y29.th _ _ e29, by show 14 ≤ sizeLine; omega, fun m30 nm => ?_⟩
  have y30 := Ext.new (o := (.lst ([.ref m1, .ref m3, .ref m5, .ref m7, .ref m9, .ref m11, .ref m13, .ref m15] ++ [.ref m18, .ref m20, .ref m22, .ref m24, .ref m26, .ref m28]))) y29.th nm
  have e30 := @upd_same T129 m30 (.lst ([.ref m1, .ref m3, .ref m5, .ref m7, .ref m9, .ref m11, .ref m13, .ref m15] ++ [.ref m18, .ref m20, .ref m22, .ref m24, .ref m26, .ref m28]))
  have c30 := (a29.app b29).keep y30.tt
  generalize upd T129 m30 (.lst ([.ref m1, .ref m3, .ref m5, .ref m7, .ref m9, .ref m11, .ref m13, .ref m15] ++ [.ref m18, .ref m20, .ref m22, .ref m24, .ref m26, .ref m28])) = T130 at y30 e30 c30
  generalize upd H129 m30 (.lst ([.ref m1, .ref m3, .ref m5, .ref m7, .ref m9, .ref m11, .ref m13, .ref m15] ++ [.ref m18, .ref m20, .ref m22, .ref m24, .ref m26, .ref m28])) = H130 at y30 ⊢
  refine ⟨by show 2 ≤ sizeLine; omega, fun m31 n31 => ?_⟩
  have y31 := Ext.new (o := (.tup [.str "end", .int 0])) y30.th n31
  have e31 := @upd_same T130 m31 (.tup [.str "end", .int 0])
  generalize upd T130 m31 (.tup [.str "end", .int 0]) = T131 at y31 e31
  generalize upd H130 m31 (.tup [.str "end", .int 0]) = H131 at y31 ⊢
  refine ⟨by show 2 ≤ sizeLine; omega, fun m32 n32 => ?_⟩
  have y32 := Ext.new (o := (.tup [.int 9, .ref m31])) y31.th n32
  have e32 := @upd_same T131 m32 (.tup [.int 9, .ref m31])
  generalize upd T131 m32 (.tup [.int 9, .ref m31]) = T132 at y32 e32
  generalize upd H131 m32 (.tup [.int 9, .ref m31]) = H132 at y32 ⊢
  have l32 : DaA T132 [.tuple [.int 9, .tuple [.str "end", .int 0]]] [.ref m32] := .one ⟨m32, _, rfl, e32, .two rfl (Da.keep y32.tt _ _ ⟨m31, _, rfl, e31, .two rfl rfl⟩)⟩
  refine ⟨by show 2 ≤ sizeLine; omega, fun m33 n33 => ?_⟩
  have y33 := Ext.new (o := (.tup [.str "end", .int 0])) y32.th n33
  have e33 := @upd_same T132 m33 (.tup [.str "end", .int 0])
  generalize upd T132 m33 (.tup [.str "end", .int 0]) = T133 at y33 e33
  generalize upd H132 m33 (.tup [.str "end", .int 0]) = H133 at y33 ⊢
  refine ⟨by show 2 ≤ sizeLine; omega, fun m34 n34 => ?_⟩
  have y34 := Ext.new (o := (.tup [.int 8, .ref m33])) y33.th n34
  have e34 := @upd_same T133 m34 (.tup [.int 8, .ref m33])
  generalize upd T133 m34 (.tup [.int 8, .ref m33]) = T134 at y34 e34
  generalize upd H133 m34 (.tup [.int 8, .ref m33]) = H134 at y34 ⊢
  have l34 := (l32.keep (y33.tt.trans y34.tt)).snoc (d := .tuple [.int 8, .tuple [.str "end", .int 0]]) (v := .ref m34) ⟨m34, _, rfl, e34, .two rfl (Da.keep y34.tt _ _ ⟨m33, _, rfl, e33, .two rfl rfl⟩)⟩
  refine ⟨by show 2 ≤ sizeLine; omega, fun m35 n35 => ?_⟩
  have y35 := Ext.new (o := (.tup [.ref m32, .ref m34])) y34.th n35
  have e35 := @upd_same T134 m35 (.tup [.ref m32, .ref m34])
  generalize upd T134 m35 (.tup [.ref m32, .ref m34]) = T135 at y35 e35
  generalize upd H134 m35 (.tup [.ref m32, .ref m34]) = H135 at y35 ⊢
  have late := l34.keep y35.tt
  have elate := e35
  have odd := c30.keep ((((y31.tt.trans y32.tt).trans y33.tt).trans y34.tt).trans y35.tt)
  have eodd := ((((y31.tt.trans y32.tt).trans y33.tt).trans y34.tt).trans y35.tt) _ _ e30
  have z1 := y1
  have z2 := z1.trans y2
  have z3 := z2.trans y3
  have z4 := z3.trans y4
  have z5 := z4.trans y5
  have z6 := z5.trans y6
  have z7 := z6.trans y7
  have z8 := z7.trans y8
  have z9 := z8.trans y9
  have z10 := z9.trans y10
  have z11 := z10.trans y11
  have z12 := z11.trans y12
  have z13 := z12.trans y13
  have z14 := z13.trans y14
  have z15 := z14.trans y15
  have z16 := z15.trans y16
  have z17 := z16.trans y17
  have z18 := z17.trans y18
  have z19 := z18.trans y19
  have z20 := z19.trans y20
  have z21 := z20.trans y21
  have z22 := z21.trans y22
  have z23 := z22.trans y23
  have z24 := z23.trans y24
  have z25 := z24.trans y25
  have z26 := z25.trans y26
  have z27 := z26.trans y27
  have z28 := z27.trans y28
  have z29 := z28.trans y29
  have z30 := z29.trans y30
  have z31 := z30.trans y31
  have z32 := z31.trans y32
  have z33 := z32.trans y33
  have z34 := z33.trans y34
  have z35 := z34.trans y35
  clear y1 y2 y3 y4 y5 y6 y7 y8 y9 y10 y11 y12 y13 y14 y15 y16 y17 y18 y19 y20 y21 y22 y23 y24 y25 y26 y27 y28 y29 y30 y31 y32 y33 y34 y35 z1 z2 z3 z4 z5 z6 z7 z8 z9 z10 z11 z12 z13 z14 z15 z16 z17 z18 z19 z20 z21 z22 z23 z24 z25 z26 z27 z28 z29 z30 z31 z32 z33 z34
  have X := ExD.trans hD x1 hD1 z35.toD
  have hD2 := hD1.same z35.hh
  generalize T135 = T2 at late elate odd eodd z35 X
  generalize H135 = H2 at hD2 z35 X ⊢
  have tt := X.td hD td tl
  have er2 := X.tt _ _ er
  have hdr2 := hdr.keep X.tt
  have offT : ∀ {T3 : Hp} {b : Addr} {o : HO}, T3 d = none → T3 l = none → T3 b = some o → b ≠ d ∧ b ≠ l := fun {T3 b o} e1 e2 e => ⟨fun z => (by rw [z, e1] at e; cases e), fun z => (by rw [z, e2] at e; cases e)⟩
  have of30 := offT tt.1 tt.2 eodd
  refine ⟨.ref d, rfl, ?_⟩
  refine ⟨.ref ar, rfl, .int (k : Int), rfl, (k : Int), rfl, slA_da X.th er2 (fun b1 T3 H3 x3 e3 => ?_)⟩
  rw [cutV_take _ _ hk] at e3
  have X3 := ExD.trans hD X hD2 x3.toD
  have hD3 := hD2.same x3.hh
  have tt3 := X3.td hD td tl
  refine ⟨.ref d, rfl, .ref m30, rfl, d, l, m30, _, rfl, hD3, fun H' B => .inl (.inl (B _ _ of30.1 of30.2 (x3.th _ _ (x3.tt _ _ eodd)))), by show 0 < 14; decide, by show 14 ≤ 1000; decide, fun i x H4 hx hD4 hB4 => ?_⟩
  obtain ⟨od, hod, hdx⟩ := odd.get hx
  have hbad := odds_bad m od (List.mem_of_getElem? hod)
  have x4 := ExD.turn X3.th tt3.1 tt3.2 hB4
  refine ⟨by show 1 ≤ sizeLine; omega, fun b5 n5 => ?_⟩
  have x5 := Ext.new (o := .tup [x]) x4.th n5
  have e5 := @upd_same T3 b5 (.tup [x])
  generalize upd T3 b5 (.tup [x]) = T5 at x5 e5
  generalize upd H4 b5 (.tup [x]) = H5 at x5 ⊢
  refine catA_da x5.th (x5.tt _ _ e3) e5 (by rw [List.length_take]; show min k xr.length + 1 ≤ sizeLine; omega) (fun b6 T6 H6 x6 e6 => ?_)
  refine ⟨.ref ar, rfl, .int (k : Int), rfl, (k : Int), rfl, noPart ?_⟩
  refine slA_da x6.th (x6.tt _ _ (x5.tt _ _ (x3.tt _ _ er2))) (fun b7 T7 H7 x7 e7 => ?_)
  rw [cutV_drop _ _ hk] at e7
  refine catA_da x7.th (x7.tt _ _ e6) e7 (by rw [List.length_append, List.length_take, List.length_drop]; show min k xr.length + 1 + (xr.length - k) ≤ sizeLine; omega) (fun b8 T8 H8 x8 e8 => ?_)
  have u3 : Ext T3 H4 T8 H8 := ((x5.trans x6).trans x7).trans x8
  have g1 : Da T8 (.tuple ((r.map pairD).take k ++ [od] ++ (r.map pairD).drop k)) (.ref b8) :=
    ⟨b8, _, rfl, e8, (((hdr2.take k).keep (x3.tt.trans u3.tt)).app (.one (Da.keep (x3.tt.trans u3.tt) _ _ hdx))).app ((hdr2.drop k).keep (x3.tt.trans u3.tt))⟩
  refine ⟨.ref ar, rfl, ar, xr, rfl, .inr (.inl (.inl (u3.hh _ _ (x4.th _ _ (x3.tt _ _ er2))))), fun b9 n9 => ?_⟩
  have x9 := Ext.new (o := .lst xr) u3.th n9
  have e9 := @upd_same T8 b9 (.lst xr)
  generalize upd T8 b9 (.lst xr) = T9 at x9 e9
  generalize upd H8 b9 (.lst xr) = H9 at x9 ⊢
  refine ⟨.ref ar, rfl, .ref m35, rfl, catA_da x9.th (x9.tt _ _ (u3.tt _ _ (x3.tt _ _ er2))) (x9.tt _ _ (u3.tt _ _ (x3.tt _ _ elate))) (by show xr.length + 2 ≤ sizeLine; omega) (fun b10 T10 H10 x10 e10 => ?_)⟩
  have u9 := u3.trans (x9.trans x10)
  have g2 : Da T10 (.list (r.map pairD)) (.ref b9) := ⟨b9, _, rfl, x10.tt _ _ e9, hdr2.keep (x3.tt.trans u9.tt)⟩
  have g4 : Da T10 (.tuple (r.map pairD ++ lates)) (.ref b10) := ⟨b10, _, rfl, e10, (hdr2.keep (x3.tt.trans u9.tt)).app (late.keep (x3.tt.trans u9.tt))⟩
  refine ⟨by show 4 ≤ sizeLine; omega, fun b11 n11 => ?_⟩
  have x11 := Ext.new (o := .lst [.ref b8, .ref b9, .non, .ref b10]) x10.th n11
  have e11 := @upd_same T10 b11 (.lst [.ref b8, .ref b9, .non, .ref b10])
  generalize upd T10 b11 (.lst [.ref b8, .ref b9, .non, .ref b10]) = T11' at x11 e11
  generalize upd H10 b11 (.lst [.ref b8, .ref b9, .non, .ref b10]) = H11' at x11 ⊢
  have g : DaA T11' [.tuple ((r.map pairD).take k ++ [od] ++ (r.map pairD).drop k), .list (r.map pairD), .none, .tuple (r.map pairD ++ lates)] [.ref b8, .ref b9, .non, .ref b10] :=
    ⟨_, _, rfl, Da.keep ((x9.tt.trans x10.tt).trans x11.tt) _ _ g1, _, _, rfl, Da.keep x11.tt _ _ g2, _, _, rfl, rfl, _, _, rfl, Da.keep x11.tt _ _ g4, rfl⟩
  have X11 := ExD.trans hD (ExD.trans hD X3 hD3 x4) hD4 (u9.trans x11).toD
  have hD11 := hD4.same (u9.trans x11).hh
  have tt11 := X11.td hD td tl
  have of11 := offT tt11.1 tt11.2 e11
  refine ⟨d, l, b11, _, rfl, hD11, fun H' B => .inl (.inl (B _ _ of11.1 of11.2 (x11.th _ _ e11))), by show 0 < 4; decide, by show 4 ≤ 1000; decide, fun i y H12 hy hD12 hB12 => ?_⟩
  obtain ⟨yd, hyd, hdy⟩ := g.get hy
  have hb : badD m yd := by
    have := List.mem_of_getElem? hyd
    simp only [List.mem_cons, List.not_mem_nil, or_false] at this
    rcases this with rfl | rfl | rfl | rfl
    · exact bad_in hbad k
    · exact ⟨rfl, fun xs e => by cases e⟩
    · exact ⟨rfl, fun xs e => by cases e⟩
    · exact bad_late
  exact q yd T11' H12 y hb (ExD.trans hD X11 hD11 (ExD.turn X11.th tt11.1 tt11.2 hB12)) hD12 hdy
end
end K04
end

section
set_option maxHeartbeats 2000000
set_option pp.maxSteps 400
namespace K04
open PySem PySem.Spec PyProof.Rows L2 Zc
/-! ### what is so of the drawn things -/
theorem nats_nums (l : List Nat) : areNums (natsT l) = true := by
  show (l.map natD).all isNumD = true
  rw [List.all_map, List.all_eq_true]
  intro n _
  show decide (0 ≤ (n : Int)) = true
  exact decide_eq_true (by omega)
theorem input_ok (A : List (List Nat)) {n : Nat} (h : A.length = n) : (tupLen (ordD A) (n : Int) && (match ordD A with | .tuple xs => xs.all areNums | _ => false)) = true := by
  show (decide (((A.map natsT).length : Int) = (n : Int)) && (A.map natsT).all areNums) = true
  rw [List.length_map, h, decide_eq_true rfl, Bool.true_and, List.all_map, List.all_eq_true]
  exact fun l _ => nats_nums l
def notIn (n : Nat) (d : PyData) : Prop := (tupLen d (n : Int) && (match d with | .tuple xs => xs.all areNums | _ => false)) = false
theorem notIn_len {n : Nat} {xs : List PyData} (h : xs.length ≠ n) : notIn n (.tuple xs) := by
  show (decide ((xs.length : Int) = (n : Int)) && xs.all areNums) = false
  rw [decide_eq_false (by omega), Bool.false_and]
theorem notIn_mem {n : Nat} {xs : List PyData} {x : PyData} (hx : x ∈ xs) (h : areNums x = false) : notIn n (.tuple xs) := by
  show (decide ((xs.length : Int) = (n : Int)) && xs.all areNums) = false
  have e : xs.all areNums = false := by
    rw [Bool.eq_false_iff]
    intro z
    rw [List.all_eq_true.mp z x hx] at h
    cases h
  rw [e, Bool.and_false]
def badIns (n : Nat) (ds : List PyData) : List PyData :=
  [.list ds, .tuple (ds ++ [.tuple []]), .tuple (ds.drop 1), .tuple (List.replicate n .none), .tuple (ds.drop 1 ++ [.tuple [.int (-1)]]), .tuple (ds.drop 1 ++ [.tuple [.bool true]]), .tuple (ds.drop 1 ++ [.list [.int 0]]), .none]
theorem badIns_bad {n : Nat} {ds : List PyData} (hl : ds.length = n) (hn : 1 ≤ n) : ∀ d ∈ badIns n ds, notIn n d := fun d hd => by
  unfold badIns at hd
  simp only [List.mem_cons, List.not_mem_nil, or_false] at hd
  rcases hd with rfl | rfl | rfl | rfl | rfl | rfl | rfl | rfl
  · rfl
  · exact notIn_len (by rw [List.length_append, List.length_singleton]; omega)
  · exact notIn_len (by rw [List.length_drop]; omega)
  · exact notIn_mem (x := .none) (List.mem_replicate.mpr ⟨by omega, rfl⟩) rfl
  · exact notIn_mem (List.mem_append_right _ (List.mem_singleton.mpr rfl)) rfl
  · exact notIn_mem (List.mem_append_right _ (List.mem_singleton.mpr rfl)) rfl
  · exact notIn_mem (List.mem_append_right _ (List.mem_singleton.mpr rfl)) rfl
  · rfl
theorem da_reps {T : Hp} : ∀ n : Nat, DaA T (List.replicate n PyData.none) (List.replicate n [V.non]).flatten
  | 0 => rfl
  | n + 1 => ⟨.non, (List.replicate n [V.non]).flatten, rfl, rfl, da_reps n⟩
theorem deed_ok {m k : Nat} {dd : Deed} (h : deedIn m k dd) : isDeedD (m : Int) (deedD dd) = true := by
  cases dd with
  | out l n =>
    have h' : l < m ∧ n < 5 := h
    show (decide (("out" : Str) = "out") && ((decide (0 ≤ (l : Int)) && decide ((l : Int) < (m : Int))) && decide (0 ≤ (n : Int)))) = true
    rw [decide_eq_true rfl, decide_eq_true (by omega), decide_eq_true (by omega), decide_eq_true (by omega)]
    rfl
  | fin t =>
    show (decide (("end" : Str) = "end") && decide (0 ≤ (t : Int))) = true
    rw [decide_eq_true rfl, decide_eq_true (by omega)]
    rfl
theorem rec_go {m k : Nat} : ∀ {r : List (Nat × Deed)} {b : Nat}, (∀ p ∈ r, deedIn m k p.2) → (r.Pairwise fun x y => x.1 ≤ y.1) → (∀ p ∈ r, b ≤ p.1) → recGo (m : Int) (b : Int) (r.map pairD) = true
  | [], b, _, _, _ => rfl
  | p :: r, b, h1, h2, h3 => by
    cases h2 with
    | cons g1 g2 =>
      have ih := rec_go (r := r) (b := p.1) (fun q hq => h1 q (List.mem_cons_of_mem _ hq)) g2 (fun q hq => g1 q hq)
      have hb := h3 p List.mem_cons_self
      show (decide (0 ≤ (p.1 : Int)) && (isDeedD (m : Int) (deedD p.2) && (!decide ((p.1 : Int) < (b : Int)) && recGo (m : Int) (p.1 : Int) (r.map pairD)))) = true
      rw [ih, deed_ok (h1 p List.mem_cons_self), decide_eq_true (by omega), decide_eq_false (by omega)]
      rfl
theorem rec_ok {m k : Nat} {r : List (Nat × Deed)} (h : RecOk m k r) : isRecD (m : Int) (recD r) = true :=
  rec_go (b := 0) h.deed h.asc fun _ _ => Nat.zero_le _
/-- small records: they can be shown, compared -/
def smallR (r : List (Nat × Deed)) : Prop := r.length ≤ 8 ∧ ∀ p ∈ r, p.1 ≤ 16 ∧ deedIn 5 3 p.2
theorem deedIn_up {m k : Nat} (h1 : m ≤ 5) (h2 : k ≤ 3) : ∀ {d : Deed}, deedIn m k d → deedIn 5 3 d
  | .out l n, h => by
    have h' : l < m ∧ n < 5 := h
    show l < 5 ∧ n < 5
    omega
  | .fin t, h => by
    have h' : t < k := h
    show t < 3
    omega
theorem RecOk.small {m k : Nat} {r : List (Nat × Deed)} (h : RecOk m k r) (h1 : m ≤ 5) (h2 : k ≤ 3) : smallR r := ⟨h.len, fun p hp => ⟨h.tick p hp, deedIn_up h1 h2 (h.deed p hp)⟩⟩
theorem smallR.filter {r : List (Nat × Deed)} (h : smallR r) (f : Nat × Deed → Bool) : smallR (r.filter f) := ⟨Nat.le_trans (List.length_filter_le _ _) h.1, fun p hp => h.2 p (List.mem_filter.mp hp).1⟩
theorem lt64 {n : Nat} (h : n < 1000) : decide (((n : Int)).natAbs < 2 ^ 64) = true := decide_eq_true (by
  have : (1000 : Nat) < 2 ^ 64 := by decide
  omega)
theorem deed_plain {d : Deed} (h : deedIn 5 3 d) : plainD (deedD d) = true ∧ (deedD d).depth = 1 ∧ bulk (deedD d) ≤ 200 := by
  cases d with
  | out l n =>
    have h' : l < 5 ∧ n < 5 := h
    refine ⟨?_, ?_, ?_⟩
    · simp only [deedD, natD, plainD, plainAll, lt64 (show l < 1000 by omega), lt64 (show n < 1000 by omega)]
      decide +kernel
    · simp only [deedD, natD, PyData.depth, PyData.depthAll]
      rfl
    · simp only [deedD, natD, bulk, bulkAll]
      decide +kernel
  | fin t =>
    have h' : t < 3 := h
    refine ⟨?_, ?_, ?_⟩
    · simp only [deedD, natD, plainD, plainAll, lt64 (show t < 1000 by omega)]
      decide +kernel
    · simp only [deedD, natD, PyData.depth, PyData.depthAll]
      rfl
    · simp only [deedD, natD, bulk, bulkAll]
      decide +kernel
theorem recs_plain : ∀ {r : List (Nat × Deed)}, (∀ p ∈ r, p.1 ≤ 16 ∧ deedIn 5 3 p.2) → plainAll (r.map pairD) = true ∧ PyData.depthAll (r.map pairD) ≤ 2 ∧ bulkAll (r.map pairD) ≤ 300 * r.length
  | [], _ => by
    refine ⟨by simp [plainAll], by simp [PyData.depthAll], by simp [bulkAll]⟩
  | p :: r, h => by
    obtain ⟨i1, i2, i3⟩ := recs_plain (r := r) fun q hq => h q (List.mem_cons_of_mem _ hq)
    obtain ⟨hp, hd⟩ := h p List.mem_cons_self
    obtain ⟨d1, d2, d3⟩ := deed_plain hd
    refine ⟨?_, ?_, ?_⟩
    · simp only [List.map_cons, plainAll, pairD, plainD, natD, i1, d1, lt64 (show p.1 < 1000 by omega)]
      rfl
    · simp only [List.map_cons, PyData.depthAll, pairD, PyData.depth, natD, d2]
      omega
    · simp only [List.map_cons, bulkAll, pairD, bulk, natD, List.length_cons]
      omega
theorem smallR.plain {r : List (Nat × Deed)} (h : smallR r) : plainD (recD r) = true ∧ (recD r).depth ≤ 3 ∧ bulk (recD r) ≤ sizeLine := by
  obtain ⟨i1, i2, i3⟩ := recs_plain h.2
  have hl := h.1
  refine ⟨?_, ?_, ?_⟩
  · simp only [recD, plainD]
    exact i1
  · simp only [recD, PyData.depth]
    omega
  · simp only [recD, bulk]
    have : (100000 : Nat) < sizeLine := by decide
    omega
theorem none_not {α : Type} (p : α → Bool) : ∀ lt : List α, (lt.filter fun x => !p x).isEmpty = lt.all p
  | [] => rfl
  | x :: r => by
    rw [List.filter_cons, List.all_cons]
    cases e : p x with
    | true =>
      rw [if_neg (by simp), Bool.true_and]
      exact none_not p r
    | false => rfl
theorem cut_seen (ms : List Nat) (E : List (List Nat)) (tk : Nat) (r : List (Nat × Deed)) : seenR ms E (cutR tk r) = cutR tk (seenR ms E r) := by
  unfold seenR cutR
  rw [List.filter_filter, List.filter_filter]
  exact List.filter_congr fun _ _ => Bool.and_comm _ _
theorem seen_sub {ms ns : List Nat} (E : List (List Nat)) (h : ∀ x ∈ ns, x ∈ ms) (r : List (Nat × Deed)) : seenR ns E (seenR ms E r) = seenR ns E r := by
  unfold seenR
  rw [List.filter_filter]
  refine List.filter_congr fun p _ => ?_
  cases e : seenB ns E p.2 with
  | false => exact Bool.false_and _
  | true =>
    rw [Bool.true_and]
    obtain ⟨t, d⟩ := p
    cases d with
    | out l n => exact decide_eq_true (h l (of_decide_eq_true e))
    | fin t =>
      refine List.all_eq_true.mpr fun l hl => ?_
      exact decide_eq_true (h l (of_decide_eq_true (List.all_eq_true.mp e l hl)))
theorem wf_of {m k n : Nat} {r : List (Nat × Deed)} (h : RecOk m k r) (e : n = k) : wfR n r := ⟨by have := h.len; omega, fun p hp => by
  have := h.deed p hp
  obtain ⟨t, d⟩ := p
  cases d with
  | out l n => trivial
  | fin t =>
    have h' : t < k := this
    show t < n
    omega⟩
theorem wfR.filter {n : Nat} {r : List (Nat × Deed)} (h : wfR n r) (f : Nat × Deed → Bool) : wfR n (r.filter f) := ⟨Nat.lt_of_le_of_lt (List.length_filter_le _ _) h.1, fun p hp => h.2 p (List.mem_filter.mp hp).1⟩
end K04
end

section
set_option maxHeartbeats 4000000
set_option pp.maxSteps 400
namespace K04
open PySem PySem.Spec PyProof.Rows L2 Zc
structure LawCtx (P : Program) (w : World) (K : PySem.W.Frag) (mg : Str → Option Value) (base : Heap) (cs : List (Addr × Addr)) where
  fR : Addr
  fdR : FuncData
  DR : At K mg "_law_draw" s__law_draw ["script", "salt"] fR fdR
  fA : Addr
  fdA : FuncData
  DA : At K mg "_law_any" s__law_any ["deal", "bound"] fA fdA
  fO : Addr
  fdO : FuncData
  DO : At K mg "_law_of" s__law_of ["deal", "some"] fO fdO
  fX : Addr
  fdX : FuncData
  DX : At K mg "_law_mixed" s__law_mixed ["deal", "some"] fX fdX
  fC : Addr
  fdC : FuncData
  DC : At K mg "_law_closed" s__law_closed ["many", "pairs"] fC fdC
  fOr : Addr
  fdOr : FuncData
  DOr : At K mg "_law_order" s__law_order ["deal"] fOr fdOr
  fRc : Addr
  fdRc : FuncData
  DRc : At K mg "_law_record" s__law_record ["deal", "many", "threads"] fRc fdRc
  fSn : Addr
  fdSn : FuncData
  DSn : At K mg "_law_seen" s__law_seen ["order", "level", "ends", "record"] fSn fdSn
  fB : Addr
  fdB : FuncData
  DB : At K mg "_law_bad_record" s__law_bad_record ["deal", "record", "many"] fB fdB
  fI : Addr
  fdI : FuncData
  DI : At K mg "is_integer" s_is_integer ["value"] fI fdI
  fN : Addr
  fdN : FuncData
  DN : At K mg "is_number" s_is_number ["value"] fN fdN
  fT : Addr
  fdT : FuncData
  DT : At K mg "is_tuple_of" s_is_tuple_of ["value", "many"] fT fdT
  fM : Addr
  fdM : FuncData
  cM : Addr
  pM : Addr
  DM' : AtT K mg base "are_numbers" s_are_numbers ["value"] fM fdM cM pM
  tM : (cM, pM) ∈ cs
  fL : Addr
  fdL : FuncData
  DL : At K mg "is_level" s_is_level ["levels", "value"] fL fdL
  fW : Addr
  fdW : FuncData
  cW : Addr
  pW : Addr
  DW' : AtT K mg base "lot_within" s_lot_within ["order", "lot", "level"] fW fdW cW pW
  tW : (cW, pW) ∈ cs
  fin : Addr
  fdin : FuncData
  cin : Addr
  pin : Addr
  Din' : AtT K mg base "is_input" s_is_input ["order", "value"] fin fdin cin pin
  tin : (cin, pin) ∈ cs
  fal : Addr
  fdal : FuncData
  cal : Addr
  pal : Addr
  Dal' : AtT K mg base "alike_inputs" s_alike_inputs ["order", "level", "one", "other"] fal fdal cal pal
  tal : (cal, pal) ∈ cs
  fde : Addr
  fdde : FuncData
  Dde : At K mg "is_deed" s_is_deed ["order", "value"] fde fdde
  fre : Addr
  fdre : FuncData
  Dre : At K mg "is_record" s_is_record ["order", "value"] fre fdre
  fis : Addr
  fdis : FuncData
  Dis : At K mg "is_seen" s_is_seen ["order", "level", "ends", "deed"] fis fdis
  fse : Addr
  fdse : FuncData
  Dse : At K mg "seen" s_seen ["order", "level", "ends", "record"] fse fdse
  fcu : Addr
  fdcu : FuncData
  Dcu : At K mg "cut_record" s_cut_record ["record", "tick"] fcu fdcu
  kw_is_input : KBinds K fdin ["order", "value"] ["value", "order"] revK revK
  kw_is_record : KBinds K fdre ["order", "value"] ["value", "order"] revK revK
  kw_cut_record : KBinds K fdcu ["record", "tick"] ["tick", "record"] revK revK
  kw_alike_inputs : KBinds K fdal ["order", "level", "one", "other"] ["other", "one", "level", "order"] revK revK
  kw_seen : KBinds K fdse ["order", "level", "ends", "record"] ["record", "ends", "level", "order"] revK revK
  m_int : mg "int" = none
  m_len : mg "len" = none
  m_list : mg "list" = none
  m_range : mg "range" = none
  m_sorted : mg "sorted" = none
  m_tuple : mg "tuple" = none
  m_min : mg "min" = none
  m_max : mg "max" = none
  m_isinstance : mg "isinstance" = none
  m_bool : mg "bool" = none
  m_all : mg "all" = none
  m_abs : mg "abs" = none
  m_repr : mg "repr" = none
def spLaw (cs : List (Addr × Addr)) (K : PySem.W.Frag) : Sp := fun vs H Q _ => ∃ (a : Addr) (ns : List Int), vs = [.ref a] ∧ Tabs cs H ∧ SqL K H a (ns.map V.int) ∧ ns.length ≤ 63 ∧ ∀ H', Tabs cs H' → Q (.bl true) H'
section
variable {P : Program} {w : World} {K : PySem.W.Frag} {mg : Str → Option Value} {base : Heap} {cs : List (Addr × Addr)}
set_option maxHeartbeats 8000000 in
theorem ok_law {f : Addr} {fd : FuncData} (D : At K mg "law" s_law ["script"] f fd) (C : LawCtx P w K mg base cs) : FnG P w K mg base 11 f fd ["script"] (spLaw cs K) := by
  obtain ⟨fR, fdR, DR, fA, fdA, DA, fO, fdO, DO, fX, fdX, DX, fC, fdC, DC, fOr, fdOr, DOr, fRc, fdRc, DRc, fSn, fdSn, DSn, fB, fdB, DB, fI, fdI, DI, fN, fdN, DN, fT, fdT, DT, fM, fdM, cM, pM, DM', tM, fL, fdL, DL, fW, fdW, cW, pW, DW', tW, fin, fdin, cin, pin, Din', tin, fal, fdal, cal, pal, Dal', tal, fde, fdde, Dde, fre, fdre, Dre, fis, fdis, Dis, fse, fdse, Dse, fcu, fdcu, Dcu, kw_is_input, kw_is_record, kw_cut_record, kw_alike_inputs, kw_seen, m_int, m_len, m_list, m_range, m_sorted, m_tuple, m_min, m_max, m_isinstance, m_bool, m_all, m_abs, m_repr⟩ := C
  have DM := DM'.at_
  have DW := DW'.at_
  have Din := Din'.at_
  have Dal := Dal'.at_
  have GR : FnOk P w K mg base CX0 10 fR fdR ["script", "salt"] (spDraw K) := (ok_draw DR m_int m_abs).mono (by decide)
  have GA : FnOk P w K mg base CX0 10 fA fdA ["deal", "bound"] spAny := (ok_any DA m_int).mono (by decide)
  have GO : FnOk P w K mg base CX0 10 fO fdO ["deal", "some"] (spOf K) := (ok_of DO DA m_int m_len).mono (by decide)
  have GOr : FnOk P w K mg base CX0 10 fOr fdOr ["deal"] spOrder := (ok_order DOr DA DX DC m_int m_len m_list m_range m_sorted m_tuple m_min m_max).mono (by decide)
  have GRc : FnOk P w K mg base CX0 10 fRc fdRc ["deal", "many", "threads"] spLRec := (ok_lrec DRc DA m_int m_range m_tuple).mono (by decide)
  have GSn : FnOk P w K mg base CX0 10 fSn fdSn ["order", "level", "ends", "record"] (spD C0 rSeenL) := (ok_lseen DSn m_list m_tuple).mono (by decide)
  have GB : FnOk P w K mg base CX0 10 fB fdB ["deal", "record", "many"] spBad := (ok_lbad DB DA DO m_int m_len m_list).mono (by decide)
  have Gin : FnOk P w K mg base CX0 10 fin fdin ["order", "value"] (spQ (fun H => H pin = some (tabX pin) ∧ H pM = some (tabX pM)) rInput) := ok_is_input Din' DT DM' DN DI m_isinstance m_int m_bool m_tuple m_all m_len
  have Gre : FnOk P w K mg base CX0 10 fre fdre ["order", "value"] (spQ C0 rRecord) := (ok_is_record Dre Dde DT DL DN DI m_isinstance m_int m_bool m_tuple m_len).mono (by decide)
  have Gal : FnOk P w K mg base CX0 10 fal fdal ["order", "level", "one", "other"] (spQ (fun H => H pal = some (tabX pal)) rAlike) := (ok_alike_inputs Dal' m_all).mono (by decide)
  have Gse : FnOk P w K mg base CX0 10 fse fdse ["order", "level", "ends", "record"] (spD (fun H => H pW = some (tabX pW)) rSeen) := (ok_seen Dse Dis DW' m_all m_tuple).mono (by decide)
  have Gcu : FnOk P w K mg base CX0 10 fcu fdcu ["record", "tick"] (spD C0 rCut) := (ok_cut_record Dcu m_tuple).mono (by decide)
  have nd := sc_law.nd
  refine fnG_ok D.F sc_law (fun vs H Q E h => ?_) (fun cdv A outer s H vs Q E hr hg h => ?_)
  · obtain ⟨a, ns, rfl, _⟩ := h
    rfl
  obtain ⟨a, ns, rfl, hT, hS, hlen, q⟩ := h
  have hu := hr.units
  have big : (100000 : Nat) < sizeLine := by decide
  refine ⟨_, (pss_cons (ps_set (i := 1) nd rfl (.inr rfl) (pe_call GR hr (by rfl) DR.g DR.F.kp DR.b .nil pass0 (pa_cons (pv 0) (pa_cons pe_int pa_nil))))
  (pss_cons (ps_set (i := 2) nd rfl (.inl rfl) (pe_call GOr hr (by rfl) DOr.g DOr.F.kp DOr.b .nil pass0 (pa_cons (pv 1) pa_nil)))
  (pss_cons (ps_asg (pe_tup (pa_cons (pe_callB call_len_seq (by rfl) m_len PySem.boot_len (pa_cons (pv 2) pa_nil)) (pa_cons (pe_op op_add pe_int (pe_call GA hr (by rfl) DA.g DA.F.kp DA.b .nil pass0 (pa_cons (pv 1) (pa_cons pe_int pa_nil)))) pa_nil))) (pg_tup (by rfl) (pgs_cons (pg_name (i := 3) nd rfl (Or.inr rfl)) (pgs_cons (pg_name (i := 4) nd rfl (Or.inl rfl)) pgs_nil))))
  (pss_cons (ps_set (i := 5) nd rfl (.inr rfl) (pe_callTy call_tuple_of (by rfl) m_tuple boot_tuple (pa_cons (pe_lc (own := [("level", 12)]) (g := gName 12) (tt := tYes) (by rfl) nd (pi_range1 (by rfl) m_range (pa_cons (pv 3) pa_nil)) (blkOk_by (own := [("level", 12)]) (N := ["script", "deal", "order", "many", "threads", "one", "other", "record", "ends", "bad", "tick", "cut", "level", "due", "sight", "lower", "turn", "stream", "thread", "pair", "spot"]) (sc := defScope s_law) (by decide +kernel)) (fun _ _ _ _ _ => (pg_name (i := 12) nd rfl (Or.inl rfl))) (fun _ _ _ _ _ => pts_nil) (fun _ _ _ _ _ => (pe_callTy (call_tuple_ofK K (by rfl)) (by rfl) m_tuple boot_tuple (pa_cons (pe_lc (own := [("turn", 16)]) (g := gName 16) (tt := tYes) (by rfl) nd (pi_range1 (by rfl) m_range (pa_cons (pe_call GA hr (by rfl) DA.g DA.F.kp DA.b .nil pass0 (pa_cons (pv 1) (pa_cons pe_int pa_nil))) pa_nil)) (blkOk_any (own := [("turn", 16)]) (N := ["script", "deal", "order", "many", "threads", "one", "other", "record", "ends", "bad", "tick", "cut", "level", "due", "sight", "lower", "turn", "stream", "thread", "pair", "spot"])  (by kernel_rfl)) (fun _ _ _ _ _ => (pg_name (i := 16) nd rfl (Or.inl rfl))) (fun _ _ _ _ _ => pts_nil) (fun _ _ _ _ _ => (pe_call GA hr (by rfl) DA.g DA.F.kp DA.b .nil pass0 (pa_cons (pv 1) (pa_cons pe_int pa_nil))))) pa_nil)))) pa_nil)))
  (pss_cons (ps_set (i := 6) nd rfl (.inr rfl) (pe_callTy call_tuple_of (by rfl) m_tuple boot_tuple (pa_cons (pe_lc (own := [("stream", 17)]) (g := gName 17) (tt := tYes) (by rfl) nd (pi_tup (pv 5)) (blkOk_by (own := [("stream", 17)]) (N := ["script", "deal", "order", "many", "threads", "one", "other", "record", "ends", "bad", "tick", "cut", "level", "due", "sight", "lower", "turn", "stream", "thread", "pair", "spot"]) (sc := defScope s_law) (by decide +kernel)) (fun _ _ _ _ _ => (pg_name (i := 17) nd rfl (Or.inl rfl))) (fun _ _ _ _ _ => pts_nil) (fun _ _ _ _ _ => (pe_ifExp (pt_cmpR op_gt (pe_call GA hr (by rfl) DA.g DA.F.kp DA.b .nil pass0 (pa_cons (pv 1) (pa_cons pe_int pa_nil))) pe_int (nomark _)) (pv 17) (pe_op (op_catAK K (by rfl)) (pv 17) (pe_tup (pa_cons pe_int pa_nil)))))) pa_nil)))
  (pss_cons (ps_set (i := 7) nd rfl (.inl rfl) (pe_call GRc hr (by rfl) DRc.g DRc.F.kp DRc.b .nil pass0 (pa_cons (pv 1) (pa_cons (pv 3) (pa_cons (pv 4) pa_nil)))))
  (pss_cons (ps_set (i := 8) nd rfl (.inl rfl) (pe_callTy call_tuple_of (by rfl) m_tuple boot_tuple (pa_cons (pe_lc (own := [("thread", 18)]) (g := gName 18) (tt := tYes) (by rfl) nd (pi_range1 (by rfl) m_range (pa_cons (pv 4) pa_nil)) (blkOk_by (own := [("thread", 18)]) (N := ["script", "deal", "order", "many", "threads", "one", "other", "record", "ends", "bad", "tick", "cut", "level", "due", "sight", "lower", "turn", "stream", "thread", "pair", "spot"]) (sc := defScope s_law) (by decide +kernel)) (fun _ _ _ _ _ => (pg_name (i := 18) nd rfl (Or.inl rfl))) (fun _ _ _ _ _ => pts_nil) (fun _ _ _ _ _ => (pe_callTy (call_tuple_ofK K (by rfl)) (by rfl) m_tuple boot_tuple (pa_cons (pe_lc (own := [("level", 12)]) (g := gName 12)  (by rfl) nd (pi_range1 (by rfl) m_range (pa_cons (pv 3) pa_nil)) (blkOk_any (own := [("level", 12)]) (N := ["script", "deal", "order", "many", "threads", "one", "other", "record", "ends", "bad", "tick", "cut", "level", "due", "sight", "lower", "turn", "stream", "thread", "pair", "spot"])  (by kernel_rfl)) (fun _ _ _ _ _ => (pg_name (i := 12) nd rfl (Or.inl rfl))) (fun _ _ _ _ _ => pts_one (pt_cmpR op_eq (pe_call GA hr (by rfl) DA.g DA.F.kp DA.b .nil pass0 (pa_cons (pv 1) (pa_cons pe_int pa_nil))) pe_int (nomark _))) (fun _ _ _ _ _ => (pv 12))) pa_nil)))) pa_nil)))
  (pss_cons (ps_if (PW.pt (pw_or (pt_cmpR op_isnot_bl (pe_callKw Gin hr (by rfl) Din.g Din.F.kp kw_is_input pass0 (pk_cons (pv 5) (pk_cons (pv 2) pk_nil))) pe_bl (nomark _)) (pw_or1 (pt_cmpR op_isnot_bl (pe_callKw Gre hr (by rfl) Dre.g Dre.F.kp kw_is_record pass0 (pk_cons (pv 7) (pk_cons (pv 2) pk_nil))) pe_bl (nomark _)))))
    (pss_one (ps_ret pe_bl))
    pss_nil)
  (pss_cons (ps_set (i := 9) nd rfl (.inl rfl) (pe_lst (pa_cons (pe_callTy call_list_of (by rfl) m_list boot_list (pa_cons (pv 5) pa_nil)) (pa_cons (pe_op op_catA (pv 5) (pe_tup (pa_cons (pe_tup pa_nil) pa_nil))) (pa_cons (pe_slice sl_tupA (pv 5) (po_some pe_int) po_none) (pa_cons (pe_op op_repA (pe_tup (pa_cons pe_non pa_nil)) (pv 3)) (pa_cons (pe_op op_catA (pe_slice sl_tupA (pv 5) (po_some pe_int) po_none) (pe_tup (pa_cons (pe_tup (pa_cons (pe_un un_neg pe_int) pa_nil)) pa_nil))) (pa_cons (pe_op op_catA (pe_slice sl_tupA (pv 5) (po_some pe_int) po_none) (pe_tup (pa_cons (pe_tup (pa_cons pe_bl pa_nil)) pa_nil))) (pa_cons (pe_op op_catA (pe_slice sl_tupA (pv 5) (po_some pe_int) po_none) (pe_tup (pa_cons (pe_lst (pa_cons pe_int pa_nil)) pa_nil))) (pa_cons pe_non pa_nil))))))))))
  (pss_cons (ps_if (PW.pt (pw_or (pt_cmpR op_isnot_bl (pe_call Gin hr (by rfl) Din.g Din.F.kp Din.b .nil pass0 (pa_cons (pv 2) (pa_cons (pe_call GO hr (by rfl) DO.g DO.F.kp DO.b .nil pass0 (pa_cons (pv 1) (pa_cons (pv 9) pa_nil))) pa_nil))) pe_bl (nomark _)) (pw_or1 (pt_cmpR op_isnot_bl (pe_call Gre hr (by rfl) Dre.g Dre.F.kp Dre.b .nil pass0 (pa_cons (pv 2) (pa_cons (pe_call GB hr (by rfl) DB.g DB.F.kp DB.b .nil pass0 (pa_cons (pv 1) (pa_cons (pv 7) (pa_cons (pv 3) pa_nil)))) pa_nil))) pe_bl (nomark _)))))
    (pss_one (ps_ret pe_bl))
    pss_nil)
  (pss_cons (ps_set (i := 10) nd rfl (.inr rfl) (pe_call GA hr (by rfl) DA.g DA.F.kp DA.b .nil pass0 (pa_cons (pv 1) (pa_cons pe_int pa_nil))))
  (pss_cons (ps_set (i := 11) nd rfl (.inl rfl) (pe_callTy call_tuple_of (by rfl) m_tuple boot_tuple (pa_cons (pe_lc (own := [("pair", 19)]) (g := gName 19)  (by rfl) nd (pi_tup (pv 7)) (blkOk_by (own := [("pair", 19)]) (N := ["script", "deal", "order", "many", "threads", "one", "other", "record", "ends", "bad", "tick", "cut", "level", "due", "sight", "lower", "turn", "stream", "thread", "pair", "spot"]) (sc := defScope s_law) (by decide +kernel)) (fun _ _ _ _ _ => (pg_name (i := 19) nd rfl (Or.inl rfl))) (fun _ _ _ _ _ => pts_one (pt_cmpR op_lt (pe_ix (ix_tupK K (by rfl)) (pv 19) pe_int (fun _ _ => rfl)) (pv 10) (nomark _))) (fun _ _ _ _ _ => (pv 19))) pa_nil)))
  (pss_cons (ps_if (pt_cmpR op_ne (pe_callB (call_repr_D hg hu) (by rfl) m_repr PyProof.Rows.boot_repr (pa_cons (pe_callKw Gcu hr (by rfl) Dcu.g Dcu.F.kp kw_cut_record pass0 (pk_cons (pv 10) (pk_cons (pv 7) pk_nil))) pa_nil)) (pe_callB (call_repr_D hg hu) (by rfl) m_repr PyProof.Rows.boot_repr (pa_cons (pv 11) pa_nil)) (nomark _))
    (pss_one (ps_ret pe_bl))
    pss_nil)
  (pss_cons (ps_for PassesOwn.never rfl (pi_range1 (by rfl) m_range (pa_cons (pv 3) pa_nil)) (pg_name (i := 12) nd rfl (Or.inl rfl))
    (pss_cons (ps_set (i := 13) nd rfl (.inl rfl) (pe_cmpR (op_eqD hu) (pe_lc (own := [("spot", 20)]) (g := gName 20)  (by rfl) nd (pi_tup (pe_ix ix_tup (pv 2) (pv 12) (fun _ _ => rfl))) (blkOk_by (own := [("spot", 20)]) (N := ["script", "deal", "order", "many", "threads", "one", "other", "record", "ends", "bad", "tick", "cut", "level", "due", "sight", "lower", "turn", "stream", "thread", "pair", "spot"]) (sc := defScope s_law) (by decide +kernel)) (fun _ _ _ _ _ => (pg_name (i := 20) nd rfl (Or.inl rfl))) (fun _ _ _ _ _ => pts_one (pt_cmpR (op_neDK K (by rfl) hu) (pe_ix (ix_tupK K (by rfl)) (pv 5) (pv 20) (fun _ _ => rfl)) (pe_ix (ix_tupK K (by rfl)) (pv 6) (pv 20) (fun _ _ => rfl)) (nomark _))) (fun _ _ _ _ _ => (pv 20))) (pe_lst pa_nil) (nomark _)))
      (pss_cons (ps_if (pt_cmpR op_ne (pe_callB call_repr_bl (by rfl) m_repr PyProof.Rows.boot_repr (pa_cons (pe_callKw Gal hr (by rfl) Dal.g Dal.F.kp kw_alike_inputs pass0 (pk_cons (pv 6) (pk_cons (pv 5) (pk_cons (pv 12) (pk_cons (pv 2) pk_nil))))) pa_nil)) (pe_callB call_repr_bl (by rfl) m_repr PyProof.Rows.boot_repr (pa_cons (pv 13) pa_nil)) (nomark _))
        (pss_one (ps_ret pe_bl))
        pss_nil)
      (pss_cons (ps_set (i := 14) nd rfl (.inl rfl) (pe_call GSn hr (by rfl) DSn.g DSn.F.kp DSn.b .nil pass0 (pa_cons (pv 2) (pa_cons (pv 12) (pa_cons (pv 8) (pa_cons (pv 7) pa_nil))))))
      (pss_cons (ps_if (pt_cmpR op_ne (pe_callB (call_repr_D hg hu) (by rfl) m_repr PyProof.Rows.boot_repr (pa_cons (pe_callKw Gse hr (by rfl) Dse.g Dse.F.kp kw_seen pass0 (pk_cons (pv 7) (pk_cons (pv 8) (pk_cons (pv 12) (pk_cons (pv 2) pk_nil))))) pa_nil)) (pe_callB (call_repr_D hg hu) (by rfl) m_repr PyProof.Rows.boot_repr (pa_cons (pv 14) pa_nil)) (nomark _))
        (pss_one (ps_ret pe_bl))
        pss_nil)
      (pss_cons (ps_if (pt_cmpR (op_neD hu) (pe_call Gse hr (by rfl) Dse.g Dse.F.kp Dse.b .nil pass0 (pa_cons (pv 2) (pa_cons (pv 12) (pa_cons (pv 8) (pa_cons (pe_call Gcu hr (by rfl) Dcu.g Dcu.F.kp Dcu.b .nil pass0 (pa_cons (pv 7) (pa_cons (pv 10) pa_nil))) pa_nil))))) (pe_call Gcu hr (by rfl) Dcu.g Dcu.F.kp Dcu.b .nil pass0 (pa_cons (pv 14) (pa_cons (pv 10) pa_nil))) (nomark _))
        (pss_one (ps_ret pe_bl))
        pss_nil)
      (pss_one (ps_for PassesOwn.never rfl (pi_tup (pe_ix ix_tup (pv 2) (pv 12) (fun _ _ => rfl))) (pg_name (i := 15) nd rfl (Or.inl rfl))
        (pss_one (ps_if (pt_cmpR (op_neD hu) (pe_call Gse hr (by rfl) Dse.g Dse.F.kp Dse.b .nil pass0 (pa_cons (pv 2) (pa_cons (pv 15) (pa_cons (pv 8) (pa_cons (pe_call Gse hr (by rfl) Dse.g Dse.F.kp Dse.b .nil pass0 (pa_cons (pv 2) (pa_cons (pv 12) (pa_cons (pv 8) (pa_cons (pv 7) pa_nil))))) pa_nil))))) (pe_call GSn hr (by rfl) DSn.g DSn.F.kp DSn.b .nil pass0 (pa_cons (pv 2) (pa_cons (pv 15) (pa_cons (pv 8) (pa_cons (pv 7) pa_nil))))) (nomark _))
            (pss_one (ps_ret pe_bl))
            pss_nil))))))))))
  (pss_one (ps_ret pe_bl)))))))))))))))), ?_⟩
  refine ⟨.ref a, rfl, a, ns, 4, rfl, hS, hlen, by decide, by decide, fun d l H1 nd0 nl0 hD1 s1 => ?_⟩
  -- the order
  refine ⟨.ref d, rfl, H, d, l, rfl, s1, nd0, nl0, hD1, fun n O T2 H2 vO n1 n5 ok tr x2 hD2 hO => ?_⟩
  obtain ⟨ao, xo, rfl, eo, ho⟩ := id hO
  have lo : xo.length = n := by rw [ho.len, List.length_map, ok.len]
  have t2 := x2.td hD1 nd0 nl0
  refine ⟨.ref ao, rfl, ao, xo, rfl, .inr (.inl (.inl (x2.th _ _ eo))), ?_⟩
  rw [lo]
  refine ⟨.ref d, rfl, d, l, 3, rfl, hD2, by decide, by decide, fun k H3 k0 k1 hD3 hB3 => ⟨1, k, rfl, rfl, ?_⟩⟩
  obtain ⟨k, rfl⟩ : ∃ j : Nat, k = (j : Int) := ⟨k.toNat, by omega⟩
  obtain ⟨th, hth⟩ : ∃ th : Nat, th = 1 + k := ⟨_, rfl⟩
  have en : V.int (1 + (k : Int)) = V.int (th : Int) := congrArg V.int (by omega)
  rw [show (fun i j : Int => V.int (i + j)) 1 (k : Int) = V.int (th : Int) from en]
  have x3 := ExD.turn x2.th t2.1 t2.2 hB3
  refine ⟨by show 2 ≤ sizeLine; omega, fun m nm => ⟨m, _, rfl, .inl (.inl upd_same), rfl, _, _, rfl, _, _, rfl, ⟨rfl, ?_⟩⟩⟩
  have X3 := ExD.trans hD1 (ExD.trans hD1 x2 hD2 x3) hD3 (Ext.more x3.th (same_new (o := .tup [.int (n : Int), .int (th : Int)]) nm)).toD
  replace hD3 := hD3.same (same_new (o := .tup [.int (n : Int), .int (th : Int)]) nm)
  generalize upd H3 m (.tup [.int (n : Int), .int (th : Int)]) = H3' at X3 hD3 ⊢
  clear hB3 x3 nm m en
  -- one
  refine ⟨.int (n : Int), rfl, (n : Int), rfl, by omega, by omega, fun L nL => ?_⟩
  refine lc_draw (T := T2) (fun i es => ∃ A : List (List Nat), es = A.map natsT ∧ A.length = i ∧ ∀ l ∈ A, l.length ≤ 50 ∧ ∀ x ∈ l, x < 1000) X3.th t2.1 t2.2 hD3 nL (by rw [List.length_map, List.length_range]; omega) givT_range ⟨[], rfl, rfl, fun _ h => absurd h List.not_mem_nil⟩ (fun i e0 x T4 H4 es R R0 he hi hx x4 td4 tl4 hD4 hPi r1 r0 => ?_) (fun T4 H4 zs es x4 hD4 hzs hda hPi => ?_)
  · obtain ⟨A, rfl, hAl, hA⟩ := hPi
    refine ⟨rfl, ?_⟩
    refine ⟨.ref d, rfl, d, l, 3, rfl, hD4, by decide, by decide, fun c H5 c0 c1 hD5 hB5 => ?_⟩
    obtain ⟨c, rfl⟩ : ∃ j : Nat, c = (j : Int) := ⟨c.toNat, by omega⟩
    have x5 := ExD.turn x4.th td4 tl4 hB5
    refine ⟨_, rfl, by omega, by omega, fun L2 nL2 => ?_⟩
    refine lc_draw (T := T4) (fun i es => ∃ B : List Nat, es = B.map natD ∧ B.length = i ∧ ∀ x ∈ B, x < 1000) x5.th td4 tl4 hD5 nL2 (by rw [List.length_map, List.length_range]; omega) givT_range ⟨[], rfl, rfl, fun _ h => absurd h List.not_mem_nil⟩ (fun i2 e2 y T6 H6 es2 R2 R20 he2 hi2 hy x6 td6 tl6 hD6 hPi2 p1 p0 => ?_) (fun T6 H6 us es2 x6 hD6 hus hdu hPi2 => ?_)
    · obtain ⟨B, rfl, hBl, hB⟩ := hPi2
      refine ⟨rfl, .ref d, rfl, d, l, 4, rfl, hD6, by decide, by decide, fun b H7 b0 b1 hD7 hB7 => ?_⟩
      obtain ⟨b, rfl⟩ : ∃ j : Nat, b = (j : Int) := ⟨b.toNat, by omega⟩
      refine p1 _ _ _ (natD b) (ExD.turn x6.th td6 tl6 hB7) hD7 rfl ⟨B ++ [b], by rw [List.map_append]; rfl, by rw [List.length_append, List.length_singleton, hBl], fun x hx => ?_⟩
      rcases List.mem_append.mp hx with z | z
      · exact hB x z
      · rw [List.mem_singleton.mp z]; omega
    · obtain ⟨B, rfl, hBl, hB⟩ := hPi2
      rw [List.length_map, List.length_range] at hBl
      refine ⟨L2, us, rfl, .inl ⟨.inl (.inl (x6.th _ _ hus)), fun t nt => ?_⟩⟩
      have x7 := Ext.new (o := .tup us) x6.th nt
      refine r1 _ _ _ (natsT B) (ExD.trans hD4 (ExD.trans hD4 x5 hD5 x6) hD6 x7.toD) (hD6.same x7.hh) ⟨t, us, rfl, upd_same, hdu.keep x7.tt⟩ ⟨A ++ [B], by rw [List.map_append]; rfl, by rw [List.length_append, List.length_singleton, hAl], fun l hl => ?_⟩
      rcases List.mem_append.mp hl with z | z
      · exact hA l z
      · rw [List.mem_singleton.mp z]; exact ⟨by omega, hB⟩
  obtain ⟨A, rfl, lA, hA⟩ := hPi
  rw [List.length_map, List.length_range] at lA
  refine ⟨L, zs, rfl, .inl ⟨.inl (.inl (x4.th _ _ hzs)), fun a1 na1 => ?_⟩⟩
  have y5 := Ext.new (o := .tup zs) x4.th na1
  have ea1 := @upd_same T4 a1 (.tup zs)
  have X5 := ExD.trans hD1 (ExD.trans hD1 X3 hD3 x4) hD4 y5.toD
  have hD5 := hD4.same y5.hh
  have ho5 := ho.keep (x4.tt.trans y5.tt)
  have eo5 := y5.tt _ _ (x4.tt _ _ eo)
  replace hda := hda.keep y5.tt
  generalize upd T4 a1 (.tup zs) = T5 at y5 ea1 X5 ho5 eo5 hda
  generalize upd H4 a1 (.tup zs) = H5 at y5 X5 hD5 ⊢
  have t5 := X5.td hD1 nd0 nl0
  clear y5 x4 hzs hD4 na1 nL
  -- other
  refine ⟨.ref a1, rfl, a1, rfl, ⟨_, .inl (.inl (X5.th _ _ ea1))⟩, fun L nL => ?_⟩
  refine lc_draw (T := T5) (fun i es => ∃ B : List (List Nat), es = B.map natsT ∧ B.length = i ∧ ∀ l ∈ B, l.length ≤ 60 ∧ ∀ x ∈ l, x < 1000) X5.th t5.1 t5.2 hD5 nL (by rw [List.length_map]; omega) (givT_tup ea1 hda) ⟨[], rfl, rfl, fun _ h => absurd h List.not_mem_nil⟩ (fun i e0 x T6 H6 es R R0 he hi hx x6 td6 tl6 hD6 hPi r1 r0 => ?_) (fun T6 H6 us es x6 hD6 hus hdu hPi => ?_)
  · obtain ⟨B, rfl, hBl, hB⟩ := hPi
    obtain ⟨st, hst, rfl⟩ : ∃ st, A[i]? = some st ∧ e0 = natsT st := by
      rw [List.getElem?_map] at he
      cases e : A[i]? with
      | none => rw [e] at he; cases he
      | some st => rw [e] at he; exact ⟨st, rfl, (Option.some.inj he).symm⟩
    obtain ⟨q1, q2⟩ := hA st (List.mem_of_getElem? hst)
    refine ⟨rfl, .ref d, rfl, d, l, 3, rfl, hD6, by decide, by decide, fun c H7 c0 c1 hD7 hB7 => ⟨_, _, rfl, rfl, _, rfl, ite2 (fun e => ?_) (fun e => ?_)⟩⟩
    · refine ⟨x, rfl, r1 T6 H7 x (natsT st) (ExD.turn x6.th td6 tl6 hB7) hD7 hx ⟨B ++ [st], by rw [List.map_append]; rfl, by rw [List.length_append, List.length_singleton, hBl], fun l hl => ?_⟩⟩
      rcases List.mem_append.mp hl with z | z
      · exact hB l z
      · rw [List.mem_singleton.mp z]; exact ⟨by omega, q2⟩
    · obtain ⟨ax, xx, rfl, ex, hxx⟩ := hx
      have x7 := ExD.turn x6.th td6 tl6 hB7
      refine ⟨.ref ax, rfl, by show 1 ≤ sizeLine; omega, fun b nb => ?_⟩
      have x8 := Ext.new (o := .tup [.int 1]) x7.th nb
      have e8 := @upd_same T6 b (.tup [.int 1])
      have lx : xx.length = st.length := by rw [hxx.len, List.length_map]
      refine catA_da x8.th (x8.tt _ _ ex) e8 (by show xx.length + 1 ≤ sizeLine; omega) (fun c9 T9 H9 x9 e9 => ?_)
      refine r1 T9 H9 _ (natsT (st ++ [1])) (ExD.trans hD6 x7 hD7 (x8.trans x9).toD) (hD7.same (x8.trans x9).hh) ⟨c9, _, rfl, e9, ?_⟩ ⟨B ++ [st ++ [1]], by rw [List.map_append]; rfl, by rw [List.length_append, List.length_singleton, hBl], fun l hl => ?_⟩
      · rw [List.map_append]
        exact (hxx.keep (x8.trans x9).tt).app (.one rfl)
      · rcases List.mem_append.mp hl with z | z
        · exact hB l z
        · rw [List.mem_singleton.mp z]
          refine ⟨by rw [List.length_append, List.length_singleton]; omega, fun y hy => ?_⟩
          rcases List.mem_append.mp hy with z | z
          · exact q2 y z
          · rw [List.mem_singleton.mp z]; decide
  obtain ⟨B, rfl, lB, hB⟩ := hPi
  rw [List.length_map] at lB
  refine ⟨L, us, rfl, .inl ⟨.inl (.inl (x6.th _ _ hus)), fun a2 na2 => ?_⟩⟩
  have y7 := Ext.new (o := .tup us) x6.th na2
  have ea2 := @upd_same T6 a2 (.tup us)
  have X7 := ExD.trans hD1 (ExD.trans hD1 X5 hD5 x6) hD6 y7.toD
  have hD7 := hD6.same y7.hh
  replace ho5 := ho5.keep (x6.tt.trans y7.tt)
  replace eo5 := y7.tt _ _ (x6.tt _ _ eo5)
  replace ea1 := y7.tt _ _ (x6.tt _ _ ea1)
  replace hda := hda.keep (x6.tt.trans y7.tt)
  replace hdu := hdu.keep y7.tt
  generalize upd T6 a2 (.tup us) = T7 at y7 ea2 X7 ho5 eo5 hda hdu ea1
  generalize upd H6 a2 (.tup us) = H7 at y7 X7 hD7 ⊢
  have t7 := X7.td hD1 nd0 nl0
  clear y7 x6 hus hD6 na2 nL hD5 X5 t5
  -- the record
  refine ⟨.ref d, rfl, .int (n : Int), rfl, .int (th : Int), rfl, T7, d, l, n, th, rfl, X7.th, t7.1, t7.2, hD7, by omega, by omega, by omega, by omega, fun r T8 H8 v8 hr8 x8 hD8 hv8 => ?_⟩
  obtain ⟨ar, xr, rfl, ear, hxr⟩ := id hv8
  have X8 := ExD.trans hD1 X7 hD7 x8
  have t8 := X8.td hD1 nd0 nl0
  replace ho5 := ho5.keep x8.tt
  replace eo5 := x8.tt _ _ eo5
  replace ea1 := x8.tt _ _ ea1
  replace ea2 := x8.tt _ _ ea2
  replace hda := hda.keep x8.tt
  replace hdu := hdu.keep x8.tt
  clear x8 hD7 X7 t7
  -- ends
  refine ⟨.int (th : Int), rfl, (th : Int), rfl, by omega, by omega, fun L nL => ?_⟩
  refine lc_draw (T := T8) (fun i es => ∃ B : List (List Nat), es = B.map natsT ∧ B.length = i ∧ ∀ l ∈ B, l.length ≤ 1000) X8.th t8.1 t8.2 hD8 nL (by rw [List.length_map, List.length_range]; omega) givT_range ⟨[], rfl, rfl, fun _ h => absurd h List.not_mem_nil⟩ (fun i e0 x T9 H9 es R R0 he hi hx x9 td9 tl9 hD9 hPi r1 r0 => ?_) (fun T9 H9 es' es x9 hD9 hes hde hPi => ?_)
  · obtain ⟨B', rfl, hBl, hB'⟩ := hPi
    refine ⟨rfl, .int (n : Int), rfl, (n : Int), rfl, by omega, by omega, fun L2 nL2 => ?_⟩
    refine lc_draw (T := T9) (fun i es => ∃ B : List Nat, es = B.map natD ∧ B.length ≤ i) x9.th td9 tl9 hD9 nL2 (by rw [List.length_map, List.length_range]; omega) givT_range ⟨[], rfl, Nat.le_refl _⟩ (fun i2 e2 y T10 H10 es2 R2 R20 he2 hi2 hy x10 td10 tl10 hD10 hPi2 p1 p0 => ?_) (fun T10 H10 us2 es2 x10 hD10 hus2 hdu2 hPi2 => ?_)
    · obtain ⟨B2, rfl, hB2⟩ := hPi2
      refine ⟨rfl, .ref d, rfl, d, l, 3, rfl, hD10, by decide, by decide, fun c H11 c0 c1 hD11 hB11 => ⟨rfl, _, rfl, ite2 (fun e => ?_) (fun e => ?_)⟩⟩
      · obtain ⟨j, rfl⟩ : ∃ j : Nat, e2 = natD j := by
          rw [List.getElem?_map] at he2
          cases e : (List.range ((n : Int).toNat))[i2]? with
          | none => rw [e] at he2; cases he2
          | some j =>
            rw [e] at he2
            refine ⟨j, ?_⟩
            rw [← Option.some.inj he2]
            show PyData.int (0 + (j : Int)) = PyData.int (j : Int)
            rw [Int.zero_add]
        exact ⟨y, rfl, p1 T10 H11 y (natD j) (ExD.turn x10.th td10 tl10 hB11) hD11 hy ⟨B2 ++ [j], by rw [List.map_append]; rfl, by rw [List.length_append, List.length_singleton]; omega⟩⟩
      · exact p0 T10 H11 (ExD.turn x10.th td10 tl10 hB11) hD11 ⟨B2, rfl, by omega⟩
    · obtain ⟨B2, rfl, hB2⟩ := hPi2
      rw [List.length_map, List.length_range] at hB2
      refine ⟨L2, us2, rfl, .inl ⟨.inl (.inl (x10.th _ _ hus2)), fun t nt => ?_⟩⟩
      have x11 := Ext.new (o := .tup us2) x10.th nt
      refine r1 _ _ _ (natsT B2) (ExD.trans hD9 x10 hD10 x11.toD) (hD10.same x11.hh) ⟨t, us2, rfl, upd_same, hdu2.keep x11.tt⟩ ⟨B' ++ [B2], by rw [List.map_append]; rfl, by rw [List.length_append, List.length_singleton, hBl], fun l hl => ?_⟩
      rcases List.mem_append.mp hl with z | z
      · exact hB' l z
      · rw [List.mem_singleton.mp z]; omega
  obtain ⟨En, rfl, lE, hE⟩ := hPi
  rw [List.length_map, List.length_range] at lE
  refine ⟨L, es', rfl, .inl ⟨.inl (.inl (x9.th _ _ hes)), fun ae nae => ?_⟩⟩
  have y10 := Ext.new (o := .tup es') x9.th nae
  have eae := @upd_same T9 ae (.tup es')
  have X10 := ExD.trans hD1 (ExD.trans hD1 X8 hD8 x9) hD9 y10.toD
  have hD10 := hD9.same y10.hh
  have s10 := x9.tt.trans y10.tt
  replace ho5 := ho5.keep s10
  replace eo5 := s10 _ _ eo5
  replace ea1 := s10 _ _ ea1
  replace ea2 := s10 _ _ ea2
  replace ear := s10 _ _ ear
  replace hda := hda.keep s10
  replace hdu := hdu.keep s10
  replace hxr := hxr.keep s10
  replace hde := hde.keep y10.tt
  generalize upd T9 ae (.tup es') = T10 at y10 eae X10 ho5 eo5 hda hdu ea1 ea2 ear hxr hde s10
  generalize upd H9 ae (.tup es') = H10 at y10 X10 hD10 ⊢
  have t10 := X10.td hD1 nd0 nl0
  clear y10 x9 hes hD9 nae nL hD8 X8 t8 s10 hv8
  have tabs10 : ∀ p ∈ cs, T10 p.2 = some (tabX p.2) := fun p hp => X10.tt _ _ (hT p hp)
  have hOd : Da T10 (ordD O) (.ref ao) := ⟨ao, xo, rfl, eo5, ho5⟩
  have hAd : Da T10 (ordD A) (.ref a1) := ⟨a1, zs, rfl, ea1, hda⟩
  have hBd : Da T10 (ordD B) (.ref a2) := ⟨a2, us, rfl, ea2, hdu⟩
  have hRd : Da T10 (recD r) (.ref ar) := ⟨ar, xr, rfl, ear, hxr⟩
  have hEd : Da T10 (ordD En) (.ref ae) := ⟨ae, es', rfl, eae, hde⟩
  have okn := ok.len
  have lA' : A.length = O.length := by omega
  have lB' : B.length = O.length := by omega
  refine ⟨.ref a1, rfl, .ref ao, rfl, T10, [ordD O, ordD A], true, X10.th, .two hOd hAd, ⟨O, ordD A, rfl, (input_ok A lA').symm⟩, ⟨X10.th _ _ (tabs10 _ tin), X10.th _ _ (tabs10 _ tM)⟩, fun H11 T11 x11 => ⟨true, true, rfl, rfl, _, rfl, iteFe rfl ?_⟩⟩
  refine ⟨.ref ar, rfl, .ref ao, rfl, T11, [ordD O, recD r], true, x11.th, .two (Da.keep x11.tt _ _ hOd) (Da.keep x11.tt _ _ hRd), ⟨O, recD r, rfl, fun xs e => (by cases e; exact pairs_ok r), by rw [okn]; exact (rec_ok hr8).symm⟩, trivial, fun H12 T12 x12 => ⟨true, true, rfl, rfl, _, rfl, iteFe rfl ?_⟩⟩
  have z0 := x11.trans x12
  have lzs : zs.length = n := by rw [hda.len, List.length_map]; omega
  refine ⟨.ref a1, rfl, a1, zs, rfl, .inr (.inl (.inl (z0.th _ _ (z0.tt _ _ ea1)))), fun m1 nm1 => ?_⟩
  have y1 := Ext.new (o := (.lst zs)) z0.th nm1
  have em1 := @upd_same T12 m1 (.lst zs)
  generalize upd T12 m1 (.lst zs) = TB1 at y1 em1
  generalize upd H12 m1 (.lst zs) = HB1 at y1 ⊢
  have z1 := z0.trans y1
  refine ⟨.ref a1, rfl, ?_⟩
  refine ⟨Nat.zero_le _, fun m2 nm2 => ?_⟩
  have y2 := Ext.new (o := (.tup [])) z1.th nm2
  have em2 := @upd_same TB1 m2 (.tup [])
  generalize upd TB1 m2 (.tup []) = TB2 at y2 em2
  generalize upd HB1 m2 (.tup []) = HB2 at y2 ⊢
  have z2 := z1.trans y2
  refine ⟨by show 1 ≤ sizeLine; omega, fun m3 nm3 => ?_⟩
  have y3 := Ext.new (o := (.tup [.ref m2])) z2.th nm3
  have em3 := @upd_same TB2 m3 (.tup [.ref m2])
  generalize upd TB2 m3 (.tup [.ref m2]) = TB3 at y3 em3
  generalize upd HB2 m3 (.tup [.ref m2]) = HB3 at y3 ⊢
  have z3 := z2.trans y3
  refine catA_da z3.th (z3.tt _ _ ea1) em3 (by show zs.length + 1 ≤ sizeLine; omega) (fun m4 TB4 HB4 y4 em4 => ?_)
  have z4 := z3.trans y4
  refine ⟨.ref a1, rfl, 1, rfl, noPart ?_⟩
  refine slA_da z4.th (z4.tt _ _ ea1) (fun m5 TB5 HB5 y5 em5 => ?_)
  rw [show cutV zs (some 1) none = zs.drop 1 from cutV_drop zs 1 (by omega)] at em5
  have z5 := z4.trans y5
  refine ⟨by show 1 ≤ sizeLine; omega, fun m6 nm6 => ?_⟩
  have y6 := Ext.new (o := (.tup [.non])) z5.th nm6
  have em6 := @upd_same TB5 m6 (.tup [.non])
  generalize upd TB5 m6 (.tup [.non]) = TB6 at y6 em6
  generalize upd HB5 m6 (.tup [.non]) = HB6 at y6 ⊢
  have z6 := z5.trans y6
  refine ⟨.int (n : Int), rfl, repA_da z6.th em6 (fun z => by cases z) (by decide) n1 (by omega) (fun m7 TB7 HB7 y7 em7 => ?_)⟩
  have z7 := z6.trans y7
  refine ⟨.ref a1, rfl, 1, rfl, noPart ?_⟩
  refine slA_da z7.th (z7.tt _ _ ea1) (fun m8 TB8 HB8 y8 em8 => ?_)
  rw [show cutV zs (some 1) none = zs.drop 1 from cutV_drop zs 1 (by omega)] at em8
  have z8 := z7.trans y8
  refine ⟨1, rfl, ?_⟩
  refine ⟨by show 1 ≤ sizeLine; omega, fun m9 nm9 => ?_⟩
  have y9 := Ext.new (o := (.tup [.int (-1)])) z8.th nm9
  have em9 := @upd_same TB8 m9 (.tup [.int (-1)])
  generalize upd TB8 m9 (.tup [.int (-1)]) = TB9 at y9 em9
  generalize upd HB8 m9 (.tup [.int (-1)]) = HB9 at y9 ⊢
  have z9 := z8.trans y9
  refine ⟨by show 1 ≤ sizeLine; omega, fun m10 nm10 => ?_⟩
  have y10 := Ext.new (o := (.tup [.ref m9])) z9.th nm10
  have em10 := @upd_same TB9 m10 (.tup [.ref m9])
  generalize upd TB9 m10 (.tup [.ref m9]) = TB10 at y10 em10
  generalize upd HB9 m10 (.tup [.ref m9]) = HB10 at y10 ⊢
  have z10 := z9.trans y10
  refine catA_da z10.th ((y9.tt.trans y10.tt) _ _ em8) em10 (by rw [List.length_drop]; show zs.length - 1 + 1 ≤ sizeLine; omega) (fun m11 TB11 HB11 y11 em11 => ?_)
  have z11 := z10.trans y11
  refine ⟨.ref a1, rfl, 1, rfl, noPart ?_⟩
  refine slA_da z11.th (z11.tt _ _ ea1) (fun m12 TB12 HB12 y12 em12 => ?_)
  rw [show cutV zs (some 1) none = zs.drop 1 from cutV_drop zs 1 (by omega)] at em12
  have z12 := z11.trans y12
  refine ⟨by show 1 ≤ sizeLine; omega, fun m13 nm13 => ?_⟩
  have y13 := Ext.new (o := (.tup [.bl true])) z12.th nm13
  have em13 := @upd_same TB12 m13 (.tup [.bl true])
  generalize upd TB12 m13 (.tup [.bl true]) = TB13 at y13 em13
  generalize upd HB12 m13 (.tup [.bl true]) = HB13 at y13 ⊢
  have z13 := z12.trans y13
  refine ⟨by show 1 ≤ sizeLine; omega, fun m14 nm14 => ?_⟩
  have y14 := Ext.new (o := (.tup [.ref m13])) z13.th nm14
  have em14 := @upd_same TB13 m14 (.tup [.ref m13])
  generalize upd TB13 m14 (.tup [.ref m13]) = TB14 at y14 em14
  generalize upd HB13 m14 (.tup [.ref m13]) = HB14 at y14 ⊢
  have z14 := z13.trans y14
  refine catA_da z14.th ((y13.tt.trans y14.tt) _ _ em12) em14 (by rw [List.length_drop]; show zs.length - 1 + 1 ≤ sizeLine; omega) (fun m15 TB15 HB15 y15 em15 => ?_)
  have z15 := z14.trans y15
  refine ⟨.ref a1, rfl, 1, rfl, noPart ?_⟩
  refine slA_da z15.th (z15.tt _ _ ea1) (fun m16 TB16 HB16 y16 em16 => ?_)
  rw [show cutV zs (some 1) none = zs.drop 1 from cutV_drop zs 1 (by omega)] at em16
  have z16 := z15.trans y16
  refine ⟨by show 1 ≤ sizeLine; omega, fun m17 nm17 => ?_⟩
  have y17 := Ext.new (o := (.lst [.int 0])) z16.th nm17
  have em17 := @upd_same TB16 m17 (.lst [.int 0])
  generalize upd TB16 m17 (.lst [.int 0]) = TB17 at y17 em17
  generalize upd HB16 m17 (.lst [.int 0]) = HB17 at y17 ⊢
  have z17 := z16.trans y17
  refine ⟨by show 1 ≤ sizeLine; omega, fun m18 nm18 => ?_⟩
  have y18 := Ext.new (o := (.tup [.ref m17])) z17.th nm18
  have em18 := @upd_same TB17 m18 (.tup [.ref m17])
  generalize upd TB17 m18 (.tup [.ref m17]) = TB18 at y18 em18
  generalize upd HB17 m18 (.tup [.ref m17]) = HB18 at y18 ⊢
  have z18 := z17.trans y18
  refine catA_da z18.th ((y17.tt.trans y18.tt) _ _ em16) em18 (by rw [List.length_drop]; show zs.length - 1 + 1 ≤ sizeLine; omega) (fun m19 TB19 HB19 y19 em19 => ?_)
  have z19 := z18.trans y19
  refine ⟨by show 8 ≤ sizeLine; omega, fun m20 nm20 => ?_⟩
  have y20 := Ext.new (o := (.lst [.ref m1, .ref m4, .ref m5, .ref m7, .ref m11, .ref m15, .ref m19, .non])) z19.th nm20
  have em20 := @upd_same TB19 m20 (.lst [.ref m1, .ref m4, .ref m5, .ref m7, .ref m11, .ref m15, .ref m19, .non])
  generalize upd TB19 m20 (.lst [.ref m1, .ref m4, .ref m5, .ref m7, .ref m11, .ref m15, .ref m19, .non]) = TB20 at y20 em20
  generalize upd HB19 m20 (.lst [.ref m1, .ref m4, .ref m5, .ref m7, .ref m11, .ref m15, .ref m19, .non]) = HB20 at y20 ⊢
  have z20 := z19.trans y20
  have gbad : DaA TB20 (badIns n (A.map natsT)) [.ref m1, .ref m4, .ref m5, .ref m7, .ref m11, .ref m15, .ref m19, .non] :=
    ⟨_, _, rfl, ⟨m1, _, rfl, ((((((((((((((((((y2.tt.trans y3.tt).trans y4.tt).trans y5.tt).trans y6.tt).trans y7.tt).trans y8.tt).trans y9.tt).trans y10.tt).trans y11.tt).trans y12.tt).trans y13.tt).trans y14.tt).trans y15.tt).trans y16.tt).trans y17.tt).trans y18.tt).trans y19.tt).trans y20.tt) _ _ em1, hda.keep z20.tt⟩, ⟨_, _, rfl, ⟨m4, _, rfl, (((((((((((((((y5.tt.trans y6.tt).trans y7.tt).trans y8.tt).trans y9.tt).trans y10.tt).trans y11.tt).trans y12.tt).trans y13.tt).trans y14.tt).trans y15.tt).trans y16.tt).trans y17.tt).trans y18.tt).trans y19.tt).trans y20.tt) _ _ em4, (hda.keep z20.tt).app (.one ⟨m2, _, rfl, (((((((((((((((((y3.tt.trans y4.tt).trans y5.tt).trans y6.tt).trans y7.tt).trans y8.tt).trans y9.tt).trans y10.tt).trans y11.tt).trans y12.tt).trans y13.tt).trans y14.tt).trans y15.tt).trans y16.tt).trans y17.tt).trans y18.tt).trans y19.tt).trans y20.tt) _ _ em2, rfl⟩)⟩, ⟨_, _, rfl, ⟨m5, _, rfl, ((((((((((((((y6.tt.trans y7.tt).trans y8.tt).trans y9.tt).trans y10.tt).trans y11.tt).trans y12.tt).trans y13.tt).trans y14.tt).trans y15.tt).trans y16.tt).trans y17.tt).trans y18.tt).trans y19.tt).trans y20.tt) _ _ em5, (hda.drop 1).keep z20.tt⟩, ⟨_, _, rfl, ⟨m7, _, rfl, ((((((((((((y8.tt.trans y9.tt).trans y10.tt).trans y11.tt).trans y12.tt).trans y13.tt).trans y14.tt).trans y15.tt).trans y16.tt).trans y17.tt).trans y18.tt).trans y19.tt).trans y20.tt) _ _ em7, da_reps n⟩, ⟨_, _, rfl, ⟨m11, _, rfl, ((((((((y12.tt.trans y13.tt).trans y14.tt).trans y15.tt).trans y16.tt).trans y17.tt).trans y18.tt).trans y19.tt).trans y20.tt) _ _ em11, ((hda.drop 1).keep z20.tt).app (.one ⟨m9, _, rfl, ((((((((((y10.tt.trans y11.tt).trans y12.tt).trans y13.tt).trans y14.tt).trans y15.tt).trans y16.tt).trans y17.tt).trans y18.tt).trans y19.tt).trans y20.tt) _ _ em9, .one rfl⟩)⟩, ⟨_, _, rfl, ⟨m15, _, rfl, ((((y16.tt.trans y17.tt).trans y18.tt).trans y19.tt).trans y20.tt) _ _ em15, ((hda.drop 1).keep z20.tt).app (.one ⟨m13, _, rfl, ((((((y14.tt.trans y15.tt).trans y16.tt).trans y17.tt).trans y18.tt).trans y19.tt).trans y20.tt) _ _ em13, .one rfl⟩)⟩, ⟨_, _, rfl, ⟨m19, _, rfl, y20.tt _ _ em19, ((hda.drop 1).keep z20.tt).app (.one ⟨m17, _, rfl, ((y18.tt.trans y19.tt).trans y20.tt) _ _ em17, .one rfl⟩)⟩, ⟨_, _, rfl, rfl, rfl⟩⟩⟩⟩⟩⟩⟩⟩
  have hbad := badIns_bad (ds := A.map natsT) (n := n) (by rw [List.length_map]; omega) n1
  clear y1 y2 y3 y4 y5 y6 y7 y8 y9 y10 y11 y12 y13 y14 y15 y16 y17 y18 y19 y20
  have X12 := ExD.trans hD1 X10 hD10 z20.toD
  have hD12 := hD10.same z20.hh
  replace hOd := Da.keep z20.tt _ _ hOd
  replace hAd := Da.keep z20.tt _ _ hAd
  replace hBd := Da.keep z20.tt _ _ hBd
  replace hRd := Da.keep z20.tt _ _ hRd
  replace hEd := Da.keep z20.tt _ _ hEd
  replace tabs10 : ∀ p ∈ cs, TB20 p.2 = some (tabX p.2) := fun p hp => z20.tt _ _ (tabs10 p hp)
  replace ear := z20.tt _ _ ear
  replace hxr := hxr.keep z20.tt
  replace eo5 := z20.tt _ _ eo5
  replace ho5 := ho5.keep z20.tt
  replace ea1 := z20.tt _ _ ea1
  replace hda := hda.keep z20.tt
  replace ea2 := z20.tt _ _ ea2
  replace hdu := hdu.keep z20.tt
  clear z0 z1 z2 z3 z4 z5 z6 z7 z8 z9 z10 z11 z12 z13 z14 z15 z16 z17 z18 z19 z20
  clear X10 hD10 t10 x11 x12
  generalize TB20 = T20 at *
  generalize HB20 = H20 at *
  have t20 := X12.td hD1 nd0 nl0
  have offT : ∀ {T3 : Hp} {b : Addr} {o : HO}, T3 d = none → T3 l = none → T3 b = some o → b ≠ d ∧ b ≠ l := fun {T3 b o} e1 e2 e => ⟨fun z => (by rw [z, e1] at e; cases e), fun z => (by rw [z, e2] at e; cases e)⟩
  have of20 := offT t20.1 t20.2 em20
  refine ⟨.ref ao, rfl, .ref d, rfl, .ref m20, rfl, d, l, m20, _, rfl, hD12, fun H' B' => .inl (.inl (B' _ _ of20.1 of20.2 (X12.th _ _ em20))), by show 0 < 8; decide, by show 8 ≤ 1000; decide, fun bi bx H21 hbx hD21 hB21 => ?_⟩
  obtain ⟨bd, hbd, hbdx⟩ := gbad.get hbx
  have x21 := ExD.turn X12.th t20.1 t20.2 hB21
  refine ⟨T20, [ordD O, bd], false, x21.th, .two hOd hbdx, ⟨O, bd, rfl, by rw [okn]; exact (hbad bd (List.mem_of_getElem? hbd)).symm⟩, ⟨x21.th _ _ (tabs10 _ tin), x21.th _ _ (tabs10 _ tM)⟩, fun H22 T22 x22 => ⟨false, false, rfl, rfl, _, rfl, iteFe rfl ?_⟩⟩
  have X22 := ExD.trans hD1 (ExD.trans hD1 X12 hD12 x21) hD21 x22.toD
  have hD22 := hD21.same x22.hh
  have t22 := X22.td hD1 nd0 nl0
  refine ⟨.ref ao, rfl, .ref d, rfl, .ref ar, rfl, .int (n : Int), rfl, T22, d, l, ar, xr, n, r, rfl, X22.th, t22.1, t22.2, hD22, x22.tt _ _ ear, hxr.keep x22.tt, hr8.len, fun xd T23 H23 v23 hbad2 x23 hD23 hv23 => ?_⟩
  refine ⟨T23, [ordD O, xd], false, x23.th, .two (Da.keep (x22.tt.trans x23.tt) _ _ hOd) hv23, ⟨O, xd, rfl, hbad2.2, by rw [okn]; exact hbad2.1.symm⟩, trivial, fun H24 T24 x24 => ⟨false, false, rfl, rfl, _, rfl, iteFe rfl ?_⟩⟩
  have X24 := ExD.trans hD1 (ExD.trans hD1 X22 hD22 x23) hD23 x24.toD
  have hD24 := hD23.same x24.hh
  have t24 := X24.td hD1 nd0 nl0
  have s24 : Same T20 T24 := (x22.tt.trans x23.tt).trans x24.tt
  replace hOd := Da.keep s24 _ _ hOd
  replace hAd := Da.keep s24 _ _ hAd
  replace hBd := Da.keep s24 _ _ hBd
  replace hRd := Da.keep s24 _ _ hRd
  replace hEd := Da.keep s24 _ _ hEd
  replace tabs10 : ∀ p ∈ cs, T24 p.2 = some (tabX p.2) := fun p hp => s24 _ _ (tabs10 p hp)
  replace ear := s24 _ _ ear
  replace hxr := hxr.keep s24
  replace eo5 := s24 _ _ eo5
  replace ho5 := ho5.keep s24
  replace ea1 := s24 _ _ ea1
  replace hda := hda.keep s24
  replace ea2 := s24 _ _ ea2
  replace hdu := hdu.keep s24
  -- the tick, the cut
  refine ⟨.ref d, rfl, d, l, 12, rfl, hD24, by decide, by decide, fun tk H25 tk0 tk1 hD25 hB25 => ?_⟩
  obtain ⟨tk, rfl⟩ : ∃ j : Nat, tk = (j : Int) := ⟨tk.toNat, by omega⟩
  have th25 : Same T24 H25 := (ExD.turn X24.th t24.1 t24.2 hB25).th
  clear x24 x23 x22 x21 X12 X22 X24 hD12 hD21 hD22 hD23 hD24 hD25 hB25 hB21 t20 t22 t24 s24 hv23 gbad em20
  have hlr := hr8.len
  have sml := hr8.small n5 (by omega)
  refine ⟨.ref ar, rfl, ar, rfl, ⟨_, .inl (.inl (th25 _ _ ear))⟩, fun L nL => ?_⟩
  refine lc_enc (enc := pairD) (p := fun p => decide (p.1 < tk)) (f := pairD) (ds := r) (T := T24) th25 nL (by omega) (gives_tup th25 ear hxr) (fun i pr x T2 H2 R R0 hi x2 hx2 r1 r0 => ?_) (fun T26 H26 ys x26 hys hdy => ?_)
  · have hx3 := hx2
    obtain ⟨t2, _, rfl, et, w1, _, rfl, h1, w2, _, rfl, h2, rfl⟩ := hx2
    obtain rfl : w1 = natV pr.1 := h1
    refine ⟨rfl, .ref t2, rfl, t2, _, 0, natV pr.1, rfl, rfl, .inl (.inl (x2.th _ _ et)), rfl, natV tk, rfl, _, _, rfl, rfl, _, rfl, ?_⟩
    have e0 : decide ((pr.1 : Int) < (tk : Int)) = decide (pr.1 < tk) := decide_eq_decide.mpr (by omega)
    rw [e0]
    refine ite2 (fun e => ?_) (fun e => r0 T2 H2 (.refl x2.th) (Bool.eq_false_iff.mpr e))
    exact ⟨.ref t2, rfl, r1 T2 H2 _ (.refl x2.th) hx3 e⟩
  refine ⟨L, ys, rfl, .inl ⟨.inl (.inl (x26.th _ _ hys)), fun ac nac => ?_⟩⟩
  have y27 := Ext.new (o := .tup ys) x26.th nac
  have hCd : Da (upd T26 ac (.tup ys)) (recD (cutR tk r)) (.ref ac) := ⟨ac, ys, rfl, upd_same, hdy.keep y27.tt⟩
  have Z := x26.trans y27
  generalize upd T26 ac (.tup ys) = T27 at y27 hCd Z
  generalize upd H26 ac (.tup ys) = H27 at y27 Z ⊢
  clear y27 x26 hys hdy nac
  have shown : ∀ {r' : List (Nat × Deed)}, smallR r' → (recD r').showable = true ∧ (recD r').hasDict = false ∧ (recD r').depth < 40 ∧ (recD r').shown.length ≤ sizeLine := fun {r'} h => by
    obtain ⟨p1, p2, p3⟩ := h.plain
    exact ⟨(plain_lay _ p1).2.2, (plain_lay _ p1).2.1, by omega, Nat.le_trans (bulk_shown _ p1) p3⟩
  refine ⟨.int (tk : Int), rfl, .ref ar, rfl, T27, [recD r, natD tk], _, Z.th, .two (Da.keep Z.tt _ _ hRd) rfl, ⟨r, tk, rfl, by omega, rfl⟩, trivial, fun H28 T28 v28 x28 hv28 => ?_⟩
  obtain ⟨ra, rb, rc, rd⟩ := shown (sml.filter fun p => decide (p.1 < tk))
  refine ⟨v28, _, rfl, rfl, hv28.dpH x28.th, ra, rb, rc, rd, ?_⟩
  refine ⟨.ref ac, rfl, .ref ac, _, rfl, rfl, (Da.keep x28.tt _ _ hCd).dpH x28.th, ra, rb, rc, rd, ?_⟩
  refine ⟨rfl, _, rfl, iteFe (by rw [decide_eq_true rfl]; rfl) ?_⟩
  replace Z := Z.trans x28
  clear x28 hCd hv28
  -- the levels
  have wfr : wfR En.length r := wf_of hr8 (by omega)
  have sizes : ∀ lt ∈ A ++ B, lt.length ≤ 100 ∧ ∀ x ∈ lt, x < 1000 := fun lt hl => by
    rcases List.mem_append.mp hl with z | z
    · exact ⟨by have := (hA lt z).1; omega, (hA lt z).2⟩
    · exact ⟨by have := (hB lt z).1; omega, (hB lt z).2⟩
  refine ⟨.int (n : Int), rfl, (n : Int), rfl, by omega, by omega, for_range (lo := 0) (n := n) (fun t σ H' => ∃ (T' : Hp) (y12 y13 y14 y15 : Option V), σ = [some (.ref a), some (.ref d), some (.ref ao), some (.int (n : Int)), some (.int (th : Int)), some (.ref a1), some (.ref a2), some (.ref ar), some (.ref ae), some (.ref m20), some (.int (tk : Int)), some (.ref ac), y12, y13, y14, y15, none, none, none, none, none] ∧
      Ext T24 H25 T' H')
    ⟨T28, none, none, none, none, rfl, Z⟩ ?_ ?_⟩
  · rintro i σ H3 hi ⟨T3, y12, y13, y14, y15, rfl, x3⟩
    have hiO : i < O.length := by omega
    obtain ⟨ms, hms⟩ : ∃ ms, O[i]? = some ms := ⟨_, List.getElem?_eq_getElem hiO⟩
    have hlt : ∀ m ∈ ms, m < O.length := fun m hm => by
      rw [okn]
      exact ok.lt i ms hms m hm
    have lms : ms.length ≤ 100 := by
      have := (nodup_of_lt (ok.asc i ms hms)).length_le_of_subset (l₂ := List.range O.length) fun x hx => List.mem_range.mpr (hlt x hx)
      rw [List.length_range] at this
      omega
    obtain ⟨am, _, ha, eam, rfl⟩ := ord_at ho5 hms
    have ei : V.int (0 + (i : Int)) = natV i := by rw [Int.zero_add]; rfl
    rw [ei]
    have g3 := x3.tt
    -- due
    refine ⟨.ref ao, rfl, natV i, rfl, ao, xo, i, .ref am, rfl, rfl, .inl (.inl (x3.th _ _ (g3 _ _ eo5))), atI_nat ha, am, rfl, ⟨_, .inl (.inl (x3.th _ _ (g3 _ _ eam)))⟩, fun L2 nL2 => ?_⟩
    refine lc_enc (enc := natD) (p := fun m => !decide (A[m]? = B[m]?)) (f := natD) (ds := ms) (T := T3) x3.th nL2 (by omega) (gives_tup x3.th (g3 _ _ eam) (nats_da ms)) (fun j m x T2 H2 R R0 hj x2 hx2 r1 r0 => ?_) (fun T6 H6 ys x6 hys hdy => ?_)
    · obtain rfl : x = natV m := hx2
      have mO := hlt m (List.mem_of_getElem? hj)
      have e1 : A[m]? = some A[m] := List.getElem?_eq_getElem (by omega)
      have e2 : B[m]? = some B[m] := List.getElem?_eq_getElem (by omega)
      obtain ⟨b1, _, hb1, eb1, rfl⟩ := ord_at hda e1
      obtain ⟨b2, _, hb2, eb2, rfl⟩ := ord_at hdu e2
      have g4 := g3.trans x2.tt
      refine ⟨rfl, .ref a1, rfl, natV m, rfl, a1, zs, m, .ref b1, rfl, rfl, .inl (.inl (x2.th _ _ (g4 _ _ ea1))), atI_nat hb1, ?_⟩
      refine ⟨.ref a2, rfl, natV m, rfl, a2, us, m, .ref b2, rfl, rfl, .inl (.inl (x2.th _ _ (g4 _ _ ea2))), atI_nat hb2, ?_⟩
      have d1 : Da T2 (natsT A[m]) (.ref b1) := ⟨b1, _, rfl, g4 _ _ eb1, nats_da _⟩
      have d2 : Da T2 (natsT B[m]) (.ref b2) := ⟨b2, _, rfl, g4 _ _ eb2, nats_da _⟩
      refine ne_ans (d1.dpH x2.th) (d2.dpH x2.th) (natsT_plain (sizes _ (List.mem_append_left _ (List.getElem_mem _))).2) (natsT_plain (sizes _ (List.mem_append_right _ (List.getElem_mem _))).2) (by rw [natsT_depth]; decide) (by rw [natsT_depth]; decide) ?_
      rw [eqv_nats]
      have ed : decide (A[m] = B[m]) = decide (A[m]? = B[m]?) := by
        rw [e1, e2]
        exact decide_eq_decide.mpr (by simp)
      rw [ed]
      exact ⟨_, rfl, ite2 (fun e => ⟨natV m, rfl, r1 T2 H2 _ (.refl x2.th) rfl e⟩) (fun e => r0 T2 H2 (.refl x2.th) (Bool.eq_false_iff.mpr e))⟩
    have eys := nats_of hdy
    subst eys
    refine ⟨Nat.zero_le _, fun p np => eq_nil_nats (.inl (.inl (same_new np _ _ (x6.th _ _ hys)))) (.inl (.inl upd_same)) ?_⟩
    rw [none_not]
    have x7 := (x3.trans x6).trans (Ext.more x6.th (same_new (o := .lst []) np))
    generalize upd H6 p (.lst []) = H7 at x7 ⊢
    clear x6 hys hdy np nL2
    have g7 := x7.tt
    have A4 := fun {T' : Hp} (g : Same T24 T') => (show DaA T' [ordD O, natD i, ordD A, ordD B] [.ref ao, natV i, .ref a1, .ref a2] from ⟨_, _, rfl, Da.keep g _ _ hOd, _, _, rfl, rfl, _, _, rfl, Da.keep g _ _ hAd, _, _, rfl, Da.keep g _ _ hBd, rfl⟩)
    have A5 := fun {T' : Hp} {lv : Nat} {rr : List (Nat × Deed)} {v : V} (g : Same T24 T') (hv : Da T' (recD rr) v) => (show DaA T' [ordD O, natD lv, ordD En, recD rr] [.ref ao, natV lv, .ref ae, v] from ⟨_, _, rfl, Da.keep g _ _ hOd, _, _, rfl, rfl, _, _, rfl, Da.keep g _ _ hEd, _, _, rfl, hv, rfl⟩)
    refine ⟨.ref a2, rfl, .ref a1, rfl, natV i, rfl, .ref ao, rfl, T6, _, _, x7.th, A4 g7, ⟨O, A, B, i, ms, rfl, hms, lA', lB', hlt, sizes, rfl⟩, x7.th _ _ (g7 _ _ (tabs10 _ tal)), fun H8 T8 x8 => ⟨_, rfl, .bl _, rfl, _, rfl, rfl, _, rfl, iteFe (by rw [decide_eq_true rfl]; rfl) ?_⟩⟩
    replace x8 := x7.trans x8
    have g8 := x8.tt
    -- the sight
    refine ⟨.ref ao, rfl, natV i, rfl, .ref ae, rfl, .ref ar, rfl, T8, _, _, x8.th, A5 g8 (Da.keep g8 _ _ hRd), ⟨O, En, i, ms, r, rfl, hms, wfr, hE, rfl⟩, trivial, fun H9 T9 vs x9 hvs => ?_⟩
    replace x9 := x8.trans x9
    have g9 := x9.tt
    refine ⟨.ref ar, rfl, .ref ae, rfl, natV i, rfl, .ref ao, rfl, T9, _, _, x9.th, A5 g9 (Da.keep g9 _ _ hRd), ⟨O, En, i, ms, r, rfl, hms, wfr, rfl⟩, x9.th _ _ (g9 _ _ (tabs10 _ tW)), fun H10 T10 v10 x10 hv10 => ?_⟩
    obtain ⟨sa, sb, sc, sd⟩ := shown (sml.filter fun p => seenB ms En p.2)
    refine ⟨v10, _, rfl, rfl, hv10.dpH x10.th, sa, sb, sc, sd, ?_⟩
    replace hvs := Da.keep x10.tt _ _ hvs
    refine ⟨vs, rfl, vs, _, rfl, rfl, hvs.dpH x10.th, sa, sb, sc, sd, ?_⟩
    refine ⟨rfl, _, rfl, iteFe (by rw [decide_eq_true rfl]; rfl) ?_⟩
    replace x10 := x9.trans x10
    have g10 := x10.tt
    clear hv10 x9 x8 x7 g9 g8 g7
    -- cut and seen change places
    have wff : wfR En.length (cutR tk r) := wfr.filter _
    refine ⟨.ref ao, rfl, natV i, rfl, .ref ae, rfl, .ref ar, rfl, .int (tk : Int), rfl, T10, [recD r, natD tk], _, x10.th, .two (Da.keep g10 _ _ hRd) rfl, ⟨r, tk, rfl, by omega, rfl⟩, trivial, fun H11 T11 v11 x11 hv11 => ?_⟩
    replace hvs := Da.keep x11.tt _ _ hvs
    replace x11 := x10.trans x11
    have g11 := x11.tt
    refine ⟨T11, _, _, x11.th, A5 g11 hv11, ⟨O, En, i, ms, cutR tk r, rfl, hms, wff, rfl⟩, x11.th _ _ (g11 _ _ (tabs10 _ tW)), fun H12 T12 v12 x12 hv12 => ?_⟩
    replace hvs := Da.keep x12.tt _ _ hvs
    replace x12 := x11.trans x12
    have g12 := x12.tt
    have lsn : (seenR ms En r).length < 1000 := (wfR.filter wfr fun p => seenB ms En p.2).1
    refine ⟨vs, rfl, .int (tk : Int), rfl, T12, [recD (seenR ms En r), natD tk], _, x12.th, .two hvs rfl, ⟨seenR ms En r, tk, rfl, lsn, rfl⟩, trivial, fun H13 T13 v13 x13 hv13 => ?_⟩
    rw [cut_seen] at hv12
    replace hv12 := Da.keep x13.tt _ _ hv12
    obtain ⟨p1, p2, p3⟩ := (smallR.filter (smallR.filter sml fun p => seenB ms En p.2) fun p => decide (p.1 < tk)).plain
    refine ne_ans (hv12.dpH x13.th) (hv13.dpH x13.th) p1 p1 (Nat.le_trans p2 (by decide)) (Nat.le_trans p2 (by decide)) ?_
    rw [eqv_self (show plainD (recD (cutR tk (seenR ms En r))) = true from p1)]
    refine ⟨_, rfl, iteFe rfl ?_⟩
    replace x13 := x12.trans x13
    have g13 := x13.tt
    clear hv13 hv12 hvs hv11 x12 x11 x10 g12 g11 g10
    -- the lower ones
    refine ⟨.ref ao, rfl, natV i, rfl, ao, xo, i, .ref am, rfl, rfl, .inl (.inl (x13.th _ _ (g13 _ _ eo5))), atI_nat ha, am, rfl, ⟨_, .inl (.inl (x13.th _ _ (g13 _ _ eam)))⟩, ?_⟩
    refine for_tup (K := K) (a := am) (xs := ms.map natV) (fun j σ H' => ∃ (T' : Hp) (y15 : Option V), σ = [some (.ref a), some (.ref d), some (.ref ao), some (.int (n : Int)), some (.int (th : Int)), some (.ref a1), some (.ref a2), some (.ref ar), some (.ref ae), some (.ref m20), some (.int (tk : Int)), some (.ref ac), some (natV i), some (.bl (ms.all fun m => decide (A[m]? = B[m]?))), some vs, y15, none, none, none, none, none] ∧
        Ext T24 H25 T' H')
      ⟨T13, y15, rfl, x13⟩ (fun j σ H' _ ⟨T', _, _, x'⟩ => .inl (.inl (x'.th _ _ (x'.tt _ _ eam)))) ?_ ?_
    · rintro j x σ H4 hj ⟨T4, y, rfl, x4⟩
      obtain ⟨lw, hlw, rfl⟩ : ∃ lw, ms[j]? = some lw ∧ x = natV lw := by
        rw [List.getElem?_map] at hj
        cases e : ms[j]? with
        | none => rw [e] at hj; cases hj
        | some lw => rw [e] at hj; exact ⟨lw, rfl, (Option.some.inj hj).symm⟩
      have hlwm := List.mem_of_getElem? hlw
      obtain ⟨ns2, hns⟩ : ∃ ns2, O[lw]? = some ns2 := ⟨_, List.getElem?_eq_getElem (hlt lw hlwm)⟩
      have sub := tr i ms lw ns2 hms hlwm hns
      have g4 := x4.tt
      refine ⟨.ref ao, rfl, natV lw, rfl, .ref ae, rfl, .ref ao, rfl, natV i, rfl, .ref ae, rfl, .ref ar, rfl, T4, _, _, x4.th, A5 g4 (Da.keep g4 _ _ hRd), ⟨O, En, i, ms, r, rfl, hms, wfr, rfl⟩, x4.th _ _ (g4 _ _ (tabs10 _ tW)), fun H5 T5 v5 x5 hv5 => ?_⟩
      replace x5 := x4.trans x5
      have g5 := x5.tt
      refine ⟨T5, _, _, x5.th, A5 g5 hv5, ⟨O, En, lw, ns2, seenR ms En r, rfl, hns, wfR.filter wfr _, rfl⟩, x5.th _ _ (g5 _ _ (tabs10 _ tW)), fun H6 T6 v6 x6 hv6 => ?_⟩
      replace x6 := x5.trans x6
      have g6 := x6.tt
      refine ⟨.ref ao, rfl, natV lw, rfl, .ref ae, rfl, .ref ar, rfl, T6, _, _, x6.th, A5 g6 (Da.keep g6 _ _ hRd), ⟨O, En, lw, ns2, r, rfl, hns, wfr, hE, rfl⟩, trivial, fun H7 T7 v7 x7 hv7 => ?_⟩
      rw [seen_sub En sub] at hv6
      replace hv6 := Da.keep x7.tt _ _ hv6
      obtain ⟨p1, p2, p3⟩ := (smallR.filter sml fun p => seenB ns2 En p.2).plain
      refine ne_ans (hv6.dpH x7.th) (hv7.dpH x7.th) p1 p1 (Nat.le_trans p2 (by decide)) (Nat.le_trans p2 (by decide)) ?_
      rw [eqv_self (show plainD (recD (seenR ns2 En r)) = true from p1)]
      exact ⟨_, rfl, iteFe rfl ⟨T7, _, rfl, x6.trans x7⟩⟩
    · rintro σ H4 ⟨T4, y, rfl, x4⟩
      exact ⟨T4, _, _, _, _, rfl, x4⟩
  · rintro σ H3 ⟨T3, y12, y13, y14, y15, rfl, x3⟩
    exact q H3 fun p hp => x3.th _ _ (x3.tt _ _ (tabs10 p hp))

end
end K04
end

section
set_option maxHeartbeats 4000000
namespace K04
open PySem PySem.Spec PyProof.Rows L2 Zc
theorem all_mk {l : PySem.W.OpenLaw} {w : World} {K : PySem.W.Frag} {h : Heap} {mg : Str → Option Value} {fa : Addr}
    (X : K.In h) (G : h.Ns mainGlobals mg) (hfa : mg "law" = some (.ref fa)) (own : ∀ y ∈ [("are_numbers" : Str), ("lot_within" : Str), ("is_input" : Str), ("alike_inputs" : Str)], OwnT K mg h y)
    {f0 : Addr} {od0 an0 : Option Addr} {sl0 : Array (Option Value)} {oc0 kV0 dc0 pm0 cd0 ct0 : Value}
    {f1 : Addr} {od1 an1 : Option Addr} {sl1 : Array (Option Value)} {oc1 kV1 dc1 pm1 cd1 ct1 : Value}
    {f2 : Addr} {od2 an2 : Option Addr} {sl2 : Array (Option Value)} {oc2 kV2 dc2 pm2 cd2 ct2 : Value}
    {f3 : Addr} {od3 an3 : Option Addr} {sl3 : Array (Option Value)} {oc3 kV3 dc3 pm3 cd3 ct3 : Value}
    {f4 : Addr} {od4 an4 : Option Addr} {sl4 : Array (Option Value)} {oc4 kV4 dc4 pm4 cd4 ct4 : Value}
    {f5 : Addr} {od5 an5 : Option Addr} {sl5 : Array (Option Value)} {oc5 kV5 dc5 pm5 cd5 ct5 : Value}
    {f6 : Addr} {od6 an6 : Option Addr} {sl6 : Array (Option Value)} {oc6 kV6 dc6 pm6 cd6 ct6 : Value}
    {f7 : Addr} {od7 an7 : Option Addr} {sl7 : Array (Option Value)} {oc7 kV7 dc7 pm7 cd7 ct7 : Value}
    {f8 : Addr} {od8 an8 : Option Addr} {sl8 : Array (Option Value)} {oc8 kV8 dc8 pm8 cd8 ct8 : Value}
    {f9 : Addr} {od9 an9 : Option Addr} {sl9 : Array (Option Value)} {oc9 kV9 dc9 pm9 cd9 ct9 : Value}
    {f10 : Addr} {od10 an10 : Option Addr} {sl10 : Array (Option Value)} {oc10 kV10 dc10 pm10 cd10 ct10 : Value}
    {f11 : Addr} {od11 an11 : Option Addr} {sl11 : Array (Option Value)} {oc11 kV11 dc11 pm11 cd11 ct11 : Value}
    {f12 : Addr} {od12 an12 : Option Addr} {sl12 : Array (Option Value)} {oc12 kV12 dc12 pm12 cd12 ct12 : Value}
    {f13 : Addr} {od13 an13 : Option Addr} {sl13 : Array (Option Value)} {oc13 kV13 dc13 pm13 cd13 ct13 : Value}
    {f14 : Addr} {od14 an14 : Option Addr} {sl14 : Array (Option Value)} {oc14 kV14 dc14 pm14 cd14 ct14 : Value}
    {f15 : Addr} {od15 an15 : Option Addr} {sl15 : Array (Option Value)} {oc15 kV15 dc15 pm15 cd15 ct15 : Value}
    {f16 : Addr} {od16 an16 : Option Addr} {sl16 : Array (Option Value)} {oc16 kV16 dc16 pm16 cd16 ct16 : Value}
    {f17 : Addr} {od17 an17 : Option Addr} {sl17 : Array (Option Value)} {oc17 kV17 dc17 pm17 cd17 ct17 : Value}
    {f18 : Addr} {od18 an18 : Option Addr} {sl18 : Array (Option Value)} {oc18 kV18 dc18 pm18 cd18 ct18 : Value}
    {f19 : Addr} {od19 an19 : Option Addr} {sl19 : Array (Option Value)} {oc19 kV19 dc19 pm19 cd19 ct19 : Value}
    {f20 : Addr} {od20 an20 : Option Addr} {sl20 : Array (Option Value)} {oc20 kV20 dc20 pm20 cd20 ct20 : Value}
    {f21 : Addr} {od21 an21 : Option Addr} {sl21 : Array (Option Value)} {oc21 kV21 dc21 pm21 cd21 ct21 : Value}
    {f22 : Addr} {od22 an22 : Option Addr} {sl22 : Array (Option Value)} {oc22 kV22 dc22 pm22 cd22 ct22 : Value}
    (a0 : PySem.W.nsIn K mainGlobals "law" = some (some (.ref f0)))
    (l0 : K.lookup f0 = some ⟨oc0, od0, .func (PySem.W.fnOf "law" "law" (defArgs s_law) (defBody s_law)
      (defScope s_law) .none kV0 dc0 pm0 an0 cd0 ct0), sl0⟩)
    (c0 : PySem.W.codeIn K cd0 "law" = true) (k0 : PySem.W.keepIn K (.ref f0) = true)
    (a1 : PySem.W.nsIn K mainGlobals "_law_draw" = some (some (.ref f1)))
    (l1 : K.lookup f1 = some ⟨oc1, od1, .func (PySem.W.fnOf "_law_draw" "_law_draw" (defArgs s__law_draw) (defBody s__law_draw)
      (defScope s__law_draw) .none kV1 dc1 pm1 an1 cd1 ct1), sl1⟩)
    (c1 : PySem.W.codeIn K cd1 "_law_draw" = true) (k1 : PySem.W.keepIn K (.ref f1) = true)
    (a2 : PySem.W.nsIn K mainGlobals "_law_any" = some (some (.ref f2)))
    (l2 : K.lookup f2 = some ⟨oc2, od2, .func (PySem.W.fnOf "_law_any" "_law_any" (defArgs s__law_any) (defBody s__law_any)
      (defScope s__law_any) .none kV2 dc2 pm2 an2 cd2 ct2), sl2⟩)
    (c2 : PySem.W.codeIn K cd2 "_law_any" = true) (k2 : PySem.W.keepIn K (.ref f2) = true)
    (a3 : PySem.W.nsIn K mainGlobals "_law_of" = some (some (.ref f3)))
    (l3 : K.lookup f3 = some ⟨oc3, od3, .func (PySem.W.fnOf "_law_of" "_law_of" (defArgs s__law_of) (defBody s__law_of)
      (defScope s__law_of) .none kV3 dc3 pm3 an3 cd3 ct3), sl3⟩)
    (c3 : PySem.W.codeIn K cd3 "_law_of" = true) (k3 : PySem.W.keepIn K (.ref f3) = true)
    (a4 : PySem.W.nsIn K mainGlobals "_law_mixed" = some (some (.ref f4)))
    (l4 : K.lookup f4 = some ⟨oc4, od4, .func (PySem.W.fnOf "_law_mixed" "_law_mixed" (defArgs s__law_mixed) (defBody s__law_mixed)
      (defScope s__law_mixed) .none kV4 dc4 pm4 an4 cd4 ct4), sl4⟩)
    (c4 : PySem.W.codeIn K cd4 "_law_mixed" = true) (k4 : PySem.W.keepIn K (.ref f4) = true)
    (a5 : PySem.W.nsIn K mainGlobals "_law_closed" = some (some (.ref f5)))
    (l5 : K.lookup f5 = some ⟨oc5, od5, .func (PySem.W.fnOf "_law_closed" "_law_closed" (defArgs s__law_closed) (defBody s__law_closed)
      (defScope s__law_closed) .none kV5 dc5 pm5 an5 cd5 ct5), sl5⟩)
    (c5 : PySem.W.codeIn K cd5 "_law_closed" = true) (k5 : PySem.W.keepIn K (.ref f5) = true)
    (a6 : PySem.W.nsIn K mainGlobals "_law_order" = some (some (.ref f6)))
    (l6 : K.lookup f6 = some ⟨oc6, od6, .func (PySem.W.fnOf "_law_order" "_law_order" (defArgs s__law_order) (defBody s__law_order)
      (defScope s__law_order) .none kV6 dc6 pm6 an6 cd6 ct6), sl6⟩)
    (c6 : PySem.W.codeIn K cd6 "_law_order" = true) (k6 : PySem.W.keepIn K (.ref f6) = true)
    (a7 : PySem.W.nsIn K mainGlobals "_law_record" = some (some (.ref f7)))
    (l7 : K.lookup f7 = some ⟨oc7, od7, .func (PySem.W.fnOf "_law_record" "_law_record" (defArgs s__law_record) (defBody s__law_record)
      (defScope s__law_record) .none kV7 dc7 pm7 an7 cd7 ct7), sl7⟩)
    (c7 : PySem.W.codeIn K cd7 "_law_record" = true) (k7 : PySem.W.keepIn K (.ref f7) = true)
    (a8 : PySem.W.nsIn K mainGlobals "_law_seen" = some (some (.ref f8)))
    (l8 : K.lookup f8 = some ⟨oc8, od8, .func (PySem.W.fnOf "_law_seen" "_law_seen" (defArgs s__law_seen) (defBody s__law_seen)
      (defScope s__law_seen) .none kV8 dc8 pm8 an8 cd8 ct8), sl8⟩)
    (c8 : PySem.W.codeIn K cd8 "_law_seen" = true) (k8 : PySem.W.keepIn K (.ref f8) = true)
    (a9 : PySem.W.nsIn K mainGlobals "_law_bad_record" = some (some (.ref f9)))
    (l9 : K.lookup f9 = some ⟨oc9, od9, .func (PySem.W.fnOf "_law_bad_record" "_law_bad_record" (defArgs s__law_bad_record) (defBody s__law_bad_record)
      (defScope s__law_bad_record) .none kV9 dc9 pm9 an9 cd9 ct9), sl9⟩)
    (c9 : PySem.W.codeIn K cd9 "_law_bad_record" = true) (k9 : PySem.W.keepIn K (.ref f9) = true)
    (a10 : PySem.W.nsIn K mainGlobals "is_integer" = some (some (.ref f10)))
    (l10 : K.lookup f10 = some ⟨oc10, od10, .func (PySem.W.fnOf "is_integer" "is_integer" (defArgs s_is_integer) (defBody s_is_integer)
      (defScope s_is_integer) .none kV10 dc10 pm10 an10 cd10 ct10), sl10⟩)
    (c10 : PySem.W.codeIn K cd10 "is_integer" = true) (k10 : PySem.W.keepIn K (.ref f10) = true)
    (a11 : PySem.W.nsIn K mainGlobals "is_number" = some (some (.ref f11)))
    (l11 : K.lookup f11 = some ⟨oc11, od11, .func (PySem.W.fnOf "is_number" "is_number" (defArgs s_is_number) (defBody s_is_number)
      (defScope s_is_number) .none kV11 dc11 pm11 an11 cd11 ct11), sl11⟩)
    (c11 : PySem.W.codeIn K cd11 "is_number" = true) (k11 : PySem.W.keepIn K (.ref f11) = true)
    (a12 : PySem.W.nsIn K mainGlobals "is_tuple_of" = some (some (.ref f12)))
    (l12 : K.lookup f12 = some ⟨oc12, od12, .func (PySem.W.fnOf "is_tuple_of" "is_tuple_of" (defArgs s_is_tuple_of) (defBody s_is_tuple_of)
      (defScope s_is_tuple_of) .none kV12 dc12 pm12 an12 cd12 ct12), sl12⟩)
    (c12 : PySem.W.codeIn K cd12 "is_tuple_of" = true) (k12 : PySem.W.keepIn K (.ref f12) = true)
    (a13 : PySem.W.nsIn K mainGlobals "are_numbers" = some (some (.ref f13)))
    (l13 : K.lookup f13 = some ⟨oc13, od13, .func (PySem.W.fnOf "are_numbers" "are_numbers" (defArgs s_are_numbers) (defBody s_are_numbers)
      (defScope s_are_numbers) .none kV13 dc13 pm13 an13 cd13 ct13), sl13⟩)
    (c13 : PySem.W.codeIn K cd13 "are_numbers" = true) (k13 : PySem.W.keepIn K (.ref f13) = true)
    (a14 : PySem.W.nsIn K mainGlobals "is_level" = some (some (.ref f14)))
    (l14 : K.lookup f14 = some ⟨oc14, od14, .func (PySem.W.fnOf "is_level" "is_level" (defArgs s_is_level) (defBody s_is_level)
      (defScope s_is_level) .none kV14 dc14 pm14 an14 cd14 ct14), sl14⟩)
    (c14 : PySem.W.codeIn K cd14 "is_level" = true) (k14 : PySem.W.keepIn K (.ref f14) = true)
    (a15 : PySem.W.nsIn K mainGlobals "lot_within" = some (some (.ref f15)))
    (l15 : K.lookup f15 = some ⟨oc15, od15, .func (PySem.W.fnOf "lot_within" "lot_within" (defArgs s_lot_within) (defBody s_lot_within)
      (defScope s_lot_within) .none kV15 dc15 pm15 an15 cd15 ct15), sl15⟩)
    (c15 : PySem.W.codeIn K cd15 "lot_within" = true) (k15 : PySem.W.keepIn K (.ref f15) = true)
    (a16 : PySem.W.nsIn K mainGlobals "is_input" = some (some (.ref f16)))
    (l16 : K.lookup f16 = some ⟨oc16, od16, .func (PySem.W.fnOf "is_input" "is_input" (defArgs s_is_input) (defBody s_is_input)
      (defScope s_is_input) .none kV16 dc16 pm16 an16 cd16 ct16), sl16⟩)
    (c16 : PySem.W.codeIn K cd16 "is_input" = true) (k16 : PySem.W.keepIn K (.ref f16) = true)
    (a17 : PySem.W.nsIn K mainGlobals "alike_inputs" = some (some (.ref f17)))
    (l17 : K.lookup f17 = some ⟨oc17, od17, .func (PySem.W.fnOf "alike_inputs" "alike_inputs" (defArgs s_alike_inputs) (defBody s_alike_inputs)
      (defScope s_alike_inputs) .none kV17 dc17 pm17 an17 cd17 ct17), sl17⟩)
    (c17 : PySem.W.codeIn K cd17 "alike_inputs" = true) (k17 : PySem.W.keepIn K (.ref f17) = true)
    (a18 : PySem.W.nsIn K mainGlobals "is_deed" = some (some (.ref f18)))
    (l18 : K.lookup f18 = some ⟨oc18, od18, .func (PySem.W.fnOf "is_deed" "is_deed" (defArgs s_is_deed) (defBody s_is_deed)
      (defScope s_is_deed) .none kV18 dc18 pm18 an18 cd18 ct18), sl18⟩)
    (c18 : PySem.W.codeIn K cd18 "is_deed" = true) (k18 : PySem.W.keepIn K (.ref f18) = true)
    (a19 : PySem.W.nsIn K mainGlobals "is_record" = some (some (.ref f19)))
    (l19 : K.lookup f19 = some ⟨oc19, od19, .func (PySem.W.fnOf "is_record" "is_record" (defArgs s_is_record) (defBody s_is_record)
      (defScope s_is_record) .none kV19 dc19 pm19 an19 cd19 ct19), sl19⟩)
    (c19 : PySem.W.codeIn K cd19 "is_record" = true) (k19 : PySem.W.keepIn K (.ref f19) = true)
    (a20 : PySem.W.nsIn K mainGlobals "is_seen" = some (some (.ref f20)))
    (l20 : K.lookup f20 = some ⟨oc20, od20, .func (PySem.W.fnOf "is_seen" "is_seen" (defArgs s_is_seen) (defBody s_is_seen)
      (defScope s_is_seen) .none kV20 dc20 pm20 an20 cd20 ct20), sl20⟩)
    (c20 : PySem.W.codeIn K cd20 "is_seen" = true) (k20 : PySem.W.keepIn K (.ref f20) = true)
    (a21 : PySem.W.nsIn K mainGlobals "seen" = some (some (.ref f21)))
    (l21 : K.lookup f21 = some ⟨oc21, od21, .func (PySem.W.fnOf "seen" "seen" (defArgs s_seen) (defBody s_seen)
      (defScope s_seen) .none kV21 dc21 pm21 an21 cd21 ct21), sl21⟩)
    (c21 : PySem.W.codeIn K cd21 "seen" = true) (k21 : PySem.W.keepIn K (.ref f21) = true)
    (a22 : PySem.W.nsIn K mainGlobals "cut_record" = some (some (.ref f22)))
    (l22 : K.lookup f22 = some ⟨oc22, od22, .func (PySem.W.fnOf "cut_record" "cut_record" (defArgs s_cut_record) (defBody s_cut_record)
      (defScope s_cut_record) .none kV22 dc22 pm22 an22 cd22 ct22), sl22⟩)
    (c22 : PySem.W.codeIn K cd22 "cut_record" = true) (k22 : PySem.W.keepIn K (.ref f22) = true)
    (z_int : PySem.W.nsIn K mainGlobals "int" = some none)
    (z_len : PySem.W.nsIn K mainGlobals "len" = some none)
    (z_list : PySem.W.nsIn K mainGlobals "list" = some none)
    (z_range : PySem.W.nsIn K mainGlobals "range" = some none)
    (z_sorted : PySem.W.nsIn K mainGlobals "sorted" = some none)
    (z_tuple : PySem.W.nsIn K mainGlobals "tuple" = some none)
    (z_min : PySem.W.nsIn K mainGlobals "min" = some none)
    (z_max : PySem.W.nsIn K mainGlobals "max" = some none)
    (z_isinstance : PySem.W.nsIn K mainGlobals "isinstance" = some none)
    (z_bool : PySem.W.nsIn K mainGlobals "bool" = some none)
    (z_all : PySem.W.nsIn K mainGlobals "all" = some none)
    (z_abs : PySem.W.nsIn K mainGlobals "abs" = some none)
    (z_repr : PySem.W.nsIn K mainGlobals "repr" = some none)
    {q13 p13 : Addr} {oq13 : Value} {dq13 : Option Addr} {sq13 : Array (Option Value)} {vs13 : Array Value}
    (r13 : cd13 = .ref q13) (w13 : K.lookup q13 = some ⟨oq13, dq13, .fields vs13, sq13⟩) (v13 : vs13[11]? = some (.ref p13)) (n13 : K.lookup p13 = none)
    {q15 p15 : Addr} {oq15 : Value} {dq15 : Option Addr} {sq15 : Array (Option Value)} {vs15 : Array Value}
    (r15 : cd15 = .ref q15) (w15 : K.lookup q15 = some ⟨oq15, dq15, .fields vs15, sq15⟩) (v15 : vs15[11]? = some (.ref p15)) (n15 : K.lookup p15 = none)
    {q16 p16 : Addr} {oq16 : Value} {dq16 : Option Addr} {sq16 : Array (Option Value)} {vs16 : Array Value}
    (r16 : cd16 = .ref q16) (w16 : K.lookup q16 = some ⟨oq16, dq16, .fields vs16, sq16⟩) (v16 : vs16[11]? = some (.ref p16)) (n16 : K.lookup p16 = none)
    {q17 p17 : Addr} {oq17 : Value} {dq17 : Option Addr} {sq17 : Array (Option Value)} {vs17 : Array Value}
    (r17 : cd17 = .ref q17) (w17 : K.lookup q17 = some ⟨oq17, dq17, .fields vs17, sq17⟩) (v17 : vs17[11]? = some (.ref p17)) (n17 : K.lookup p17 = none) :
    ∃ (fd : FuncData) (cs : List (Addr × Addr)) (sp : Sp), (∀ p ∈ cs, h.get? p.2 = some { cls := .none, data := .fields #[] } ∧ K.lookup p.2 = none ∧ PySem.W.CodeHd h p.1 p.2) ∧
      (∀ (s : Shared) (v : Value), BindsTo s fd ⟨[v], []⟩ [("script", v)]) ∧
      (∀ base : Heap, K.In base → base.Ns mainGlobals mg → (∀ p ∈ cs, GxR.TabB base mg p.1 p.2) → FnG l.prog w K mg base 11 fa fd ["script"] sp) ∧
      (∀ (H : Hp) (a : Addr) (ns : List Int), ns.length ≤ 63 → Tabs cs H → SqL K H a (ns.map V.int) → sp [.ref a] H (fun v H' => v = .bl true ∧ Tabs cs H') fun _ _ _ => False) := by
  have e := hfa.symm.trans (PySem.W.mg_of X G a0)
  cases e
  subst r13
  subst r15
  subst r16
  subst r17
  have F0 := fun_mk (st := s_law) l0 c0 k0
  have D0 : At K mg "law" s_law ["script"] fa _ := ⟨F0, PySem.W.mg_of X G a0,
    F0.binds (ps := ["script"]) fun _ _ _ _ _ _ us hl => match us, hl with | [_], _ => rfl⟩
  have F1 := fun_mk (st := s__law_draw) l1 c1 k1
  have D1 : At K mg "_law_draw" s__law_draw ["script", "salt"] f1 _ := ⟨F1, PySem.W.mg_of X G a1,
    F1.binds (ps := ["script", "salt"]) fun _ _ _ _ _ _ us hl => match us, hl with | [_, _], _ => rfl⟩
  have F2 := fun_mk (st := s__law_any) l2 c2 k2
  have D2 : At K mg "_law_any" s__law_any ["deal", "bound"] f2 _ := ⟨F2, PySem.W.mg_of X G a2,
    F2.binds (ps := ["deal", "bound"]) fun _ _ _ _ _ _ us hl => match us, hl with | [_, _], _ => rfl⟩
  have F3 := fun_mk (st := s__law_of) l3 c3 k3
  have D3 : At K mg "_law_of" s__law_of ["deal", "some"] f3 _ := ⟨F3, PySem.W.mg_of X G a3,
    F3.binds (ps := ["deal", "some"]) fun _ _ _ _ _ _ us hl => match us, hl with | [_, _], _ => rfl⟩
  have F4 := fun_mk (st := s__law_mixed) l4 c4 k4
  have D4 : At K mg "_law_mixed" s__law_mixed ["deal", "some"] f4 _ := ⟨F4, PySem.W.mg_of X G a4,
    F4.binds (ps := ["deal", "some"]) fun _ _ _ _ _ _ us hl => match us, hl with | [_, _], _ => rfl⟩
  have F5 := fun_mk (st := s__law_closed) l5 c5 k5
  have D5 : At K mg "_law_closed" s__law_closed ["many", "pairs"] f5 _ := ⟨F5, PySem.W.mg_of X G a5,
    F5.binds (ps := ["many", "pairs"]) fun _ _ _ _ _ _ us hl => match us, hl with | [_, _], _ => rfl⟩
  have F6 := fun_mk (st := s__law_order) l6 c6 k6
  have D6 : At K mg "_law_order" s__law_order ["deal"] f6 _ := ⟨F6, PySem.W.mg_of X G a6,
    F6.binds (ps := ["deal"]) fun _ _ _ _ _ _ us hl => match us, hl with | [_], _ => rfl⟩
  have F7 := fun_mk (st := s__law_record) l7 c7 k7
  have D7 : At K mg "_law_record" s__law_record ["deal", "many", "threads"] f7 _ := ⟨F7, PySem.W.mg_of X G a7,
    F7.binds (ps := ["deal", "many", "threads"]) fun _ _ _ _ _ _ us hl => match us, hl with | [_, _, _], _ => rfl⟩
  have F8 := fun_mk (st := s__law_seen) l8 c8 k8
  have D8 : At K mg "_law_seen" s__law_seen ["order", "level", "ends", "record"] f8 _ := ⟨F8, PySem.W.mg_of X G a8,
    F8.binds (ps := ["order", "level", "ends", "record"]) fun _ _ _ _ _ _ us hl => match us, hl with | [_, _, _, _], _ => rfl⟩
  have F9 := fun_mk (st := s__law_bad_record) l9 c9 k9
  have D9 : At K mg "_law_bad_record" s__law_bad_record ["deal", "record", "many"] f9 _ := ⟨F9, PySem.W.mg_of X G a9,
    F9.binds (ps := ["deal", "record", "many"]) fun _ _ _ _ _ _ us hl => match us, hl with | [_, _, _], _ => rfl⟩
  have F10 := fun_mk (st := s_is_integer) l10 c10 k10
  have D10 : At K mg "is_integer" s_is_integer ["value"] f10 _ := ⟨F10, PySem.W.mg_of X G a10,
    F10.binds (ps := ["value"]) fun _ _ _ _ _ _ us hl => match us, hl with | [_], _ => rfl⟩
  have F11 := fun_mk (st := s_is_number) l11 c11 k11
  have D11 : At K mg "is_number" s_is_number ["value"] f11 _ := ⟨F11, PySem.W.mg_of X G a11,
    F11.binds (ps := ["value"]) fun _ _ _ _ _ _ us hl => match us, hl with | [_], _ => rfl⟩
  have F12 := fun_mk (st := s_is_tuple_of) l12 c12 k12
  have D12 : At K mg "is_tuple_of" s_is_tuple_of ["value", "many"] f12 _ := ⟨F12, PySem.W.mg_of X G a12,
    F12.binds (ps := ["value", "many"]) fun _ _ _ _ _ _ us hl => match us, hl with | [_, _], _ => rfl⟩
  have F13 := fun_mk (st := s_are_numbers) l13 c13 k13
  have D13 : At K mg "are_numbers" s_are_numbers ["value"] f13 _ := ⟨F13, PySem.W.mg_of X G a13,
    F13.binds (ps := ["value"]) fun _ _ _ _ _ _ us hl => match us, hl with | [_], _ => rfl⟩
  have F14 := fun_mk (st := s_is_level) l14 c14 k14
  have D14 : At K mg "is_level" s_is_level ["levels", "value"] f14 _ := ⟨F14, PySem.W.mg_of X G a14,
    F14.binds (ps := ["levels", "value"]) fun _ _ _ _ _ _ us hl => match us, hl with | [_, _], _ => rfl⟩
  have F15 := fun_mk (st := s_lot_within) l15 c15 k15
  have D15 : At K mg "lot_within" s_lot_within ["order", "lot", "level"] f15 _ := ⟨F15, PySem.W.mg_of X G a15,
    F15.binds (ps := ["order", "lot", "level"]) fun _ _ _ _ _ _ us hl => match us, hl with | [_, _, _], _ => rfl⟩
  have F16 := fun_mk (st := s_is_input) l16 c16 k16
  have D16 : At K mg "is_input" s_is_input ["order", "value"] f16 _ := ⟨F16, PySem.W.mg_of X G a16,
    F16.binds (ps := ["order", "value"]) fun _ _ _ _ _ _ us hl => match us, hl with | [_, _], _ => rfl⟩
  have F17 := fun_mk (st := s_alike_inputs) l17 c17 k17
  have D17 : At K mg "alike_inputs" s_alike_inputs ["order", "level", "one", "other"] f17 _ := ⟨F17, PySem.W.mg_of X G a17,
    F17.binds (ps := ["order", "level", "one", "other"]) fun _ _ _ _ _ _ us hl => match us, hl with | [_, _, _, _], _ => rfl⟩
  have F18 := fun_mk (st := s_is_deed) l18 c18 k18
  have D18 : At K mg "is_deed" s_is_deed ["order", "value"] f18 _ := ⟨F18, PySem.W.mg_of X G a18,
    F18.binds (ps := ["order", "value"]) fun _ _ _ _ _ _ us hl => match us, hl with | [_, _], _ => rfl⟩
  have F19 := fun_mk (st := s_is_record) l19 c19 k19
  have D19 : At K mg "is_record" s_is_record ["order", "value"] f19 _ := ⟨F19, PySem.W.mg_of X G a19,
    F19.binds (ps := ["order", "value"]) fun _ _ _ _ _ _ us hl => match us, hl with | [_, _], _ => rfl⟩
  have F20 := fun_mk (st := s_is_seen) l20 c20 k20
  have D20 : At K mg "is_seen" s_is_seen ["order", "level", "ends", "deed"] f20 _ := ⟨F20, PySem.W.mg_of X G a20,
    F20.binds (ps := ["order", "level", "ends", "deed"]) fun _ _ _ _ _ _ us hl => match us, hl with | [_, _, _, _], _ => rfl⟩
  have F21 := fun_mk (st := s_seen) l21 c21 k21
  have D21 : At K mg "seen" s_seen ["order", "level", "ends", "record"] f21 _ := ⟨F21, PySem.W.mg_of X G a21,
    F21.binds (ps := ["order", "level", "ends", "record"]) fun _ _ _ _ _ _ us hl => match us, hl with | [_, _, _, _], _ => rfl⟩
  have F22 := fun_mk (st := s_cut_record) l22 c22 k22
  have D22 : At K mg "cut_record" s_cut_record ["record", "tick"] f22 _ := ⟨F22, PySem.W.mg_of X G a22,
    F22.binds (ps := ["record", "tick"]) fun _ _ _ _ _ _ us hl => match us, hl with | [_, _], _ => rfl⟩
  have O13 := own "are_numbers" (by simp) f13 q13 p13 _ _ _ _ (PySem.W.mg_of X G a13) l13 rfl rfl w13 rfl v13
  have O15 := own "lot_within" (by simp) f15 q15 p15 _ _ _ _ (PySem.W.mg_of X G a15) l15 rfl rfl w15 rfl v15
  have O16 := own "is_input" (by simp) f16 q16 p16 _ _ _ _ (PySem.W.mg_of X G a16) l16 rfl rfl w16 rfl v16
  have O17 := own "alike_inputs" (by simp) f17 q17 p17 _ _ _ _ (PySem.W.mg_of X G a17) l17 rfl rfl w17 rfl v17
  refine ⟨_, [(q13, p13), (q15, p15), (q16, p16), (q17, p17)], spLaw [(q13, p13), (q15, p15), (q16, p16), (q17, p17)] K, fun p hp => ?_, fun s v => .of_eq rfl, fun base _ _ TB => ok_law (P := l.prog) (w := w) (K := K) (mg := mg) (base := base) D0 ?_, fun H a ns hl hH hS => ⟨a, ns, rfl, hH, hS, hl, fun H' h => ⟨rfl, h⟩⟩⟩
  · simp only [List.mem_cons, List.not_mem_nil, or_false] at hp
    rcases hp with rfl | rfl | rfl | rfl
    · exact ⟨O13.1, n13, O13.2⟩
    · exact ⟨O15.1, n15, O15.2⟩
    · exact ⟨O16.1, n16, O16.2⟩
    · exact ⟨O17.1, n17, O17.2⟩
  exact ⟨f1, _, D1, f2, _, D2, f3, _, D3, f4, _, D4, f5, _, D5, f6, _, D6, f7, _, D7, f8, _, D8, f9, _, D9, f10, _, D10, f11, _, D11, f12, _, D12, f13, _, q13, p13, ⟨D13, rfl, TB (q13, p13) (by simp)⟩, by simp, f14, _, D14, f15, _, q15, p15, ⟨D15, rfl, TB (q15, p15) (by simp)⟩, by simp, f16, _, q16, p16, ⟨D16, rfl, TB (q16, p16) (by simp)⟩, by simp, f17, _, q17, p17, ⟨D17, rfl, TB (q17, p17) (by simp)⟩, by simp, f18, _, D18, f19, _, D19, f20, _, D20, f21, _, D21, f22, _, D22,
    kb_rev (ks := ["value", "order"]) F16 (by simp) rfl (fun _ _ _ _ _ _ ws hl => match ws, hl with | [_, _], _ => rfl), kb_rev (ks := ["value", "order"]) F19 (by simp) rfl (fun _ _ _ _ _ _ ws hl => match ws, hl with | [_, _], _ => rfl), kb_rev (ks := ["tick", "record"]) F22 (by simp) rfl (fun _ _ _ _ _ _ ws hl => match ws, hl with | [_, _], _ => rfl), kb_rev (ks := ["other", "one", "level", "order"]) F17 (by simp) rfl (fun _ _ _ _ _ _ ws hl => match ws, hl with | [_, _, _, _], _ => rfl), kb_rev (ks := ["record", "ends", "level", "order"]) F21 (by simp) rfl (fun _ _ _ _ _ _ ws hl => match ws, hl with | [_, _, _, _], _ => rfl),
    PySem.W.mg_none_of X G z_int, PySem.W.mg_none_of X G z_len, PySem.W.mg_none_of X G z_list, PySem.W.mg_none_of X G z_range, PySem.W.mg_none_of X G z_sorted, PySem.W.mg_none_of X G z_tuple, PySem.W.mg_none_of X G z_min, PySem.W.mg_none_of X G z_max, PySem.W.mg_none_of X G z_isinstance, PySem.W.mg_none_of X G z_bool, PySem.W.mg_none_of X G z_all, PySem.W.mg_none_of X G z_abs, PySem.W.mg_none_of X G z_repr⟩
end K04
open PySem PySem.W PyProof.Rows
set_option maxRecDepth 100000 in
set_option maxHeartbeats 0 in
theorem PySem.Challenge.cw_lookalike_k04_records_and_what_is_seen_holds : PySem.Challenge.rw_lookalike_k04_records_and_what_is_seen.Holds := by
  w_on; o_law; k_head; (case hw => w_witness2)
  k_fill
  refine Zc.walkGT (l := PySem.Challenge.rw_lookalike_k04_records_and_what_is_seen) (n := 63) (k := 11) (x := "script") ["are_numbers", "lot_within", "is_input", "alike_inputs"] rfl (by decide) rfl
    ⟨rfl, by decide, by decide⟩ (fun w h Y => PySem.W.kIn_of Y) (by decide +kernel) ?F
  case F =>
    intro w mg fa h KX G hmg own
    refine' K04.all_mk KX G hmg own ?a0 ?l0 ?c0 ?k0 ?a1 ?l1 ?c1 ?k1 ?a2 ?l2 ?c2 ?k2 ?a3 ?l3 ?c3 ?k3 ?a4 ?l4 ?c4 ?k4 ?a5 ?l5 ?c5 ?k5 ?a6 ?l6 ?c6 ?k6 ?a7 ?l7 ?c7 ?k7 ?a8 ?l8 ?c8 ?k8 ?a9 ?l9 ?c9 ?k9 ?a10 ?l10 ?c10 ?k10 ?a11 ?l11 ?c11 ?k11 ?a12 ?l12 ?c12 ?k12 ?a13 ?l13 ?c13 ?k13 ?a14 ?l14 ?c14 ?k14 ?a15 ?l15 ?c15 ?k15 ?a16 ?l16 ?c16 ?k16 ?a17 ?l17 ?c17 ?k17 ?a18 ?l18 ?c18 ?k18 ?a19 ?l19 ?c19 ?k19 ?a20 ?l20 ?c20 ?k20 ?a21 ?l21 ?c21 ?k21 ?a22 ?l22 ?c22 ?k22 ?z_int ?z_len ?z_list ?z_range ?z_sorted ?z_tuple ?z_min ?z_max ?z_isinstance ?z_bool ?z_all ?z_abs ?z_repr ?r13 ?w13 ?v13 ?n13 ?r15 ?w15 ?v15 ?n15 ?r16 ?w16 ?v16 ?n16 ?r17 ?w17 ?v17 ?n17
    (case a0 => k_is)
    (case l0 => k_is)
    (case c0 => k_is)
    (case k0 => k_is)
    (case a1 => k_is)
    (case l1 => k_is)
    (case c1 => k_is)
    (case k1 => k_is)
    (case a2 => k_is)
    (case l2 => k_is)
    (case c2 => k_is)
    (case k2 => k_is)
    (case a3 => k_is)
    (case l3 => k_is)
    (case c3 => k_is)
    (case k3 => k_is)
    (case a4 => k_is)
    (case l4 => k_is)
    (case c4 => k_is)
    (case k4 => k_is)
    (case a5 => k_is)
    (case l5 => k_is)
    (case c5 => k_is)
    (case k5 => k_is)
    (case a6 => k_is)
    (case l6 => k_is)
    (case c6 => k_is)
    (case k6 => k_is)
    (case a7 => k_is)
    (case l7 => k_is)
    (case c7 => k_is)
    (case k7 => k_is)
    (case a8 => k_is)
    (case l8 => k_is)
    (case c8 => k_is)
    (case k8 => k_is)
    (case a9 => k_is)
    (case l9 => k_is)
    (case c9 => k_is)
    (case k9 => k_is)
    (case a10 => k_is)
    (case l10 => k_is)
    (case c10 => k_is)
    (case k10 => k_is)
    (case a11 => k_is)
    (case l11 => k_is)
    (case c11 => k_is)
    (case k11 => k_is)
    (case a12 => k_is)
    (case l12 => k_is)
    (case c12 => k_is)
    (case k12 => k_is)
    (case a13 => k_is)
    (case l13 => k_is)
    (case c13 => k_is)
    (case k13 => k_is)
    (case a14 => k_is)
    (case l14 => k_is)
    (case c14 => k_is)
    (case k14 => k_is)
    (case a15 => k_is)
    (case l15 => k_is)
    (case c15 => k_is)
    (case k15 => k_is)
    (case a16 => k_is)
    (case l16 => k_is)
    (case c16 => k_is)
    (case k16 => k_is)
    (case a17 => k_is)
    (case l17 => k_is)
    (case c17 => k_is)
    (case k17 => k_is)
    (case a18 => k_is)
    (case l18 => k_is)
    (case c18 => k_is)
    (case k18 => k_is)
    (case a19 => k_is)
    (case l19 => k_is)
    (case c19 => k_is)
    (case k19 => k_is)
    (case a20 => k_is)
    (case l20 => k_is)
    (case c20 => k_is)
    (case k20 => k_is)
    (case a21 => k_is)
    (case l21 => k_is)
    (case c21 => k_is)
    (case k21 => k_is)
    (case a22 => k_is)
    (case l22 => k_is)
    (case c22 => k_is)
    (case k22 => k_is)
    (case z_int => k_is)
    (case z_len => k_is)
    (case z_list => k_is)
    (case z_range => k_is)
    (case z_sorted => k_is)
    (case z_tuple => k_is)
    (case z_min => k_is)
    (case z_max => k_is)
    (case z_isinstance => k_is)
    (case z_bool => k_is)
    (case z_all => k_is)
    (case z_abs => k_is)
    (case z_repr => k_is)
    (case r13 => rfl)
    (case w13 => k_is)
    (case v13 => first | rfl | k_is)
    (case n13 => first | k_is | rfl)
    (case r15 => rfl)
    (case w15 => k_is)
    (case v15 => first | rfl | k_is)
    (case n15 => first | k_is | rfl)
    (case r16 => rfl)
    (case w16 => k_is)
    (case v16 => first | rfl | k_is)
    (case n16 => first | k_is | rfl)
    (case r17 => rfl)
    (case w17 => k_is)
    (case v17 => first | rfl | k_is)
    (case n17 => first | k_is | rfl)
end
