import PyProof.Rows.All
import Wide.All
import OpenK.AllK
import Wide.FinOn
import HandS.ForMost
import HandS.Wide
import HandS.IsInst
import HandS.CallLocal
import HandS.Evl
import HandS.Style
import HandS.Deep
import HandS.AnyAll
import HandS.GenOver
import HandS.GenList
import HandS.EndTab
import HandS.TupMul
import HandS.TupAny
import HandS.Lambda
import HandS.TupLe
import HandS.RaiseMore
import HandS.Text
import HandS.Set
import HandS.Flow
import HandS.WideBits
import HandS.SortInts
import HandS.Conv
import HandS.Iter
import HandS.Walk
import HandS.Codes
import HandS.ExcInit
import HandS.WordsExc
import HandS.ExcField
import HandS.Dict
import HandS.Small
import HandS.Star
import HandS.SetFor
import HandS.Strs
import HandS.ExcIs
import PySem.Challenge.RW_lookalike_k01_orders_and_rings
set_option Elab.async false
set_option linter.all false
set_option maxRecDepth 100000
section
set_option maxHeartbeats 4000000
/-! What every law of this program wants: a law's def where nothing is being shown, repr of data, calls by keywords alone. -/
namespace Zc
open PySem PySem.Spec PyProof.Rows L2

section
variable {P : Program} {w : World} {K : PySem.W.Frag} {mg : Str → Option Value} {base : Heap}

/-- a def's promise, kept wherever no repr runs around the call -/
structure FnG (P : Program) (w : World) (K : PySem.W.Frag) (mg : Str → Option Value)
    (base : Heap) (k : Nat) (f : Addr) (fd : FuncData) (ps : List Str) (sp : Sp) : Prop where
  len : ∀ vs H Q E, sp vs H Q E → vs.length = ps.length
  run : ∀ (A : Around) (outer : List Env) (s : Shared) (H : Hp) (args : Args)
    (us : List Value) (vs : List V) (Q : VK) (E : XK), Room k A → A.guards = some [] →
    Env0 P w K mg base A outer s H → BindsTo s fd args (ps.zip us) → Vals vs us → sp vs H Q E →
    codeAny (model P w) A (.call (.ref f) args) (CR CX0 outer P w H s Q E) s

/-- the rule for such a def -/
theorem fnG_ok {x qual : Str} {st : Stmt} {f : Addr} {fd : FuncData} {N ps : List Str} {k : Nat} {sp : Sp}
    (F : Fun K x qual st f fd) (S : FnScope N ps (defScope st))
    (len : ∀ vs H Q E, sp vs H Q E → vs.length = ps.length)
    (body : ∀ (cdv : Value) (A : Around) (outer : List Env) (s : Shared) (H : Hp) (vs : List V) (Q : VK) (E : XK),
      Room k (A.deeper (envOfC qual (defScope st) s.heap.objs.size f cdv)) → A.guards = some [] → sp vs H Q E →
      ∃ t, PSs (cxOf CX0 P w K mg base N qual (defScope st) f cdv A outer s H E).nox (defBody st) t ∧
        t { nx := fun _ H' => Q .non H', rt := Q } (start N vs) H) :
    FnG P w K mg base (k + 1) f fd ps sp := by
  obtain ⟨oc, od, kV, doc, pm, an, cdv, ct, osl, rfl, lk, hcd⟩ := F.ex
  constructor
  · exact len
  intro A outer s H args us vs Q E hr hg e0 hb r hsp
  have l0 := len _ _ _ _ hsp
  have kin : K.In s.heap :=
    e0.mod.kin.keeps fun b o e => (e0.bs b o e).1
  have nolim : s.heap.NoLimit :=
    e0.mod.nolimit.keeps fun b o e => (e0.bs b o e).1
  have kinds : ∀ y ∈ ps.zip us, (defScope st).names.lookup y.1 = some .local ∨
      ((defScope st).names.lookup y.1 = some .cell ∧
        ((cellsFrom (s.heap.objs.size + 1) (defScope st).names []).lookup y.1).isSome = true) := by
    rintro ⟨n, v⟩ hy
    cases S.par n (List.of_mem_zip hy).1 with
    | inl q => exact Or.inl q
    | inr q => exact Or.inr ⟨q, PySem.W.cellsFrom_some _ _ _ (Or.inl q)⟩
  apply codeAny_call_function hr.depth (kin _ _ lk) rfl S.co S.gen rfl (PySem.W.codeRec_of kin hcd)
    (hb _ _ _ _ ?_)
  apply wpAny_newFunctionEnv_cells S.kind kinds
  intro env he s1 x
  subst he
  refine And.intro (nolim.keeps x.toInCall.keep) (codeAny_func ?_)
  obtain ⟨t, ht, hq⟩ := body cdv A outer s H vs Q E (hr.deeper _) hg hsp
  have J : Inv (cxOf CX0 P w K mg base N qual (defScope st) f cdv A outer s H E) [] (start N vs) H s1 :=
    inv_start S hr.hd e0 l0 r x
  apply wpAny_mono (ht.nox.run [] s1 (start N vs) H _ J hq)
  · intro fl s' hs
    have fin : ∀ {σ' : L2.St} {H' : Hp} {v : V} {u : Value},
        Inv (cxOf CX0 P w K mg base N qual (defScope st) f cdv A outer s H E) [] σ' H' s' →
        RelV v u → Q v H' → CE outer P w H s Q u s' := by
      intro σ' H' v u J' rv q
      exact ⟨v, H', J'.os, J'.bare, J'.base, J'.hok, rv, q⟩
    match fl, hs with
    | .ret u, hs =>
      obtain ⟨v, σ', H', J', rv, q⟩ := hs
      exact fin J' rv q
    | .next, hs =>
      obtain ⟨σ', H', J', q⟩ := hs
      exact fin (v := V.non) (u := Value.none) J' rfl q
    | .brk, hs =>
      obtain ⟨_, _, _, q⟩ := hs
      exact q.elim
    | .cont, hs =>
      obtain ⟨_, _, _, q⟩ := hs
      exact q.elim
  · intro e s' hs
    exact hs

/-- a law's call, from such a promise -/
theorem callG {mb : Str → Option Value} {k : Nat} {fa a : Addr} {fd : FuncData} {x : Str} {sp : Sp}
    {s₁ : Shared} {vs : List Value} {ns : List Int}
    (KX : K.In s₁.heap) (gl : s₁.heap.Ns mainGlobals mg) (bn : s₁.heap.Ns builtinsNs mb)
    (bb : ∀ x : Str, x ≠ "__name__" → mb x = bootBuiltins x)
    (lim : s₁.heap.NoLimit) (gens : s₁.gens = #[])
    (ha : s₁.heap.get? a = some { cls := .type "list", data := .seq vs.toArray })
    (hi : IntsAre vs ns) (hl : ns.length ≤ sizeLine) (hr : Room k callerA)
    (F : ∀ base : Heap, K.In base → base.Ns mainGlobals mg → FnG P w K mg base k fa fd [x] sp)
    (bind : ∀ (s : Shared) (u : Value), BindsTo s fd ⟨[u], []⟩ [(x, u)])
    (hsp : ∀ H : Hp, SqL K H a (ns.map V.int) → sp [.ref a] H (fun v _ => v = .bl true) fun _ _ _ => False) :
    codeAny (model P w) callerA (.call (.ref fa) ⟨[.ref a], []⟩)
      (fun r s' => r = .ok (.ret (.bool true)) ∧ OldK s₁.heap s'.heap ∧ s'.os = s₁.os ∧ AllBare s'.gens) s₁ := by
  have rv := vals_ints hi
  have lv := hi.length
  have main : ∀ H : Hp, Only H → SqL K H a (ns.map V.int) → HOk P w H s₁.heap →
      (∀ b, H b ≠ none → b = a) → (H a ≠ none → K.lookup a = none) →
      codeAny (model P w) callerA (.call (.ref fa) ⟨[.ref a], []⟩)
        (fun r s' => r = .ok (.ret (.bool true)) ∧ OldK s₁.heap s'.heap ∧ s'.os = s₁.os ∧ AllBare s'.gens) s₁ := by
    intro H only hS ok one away
    have offA : ∀ {b : Addr} {u : HO}, H b = some u → b = a := fun {b u} q =>
      one b (by rw [q]; intro z; cases z)
    have dictFree : ∀ {b : Addr} {o : Obj} {es : Array DictEntry} {ep : Nat},
        s₁.heap.get? b = some o → o.data = .dict es ep → H b = none := by
      intro b o es ep e d
      match q : H b with
      | none => rfl
      | some u =>
        have z := offA q
        rw [z, ha] at e
        have e' := Option.some.inj e
        rw [← e'] at d
        have d' : Data.seq vs.toArray _ = Data.dict es ep := d
        exact Data.noConfusion d'
    have nsHid : ∀ {b : Addr} {m : Str → Option Value}, s₁.heap.Ns b m → (hidT s₁.heap H).Ns b m := by
      rintro b m ⟨o, es, ep, e, d, r⟩
      exact ⟨o, es, ep, hidT_get e (dictFree e d), d, r⟩
    have kinHid : K.In (hidT s₁.heap H) := by
      intro b o e
      apply hidT_get (KX b o e)
      match q : H b with
      | none => rfl
      | some u =>
        have z := offA q
        rw [z] at e
        have z2 := away (by rw [← z, q]; intro y; cases y)
        rw [z2] at e
        cases e
    have md : Mod K mg (hidT s₁.heap H) := by
      refine ⟨kinHid, nsHid gl, ⟨mb, nsHid bn, bb⟩, ?_⟩
      obtain ⟨mc, h1, h2⟩ := lim
      exact ⟨mc, nsHid h1, h2⟩
    have e0 : Env0 P w K mg (hidT s₁.heap H) callerA [] s₁ H := by
      refine ⟨rfl, md, fun b o e => of_hidT e, Nat.le_of_eq (hidT_size _ _), trivial, ?_, ok, .of_eq gens⟩
      intro b hb
      exact absurd (show b ∈ ([] : List Addr) from hb) List.not_mem_nil
    have run := (F _ kinHid (nsHid gl)).run callerA [] s₁ H ⟨[.ref a], []⟩ [.ref a] [.ref a] _ _ hr rfl e0
      (bind s₁ (.ref a)) (.cons rfl .nil) (hsp H hS)
    apply codeAny_mono run
    intro r s' h
    match r, h with
    | .error e, h => exact False.elim h
    | .ok .next, h => exact False.elim h
    | .ok .brk, h => exact False.elim h
    | .ok .cont, h => exact False.elim h
    | .ok (.ret u), h =>
      obtain ⟨v, H', os, bare, un, ok', r', q⟩ := h
      have q' : v = .bl true := q
      subst q'
      have r2 : u = Value.bool true := r'
      subst r2
      refine ⟨rfl, OldK.of_keep ?_, os, bare⟩
      intro b o e
      match q : H b with
      | none => exact un.keep b o e q (fun z => absurd (show b ∈ ([] : List Addr) from z) List.not_mem_nil) List.not_mem_nil
      | some u =>
        cases only b with
        | inl z =>
          rw [q] at z
          cases z
        | inr z =>
          obtain ⟨ob, xs, z⟩ := z
          obtain ⟨e1, _⟩ := ok b _ z
          obtain ⟨e2, _⟩ := ok' b _ (un.frzs b ob _ z)
          rw [e] at e1
          rw [Option.some.inj e1]
          exact e2
  match hk : K.lookup a with
  | some o =>
    have e := KX a o hk
    rw [ha] at e
    have e' := Option.some.inj e
    subst e'
    apply main (fun _ => none)
    · intro b
      exact Or.inl rfl
    · exact Or.inr ⟨_, vs.toArray, _, hk, rfl, rfl, rfl, by rw [List.size_toArray, lv]; exact hl, by simpa using rv⟩
    · intro b u z
      have z' : (none : Option HO) = some u := z
      cases z'
    · intro b z
      exact absurd rfl z
    · intro z
      exact absurd rfl z
  | none =>
    have yes : ∀ {b : Addr}, b = a → (fun b => if b = a then some (HO.frz { cls := .type "list", data := .seq vs.toArray } (.lst (ns.map V.int))) else none : Hp) b
        = some (HO.frz { cls := .type "list", data := .seq vs.toArray } (.lst (ns.map V.int))) := fun h => if_pos h
    have no : ∀ {b : Addr}, ¬ b = a → (fun b => if b = a then some (HO.frz { cls := .type "list", data := .seq vs.toArray } (.lst (ns.map V.int))) else none : Hp) b = none := fun h => if_neg h
    apply main (fun b => if b = a then some (HO.frz { cls := .type "list", data := .seq vs.toArray } (.lst (ns.map V.int))) else none)
    · intro b
      by_cases hb : b = a
      · exact Or.inr ⟨_, _, yes hb⟩
      · exact Or.inl (no hb)
    · exact Or.inl (Or.inr ⟨_, yes rfl⟩)
    · intro b u z
      by_cases hb : b = a
      · have z' := (yes hb).symm.trans z
        have z2 := Option.some.inj z'
        subst z2
        subst hb
        exact ⟨ha, by rw [List.length_map]; exact hl, vs, _, rv, ha⟩
      · have z' := (no hb).symm.trans z
        cases z'
    · intro b z
      by_cases hb : b = a
      · exact hb
      · exact absurd (no hb) z
    · intro _
      exact hk
end

/-- the goal that the head leaves, from such a promise -/
theorem walkG {l : PySem.W.OpenLaw} {n k : Nat} {q : Program} {loose : List Str}
    {XP : (Str → Option Value) → Heap → Prop} {YP : World → Heap → Prop} {d : DefRec}
    {K : Params → PySem.W.Frag} {sp : PySem.W.Frag → Sp} {x : Str}
    (hn : l.most = some n) (hn2 : n ≤ sizeLine) (hdf : d.params.defaults = []) (hr : Room k callerA)
    (hY : ∀ (w : World) (h : Heap), YP w h → (K w.params).In h)
    (F : ∀ (w : World) (mg : Str → Option Value) (fa : Addr) (h : Heap), (K w.params).In h → h.Ns mainGlobals mg →
      mg d.name = some (.ref fa) →
      ∃ fd : FuncData, (∀ (s : Shared) (u : Value), BindsTo s fd ⟨[u], []⟩ [(x, u)]) ∧
        ∀ base : Heap, (K w.params).In base → base.Ns mainGlobals mg →
          FnG l.prog w (K w.params) mg base k fa fd [x] (sp (K w.params)))
    (hsp : ∀ (K : PySem.W.Frag) (H : Hp) (a : Addr) (ns : List Int), ns.length ≤ n → SqL K H a (ns.map V.int) →
      sp K [.ref a] H (fun v _ => v = .bl true) fun _ _ _ => False) :
    PySem.W.WalkO q loose XP YP l.row.toRowW d [] (fun f vs => PySem.call f vs) := by
  apply Att.attach_call hn hdf
  intro w s₀ s₁ mg mb fa o pm cd doc a vs ns G Y ho hd hcd hmg hobj hints hlen hg
  have kx := hY w _ Y
  obtain ⟨fd, hb, hF⟩ := F w mg fa _ kx G.T.g hmg
  exact callG kx G.T.g G.T.b G.T.builtins G.T.nolimit hg hobj hints (Nat.le_trans hlen hn2) hr hF hb
    (fun H hS => hsp (K w.params) H a ns hlen hS)

section
variable {X : Cx}
/-- repr of data: what Python shows of it -/
theorem call_repr_D (hg : X.A.guards = some []) (hu : X.A.units + 64 < cLine) : CallR X (.builtin "repr")
    (fun xs H Q => ∃ v d, xs = [v] ∧ isDisplay d = true ∧ Dp X.K H v d ∧ d.showable = true ∧ d.hasDict = false ∧ d.depth < 40 ∧ d.shown.length ≤ sizeLine ∧ Q (.str d.shown) H) := by
  intro pins s σ H xs us Q I r h
  obtain ⟨v, d, rfl, hdsp, hD, hsh, hnd, hdp, hsz, q⟩ := h
  obtain ⟨u, rfl, ru⟩ := vals1 r
  obtain ⟨as, rd⟩ := Dp.reads I d v u hD ru
  obtain ⟨a, rfl⟩ := isRef_of_reads rd hdsp
  refine repr_of_reads' rd hsh (PyData.noDict_hsm hnd) hg (by omega) (fun _ _ e => e) (fun h' u tk hk => ?_) hsz
  exact ⟨.str d.shown, H, I.kept hk, ⟨_, rfl⟩, q⟩

/-- f(k = v, ..), no value without a name -/
theorem pe_callKw {CX : CXT} {k : Nat} {f : Addr} {fd : FuncData} {ps ks : List Str} {sp : Sp} {E : XK} {x : Str} {p pos : Pos}
    {kws : List Keyword} {tk : TA} {g : List Value → List Value → List Value} {gV : List V → List V → List V}
    (F : FnOk X.prog X.w X.K X.mg X.base CX k f fd ps sp) (hr : Room k X.A) (hg : Gl X x) (hm : X.mg x = some (.ref f))
    (hk : PySem.W.keepIn X.K (.ref f) = true) (hb : KBinds X.K fd ps ks g gV) (hx : Passes CX X E) (hkw : PK X kws tk)
    (hall : (backToKw pos (keywordEach kws X.env)).all (·.1.isSome) = true := by rfl)
    (hks : (backToKw pos (keywordEach kws X.env)).filterMap (·.1) = ks := by rfl)
    (hdb : (x == ("__debug__" : Str)) = false := by decide)
    (hpl : ((backTo pos (starEach [] X.env)).any (·.1) || (backToKw pos (keywordEach kws X.env)).any (·.1.isNone)) = false := by rfl) :
    PE X (.Call (.Name x p) [] kws pos) (tCallK sp gV E tNil tk) := by
  constructor
  intro pins s σ H Q I h
  apply wpAny_Call_Name_kw (ld_glob I hg hm ?_ hdb)
  apply PySem.W.callWith_KW0 (h₀ := X.base) I.ok.mod.kin hk hall ?_ hpl
  apply thn (hkw.run pos pins s σ H _ I h)
  rintro ws s2 ⟨zs, H2, I2, rz, q2⟩
  refine ⟨I2.kIn, ?_⟩
  rw [hks]
  exact run_fnk (us := []) (vs := []) F hr hb hx I2 .nil rz q2
end
end Zc
end

section
set_option maxHeartbeats 1000000
/-! The deal from which every law of this program draws: what it holds, and that a draw is some number below its bound. -/
namespace Zc
open PySem PySem.Spec PyProof.Rows L2

/-- a def of the text: where it stands, by what name, how its arguments bind -/
structure At (K : PySem.W.Frag) (mg : Str → Option Value) (x : Str) (st : Stmt) (ps : List Str) (f : Addr) (fd : FuncData) : Prop where
  F : Fun K x x st f fd
  g : mg x = some (.ref f)
  b : Binds K fd ps []

/-- a deal at d, its list at l -/
def Deal (H : Hp) (d l : Addr) : Prop := ∃ (xs : List Int) (b : Int), d ≠ l ∧ H d = some (.lst [.ref l, .int b]) ∧
  H l = some (.lst (xs.map V.int)) ∧ xs.length ≤ 48 ∧ (∀ x ∈ xs, 0 ≤ x) ∧ 0 ≤ b ∧ b < 2147483647
/-- all that was tracked beside the deal is as it was -/
def But (d l : Addr) (H H' : Hp) : Prop := ∀ b o, b ≠ d → b ≠ l → H b = some o → H' b = some o
theorem But.refl (d l : Addr) (H : Hp) : But d l H H := fun _ _ _ _ h => h
theorem But.trans {d l : Addr} {H H1 H2 : Hp} (a : But d l H H1) (b : But d l H1 H2) : But d l H H2 :=
  fun c o n1 n2 h => b c o n1 n2 (a c o n1 n2 h)
theorem But.of {d l : Addr} {H H' : Hp} (a : Same H H') : But d l H H' := fun c o _ _ h => a c o h
theorem But.updD {d l : Addr} {H H' : Hp} {o : HO} (a : But d l H H') : But d l H (upd H' d o) := fun c u n1 n2 h => by
  rw [upd_ne n1]
  exact a c u n1 n2 h
theorem But.updL {d l : Addr} {H H' : Hp} {o : HO} (a : But d l H H') : But d l H (upd H' l o) := fun c u n1 n2 h => by
  rw [upd_ne n2]
  exact a c u n1 n2 h
theorem same_new {H : Hp} {p : Addr} {o : HO} (h : H p = none) : Same H (upd H p o) := fun b x e => by
  rw [upd_ne (ne_of_none e h)]
  exact e

/-! ### lists of ints as data -/
theorem dp_ints {K : PySem.W.Frag} {H : Hp} : ∀ ns : List Int, DpAll K H (ns.map V.int) (ns.map PyData.int)
  | [] => .nil
  | n :: r => .cons (.int n) (dp_ints r)
theorem can_ints : ∀ ns : List Int, PyData.canLayAll0 (ns.map PyData.int) = true
  | [] => by simp [PyData.canLayAll0]
  | n :: r => by simp [PyData.canLayAll0, PyData.canLay0, can_ints r]
theorem depth_ints : ∀ ns : List Int, PyData.depthAll (ns.map PyData.int) = 0
  | [] => by simp [PyData.depthAll]
  | n :: r => by simp [PyData.depthAll, PyData.depth, depth_ints r]
theorem shaped_ints (ns : List Int) : SeqAt.shaped (.list (ns.map PyData.int)) = true := by
  simp [SeqAt.shaped, PyData.canLay0, can_ints, PyData.depth, depth_ints]
theorem eqv_nil (ns : List Int) : PyData.eqv (.list (ns.map PyData.int)) (.list []) = ns.isEmpty := by
  cases ns <;> simp [PyData.eqv, PyData.eqvAll]
theorem shaped_nil : SeqAt.shaped (.list []) = true := by decide +kernel
theorem ne_nil_read {K : PySem.W.Frag} {H : Hp} {l p : Addr} {ns : List Int} {Q : VK} (h : SqL K H l (ns.map V.int)) (hp : SqL K H p [])
    (q : Q (.bl (!ns.isEmpty)) H) : rNeD K (.ref l) (.ref p) H Q := by
  refine ⟨.list (ns.map .int), .list [], .lst h (dp_ints ns), .lst hp .nil, shaped_ints ns, shaped_nil, ?_⟩
  rw [eqv_nil]
  exact q

theorem snoc_cases (xs : List Int) : xs = [] ∨ ∃ ys z, xs = ys ++ [z] := by
  cases xs with
  | nil => exact .inl rfl
  | cons x r => exact .inr ⟨_, _, (List.dropLast_concat_getLast (List.cons_ne_nil x r)).symm⟩
theorem snoc_map (ys : List Int) (z : Int) : (ys ++ [z]).map V.int = ys.map V.int ++ [V.int z] := by
  rw [List.map_append]
  rfl
theorem snoc_len (ys : List Int) (z : Int) : (ys ++ [z]).length = ys.length + 1 := by
  rw [List.length_append]
  rfl
theorem snoc_last (ys : List V) (z : V) : (ys ++ [z])[(ys ++ [z]).length - 1]? = some z := by
  rw [List.length_append]
  simp
theorem snoc_ne (ys : List Int) (z : Int) : (!(ys ++ [z]).isEmpty) = true := by
  cases ys <;> rfl
theorem iteTe {c : Bool} {A B : Prop} (e : c = true) (h : A) : if c = true then A else B := by
  rw [if_pos e]
  exact h
theorem iteFe {c : Bool} {A B : Prop} (e : c = false) (h : B) : if c = true then A else B := by
  rw [if_neg (by rw [e]; exact Bool.false_ne_true)]
  exact h
/-- the deal's list after a change of it -/
theorem Deal.list {H : Hp} {d l : Addr} {b : Int} {xs : List Int} (ndl : d ≠ l) (hd : H d = some (.lst [.ref l, .int b])) (hlen : xs.length ≤ 48)
    (hpos : ∀ x ∈ xs, 0 ≤ x) (b0 : 0 ≤ b) (b1 : b < 2147483647) : Deal (upd H l (.lst (xs.map V.int))) d l :=
  ⟨xs, b, ndl, by rw [upd_ne ndl]; exact hd, upd_same, hlen, hpos, b0, b1⟩
theorem Deal.num {H : Hp} {d l : Addr} {b : Int} {xs : List Int} (ndl : d ≠ l) (hl : H l = some (.lst (xs.map V.int))) (hlen : xs.length ≤ 48)
    (hpos : ∀ x ∈ xs, 0 ≤ x) (b0 : 0 ≤ b) (b1 : b < 2147483647) : Deal (upd H d (.lst [.ref l, .int b])) d l :=
  ⟨xs, b, ndl, upd_same, by rw [upd_ne (fun e => ndl e.symm)]; exact hl, hlen, hpos, b0, b1⟩

/-! ### the promises -/
def spAny : Sp := fun vs H Q _ => ∃ (d l : Addr) (n : Int), vs = [.ref d, .int n] ∧ Deal H d l ∧ 0 < n ∧ n < 2 ^ 64 ∧
  ∀ (r : Int) (H' : Hp), 0 ≤ r → r < n → Deal H' d l → But d l H H' → Q (.int r) H'
def spDraw (K : PySem.W.Frag) : Sp := fun vs H Q _ => ∃ (a : Addr) (ns : List Int) (z : Int), vs = [.ref a, .int z] ∧ SqL K H a (ns.map V.int) ∧
  ns.length ≤ 63 ∧ 0 ≤ z ∧ z ≤ 100 ∧ ∀ (d l : Addr) (H' : Hp), H d = none → H l = none → Deal H' d l → Same H H' → Q (.ref d) H'
def spOf (K : PySem.W.Frag) : Sp := fun vs H Q _ => ∃ (d l a : Addr) (xs : List V), vs = [.ref d, .ref a] ∧ Deal H d l ∧
  (∀ H', But d l H H' → SqL K H' a xs) ∧ 0 < xs.length ∧ xs.length ≤ 1000 ∧
  ∀ (i : Nat) (x : V) (H' : Hp), xs[i]? = some x → Deal H' d l → But d l H H' → Q x H'
theorem map_at {ns : List Int} {i : Nat} {x : V} (h : (ns.map V.int)[i]? = some x) : ∃ n, ns[i]? = some n ∧ x = .int n := by
  rw [List.getElem?_map] at h
  cases e : ns[i]? with
  | none =>
    rw [e] at h
    cases h
  | some n =>
    rw [e] at h
    exact ⟨n, rfl, (Option.some.inj h).symm⟩
theorem cut_ints (ns : List Int) (hi : Int) : ∃ ms : List Int, cutV (ns.map V.int) none (some hi) = ms.map V.int ∧ ms.length ≤ ns.length := by
  refine ⟨(ns.drop (HT.sIx ns.length 0 none)).take (HT.sIx ns.length ns.length (some hi) - HT.sIx ns.length 0 none), ?_, ?_⟩
  · unfold cutV
    rw [List.length_map, List.map_take, List.map_drop]
  · rw [List.length_take, List.length_drop]
    omega
theorem cut48 (ns : List Int) : ∃ ms : List Int, cutV (ns.map V.int) none (some 48) = ms.map V.int ∧ ms.length ≤ 48 := by
  refine ⟨ns.take 48, ?_, by rw [List.length_take]; omega⟩
  unfold cutV
  rw [HT.sIx_none, show HT.sIx (ns.map V.int).length (ns.map V.int).length (some 48) = min 48 (ns.map V.int).length from HT.sIx_nat _ _ 48, List.drop_zero, Nat.sub_zero, List.length_map, List.map_take]
  by_cases h : 48 ≤ ns.length
  · rw [Nat.min_eq_left h]
  · rw [Nat.min_eq_right (by omega), List.take_of_length_le (by rw [List.length_map]; omega), List.take_of_length_le (by rw [List.length_map]; omega)]
/-! ### calls by keywords alone, the last parameter's first -/
def revK {α : Type} : List α → List α → List α
  | [], ws => ws.reverse
  | _ :: _, _ => []
theorem kb_rev {K : PySem.W.Frag} {x qual : Str} {st : Stmt} {f : Addr} {fd : FuncData} {ps ks : List Str} (F : Fun K x qual st f fd) (hp : ps ≠ []) (hk : ks.length = ps.length)
    (h : ∀ (kV doc pm : Value) (an : Option Addr) (cdv ct : Value) (ws : List Value), ws.length = ks.length →
      bindArgs (PySem.W.fnOf x qual (defArgs st) (defBody st) (defScope st) .none kV doc pm an cdv ct) ⟨[], ks.zip ws⟩ = pure (ps.zip ws.reverse)) :
    KBinds K fd ps ks revK revK := by
  obtain ⟨oc, od, kV, doc, pm, an, cdv, ct, osl, rfl, lk, hcd⟩ := F.ex
  constructor
  · intro s us ws _ hl
    cases us with
    | cons u r =>
      exact absurd (List.eq_nil_of_length_eq_zero hl.symm) hp
    | nil =>
      have hl' : ws.reverse.length = ps.length := hl
      rw [List.length_reverse] at hl'
      exact .of_eq (h kV doc pm an cdv ct ws (hl'.trans hk.symm))
  · intro vs us zs ws r1 r2
    cases r1 with
    | nil => exact r2.reverse
    | cons _ _ => exact .nil
end Zc
end

section
set_option maxHeartbeats 1000000
/-! Data of any depth: kept from heap to heap, shown, compared. -/
namespace Zc
open PySem PySem.Spec PyProof.Rows L2
section
variable {K : PySem.W.Frag} {H H' : Hp}
theorem Same.seqT {a : Addr} {xs : List V} (e : Same H H') (h : SqT K H a xs) : SqT K H' a xs := by
  rcases h with (h | ⟨o, h⟩) | h
  · exact .inl (.inl (e _ _ h))
  · exact .inl (.inr ⟨o, e _ _ h⟩)
  · exact .inr h
mutual
theorem dp_same (e : Same H H') : ∀ (d : PyData) (v : V), Dp K H v d → Dp K H' v d
  | .none, _, h => by cases h; exact .non
  | .bool b, _, h => by cases h; exact .bl b
  | .int i, _, h => by cases h; exact .int i
  | .str x, _, h => by cases h; exact .str x
  | .list ds, _, h => by
    cases h with
    | lst hs ha => exact .lst (e.seq hs) (dpAll_same e ds _ ha)
  | .tuple ds, _, h => by
    cases h with
    | tup hs ha => exact .tup (Same.seqT e hs) (dpAll_same e ds _ ha)
  | .dict _, _, h => by cases h
theorem dpAll_same (e : Same H H') : ∀ (ds : List PyData) (vs : List V), DpAll K H vs ds → DpAll K H' vs ds
  | [], _, h => by cases h; exact .nil
  | d :: ds, _, h => by
    cases h with
    | cons h1 h2 => exact .cons (dp_same e d _ h1) (dpAll_same e ds _ h2)
end
theorem Dp.keep {d : PyData} {v : V} (h : Dp K H v d) (e : Same H H') : Dp K H' v d := dp_same e d v h
theorem DpAll.keep {ds : List PyData} {vs : List V} (h : DpAll K H vs ds) (e : Same H H') : DpAll K H' vs ds := dpAll_same e ds vs h
theorem DpAll.len : ∀ {ds : List PyData} {vs : List V}, DpAll K H vs ds → vs.length = ds.length
  | [], _, h => by cases h; rfl
  | d :: ds, _, h => by
    cases h with
    | cons h1 h2 => rw [List.length_cons, List.length_cons, DpAll.len h2]
theorem DpAll.get : ∀ {ds : List PyData} {vs : List V} {i : Nat} {x : V}, DpAll K H vs ds → vs[i]? = some x → ∃ d, ds[i]? = some d ∧ Dp K H x d
  | [], _, i, x, h, e => by cases h; cases e
  | d :: ds, _, 0, x, h, e => by
    cases h with
    | cons h1 h2 =>
      cases e
      exact ⟨d, rfl, h1⟩
  | d :: ds, _, i + 1, x, h, e => by
    cases h with
    | cons h1 h2 => exact DpAll.get (i := i) h2 e
theorem DpAll.at : ∀ {ds : List PyData} {vs : List V} {i : Nat} {d : PyData}, DpAll K H vs ds → ds[i]? = some d → ∃ x, vs[i]? = some x ∧ Dp K H x d
  | [], _, i, x, h, e => by cases e
  | d :: ds, _, 0, x, h, e => by
    cases h with
    | cons h1 h2 =>
      cases e
      exact ⟨_, rfl, h1⟩
  | d :: ds, _, i + 1, x, h, e => by
    cases h with
    | cons h1 h2 => exact DpAll.at (i := i) h2 e
theorem DpAll.app : ∀ {ds es : List PyData} {vs us : List V}, DpAll K H vs ds → DpAll K H us es → DpAll K H (vs ++ us) (ds ++ es)
  | [], es, _, us, h, g => by cases h; exact g
  | d :: ds, es, _, us, h, g => by
    cases h with
    | cons h1 h2 => exact .cons h1 (DpAll.app h2 g)
theorem DpAll.snoc {ds : List PyData} {vs : List V} {d : PyData} {v : V} (h : DpAll K H vs ds) (g : Dp K H v d) : DpAll K H (vs ++ [v]) (ds ++ [d]) := DpAll.app h (.cons g .nil)
theorem DpAll.dropLast : ∀ {ds : List PyData} {vs : List V}, DpAll K H vs ds → DpAll K H vs.dropLast ds.dropLast
  | [], _, h => by cases h; exact .nil
  | [d], _, h => by
    cases h with
    | cons h1 h2 =>
      cases h2
      exact .nil
  | d :: e :: ds, _, h => by
    cases h with
    | cons h1 h2 =>
      cases h2 with
      | cons h3 h4 => exact .cons h1 (DpAll.dropLast (.cons h3 h4))
theorem DpAll.take : ∀ {ds : List PyData} {vs : List V} (k : Nat), DpAll K H vs ds → DpAll K H (vs.take k) (ds.take k)
  | _, _, 0, h => by
    rw [List.take_zero, List.take_zero]
    exact .nil
  | [], _, k + 1, h => by cases h; exact .nil
  | d :: ds, _, k + 1, h => by
    cases h with
    | cons h1 h2 => exact .cons h1 (DpAll.take k h2)
theorem DpAll.drop : ∀ {ds : List PyData} {vs : List V} (k : Nat), DpAll K H vs ds → DpAll K H (vs.drop k) (ds.drop k)
  | _, _, 0, h => h
  | [], _, k + 1, h => by cases h; exact .nil
  | d :: ds, _, k + 1, h => by
    cases h with
    | cons h1 h2 => exact DpAll.drop k h2
theorem dp_strs {α : Type} (g : α → Str) : ∀ ss : List α, DpAll K H (ss.map fun a => V.str (g a)) (ss.map fun a => PyData.str (g a))
  | [] => .nil
  | s :: r => .cons (.str _) (dp_strs g r)
theorem dp_intsG {α : Type} (g : α → Int) : ∀ ss : List α, DpAll K H (ss.map fun a => V.int (g a)) (ss.map fun a => PyData.int (g a))
  | [] => .nil
  | s :: r => .cons (.int _) (dp_intsG g r)
theorem strs_of {α : Type} (g : α → Str) : ∀ (ss : List α) (vs : List V), DpAll K H vs (ss.map fun a => PyData.str (g a)) → vs = ss.map fun a => V.str (g a)
  | [], _, h => by cases h; rfl
  | s :: r, _, h => by
    cases h with
    | cons h1 h2 =>
      cases h1
      rw [strs_of g r _ h2]
      rfl
theorem ints_of {α : Type} (g : α → Int) : ∀ (ss : List α) (vs : List V), DpAll K H vs (ss.map fun a => PyData.int (g a)) → vs = ss.map fun a => V.int (g a)
  | [], _, h => by cases h; rfl
  | s :: r, _, h => by
    cases h with
    | cons h1 h2 =>
      cases h1
      rw [ints_of g r _ h2]
      rfl
end

/-! ### a heap without some addresses -/
open Classical in
noncomputable def cut (S : Addr → Prop) (H : Hp) : Hp := fun b => if S b then none else H b
theorem cut_in {S : Addr → Prop} {H : Hp} {b : Addr} {o : HO} (h : cut S H b = some o) : ¬ S b ∧ H b = some o := by
  unfold cut at h
  split at h
  · cases h
  · rename_i n
    exact ⟨n, h⟩
theorem cut_of {S : Addr → Prop} {H : Hp} {b : Addr} {o : HO} (n : ¬ S b) (h : H b = some o) : cut S H b = some o := by
  unfold cut
  rw [if_neg n]
  exact h
theorem same_cut {S S' : Addr → Prop} {H H' : Hp} (h : ∀ b o, ¬ S b → H b = some o → ¬ S' b ∧ H' b = some o) : Same (cut S H) (cut S' H') := fun b o e => by
  obtain ⟨n, e'⟩ := cut_in e
  obtain ⟨n', e2⟩ := h b o n e'
  exact cut_of n' e2
theorem cut_same {S : Addr → Prop} {H H' : Hp} (s : Same H H') : Same (cut S H) (cut S H') := same_cut fun b o n e => ⟨n, s b o e⟩
theorem cut_less {S S' : Addr → Prop} {H : Hp} (s : ∀ b, S' b → S b) : Same (cut S H) (cut S' H) := same_cut fun b o n e => ⟨fun x => n (s b x), e⟩
theorem cut_full {S : Addr → Prop} {H : Hp} : Same (cut S H) H := fun b o e => (cut_in e).2
/-- the deal's two addresses -/
def dl (d l : Addr) : Addr → Prop := fun b => b = d ∨ b = l
theorem cut_but {d l : Addr} {H H' : Hp} (h : But d l H H') : Same (cut (dl d l) H) (cut (dl d l) H') :=
  same_cut fun b o n e => ⟨n, h b o (fun x => n (.inl x)) (fun x => n (.inr x)) e⟩
/-- one more address left out, that was free when the heap was H -/
def orA (S : Addr → Prop) (a : Addr) : Addr → Prop := fun b => S b ∨ b = a
theorem cut_or {S : Addr → Prop} {H H' : Hp} {a : Addr} (n : H a = none) (s : Same H H') : Same (cut S H) (cut (orA S a) H') :=
  same_cut fun b o m e => by
    refine ⟨fun x => ?_, s b o e⟩
    rcases x with x | x
    · exact m x
    · rw [x, n] at e
      cases e
theorem cut_upd {S : Addr → Prop} {H : Hp} {a : Addr} {o : HO} (h : S a) : Same (cut S H) (cut S (upd H a o)) :=
  same_cut fun b u n e => ⟨n, by rw [upd_ne (fun x => n (by rw [x]; exact h))]; exact e⟩
theorem cut_at {S : Addr → Prop} {H : Hp} {a : Addr} {o : HO} (h : ¬ S a) : cut S (upd H a o) a = some o := cut_of h upd_same

/-! ### how long data are when they are shown; what can be compared -/
mutual
def bulk : PyData → Nat
  | .none => 4
  | .bool _ => 5
  | .int _ => 66
  | .str x => 10 * x.length + 2
  | .list xs => bulkAll xs + 3
  | .tuple xs => bulkAll xs + 3
  | .dict _ => 0
def bulkAll : List PyData → Nat
  | [] => 0
  | x :: xs => bulk x + 2 + bulkAll xs
end
mutual
def plainD : PyData → Bool
  | .none => true
  | .bool _ => true
  | .int i => decide (i.natAbs < 2 ^ 64)
  | .str x => PyData.strOk x
  | .list xs => plainAll xs
  | .tuple xs => plainAll xs
  | .dict _ => false
def plainAll : List PyData → Bool
  | [] => true
  | x :: xs => plainD x && plainAll xs
end
mutual
theorem plain_lay : ∀ d : PyData, plainD d = true → d.canLay0 = true ∧ d.hasDict = false ∧ d.showable = true
  | .none, _ => by simp [PyData.canLay0, PyData.hasDict, PyData.showable]
  | .bool _, _ => by simp [PyData.canLay0, PyData.hasDict, PyData.showable]
  | .int i, h => by
    have h' : i.natAbs < 2 ^ 64 := by simpa [plainD] using h
    have : i.natAbs.log2 < 64 := PySem.Flt.log2_lt_of (by decide) h'
    simp only [PyData.canLay0, PyData.hasDict, PyData.showable, true_and, decide_eq_true_eq]
    omega
  | .str x, h => by
    have h' : PyData.strOk x = true := by simpa [plainD] using h
    simp [PyData.canLay0, PyData.hasDict, PyData.showable, h']
  | .list xs, h => by
    have h' : plainAll xs = true := by simpa [plainD] using h
    simpa [PyData.canLay0, PyData.hasDict, PyData.showable] using plainAll_lay xs h'
  | .tuple xs, h => by
    have h' : plainAll xs = true := by simpa [plainD] using h
    simpa [PyData.canLay0, PyData.hasDict, PyData.showable] using plainAll_lay xs h'
  | .dict _, h => by simp [plainD] at h
theorem plainAll_lay : ∀ ds : List PyData, plainAll ds = true → PyData.canLayAll0 ds = true ∧ PyData.hasDictAll ds = false ∧ PyData.showableAll ds = true
  | [], _ => by simp [PyData.canLayAll0, PyData.hasDictAll, PyData.showableAll]
  | d :: ds, h => by
    have h' : plainD d = true ∧ plainAll ds = true := by simpa [plainAll] using h
    obtain ⟨a, b, c⟩ := plain_lay d h'.1
    obtain ⟨a', b', c'⟩ := plainAll_lay ds h'.2
    simp [PyData.canLayAll0, PyData.hasDictAll, PyData.showableAll, a, b, c, a', b', c']
end
theorem piled_tuple (ts : List Str) : (tupleText ts).length ≤ piled ts + 3 := by
  unfold tupleText
  rw [strLen_append, strLen_append]
  have e1 : (("(" : String) : Str).length = 1 := rfl
  have e2 : ((if ts.length == 1 then ",)" else ")" : String) : Str).length ≤ 2 := by
    split
    · exact Nat.le_refl 2
    · exact Nat.le_succ 1
  have e3 : (Str.join ", " ts).length ≤ piled ts := by
    cases ts with
    | nil => exact Nat.zero_le _
    | cons t r =>
      have := join_length_add (t :: r) (by simp)
      omega
  omega
theorem piled_list (ts : List Str) : (listText ts).length ≤ piled ts + 3 := by
  cases ts with
  | nil => show 2 ≤ 0 + 3; decide
  | cons t r =>
    have h := textFrom_length_pos r 1 (("[" : Str) ++ (if (0 : Nat) > 0 then ", " else "" : String) ++ t) (Nat.succ_pos 0)
    have e : ((("[" : Str) ++ (if (0 : Nat) > 0 then ", " else "" : String) ++ t)).length = 1 + t.length := by
      rw [strLen_append, strLen_append]; rfl
    have hX : (listText (t :: r)).length = (textFrom 0 "[" (t :: r)).length + 1 := by
      show (textFrom 0 "[" (t :: r) ++ "]").length = _
      rw [strLen_append]
      rfl
    have hY : textFrom 0 "[" (t :: r) = textFrom 1 (("[" : Str) ++ (if (0 : Nat) > 0 then ", " else "" : String) ++ t) r := rfl
    rw [hX, hY, h, e, piled_cons]
    omega
mutual
theorem bulk_shown : ∀ d : PyData, plainD d = true → d.shown.length ≤ bulk d
  | .none, _ => by simp only [PyData.shown, bulk]; decide
  | .bool b, _ => by cases b <;> (simp only [PyData.shown, bulk]; decide)
  | .int i, h => by
    have h' : i.natAbs < 2 ^ 64 := by simpa [plainD] using h
    have h2 : i.natAbs.log2 < 64 := PySem.Flt.log2_lt_of (by decide) h'
    have h3 := int_text_length_le (a := i) (k := 64) (by decide) h2
    simp only [PyData.shown, bulk]
    show (Str.ofString (toString i)).length ≤ 66
    rw [PySem.ofString_length]
    omega
  | .str x, h => by
    have h' : PyData.strOk x = true := by simpa [plainD] using h
    simp only [PyData.shown, bulk]
    refine PySem.StrLaws.reprText_len x fun c hc => ?_
    unfold PyData.strOk at h'
    rw [← Array.all_toList, List.all_eq_true] at h'
    have h2 : c < 1114112 := of_decide_eq_true (h' c hc)
    have h3 : (16 : Nat) ^ 8 = 4294967296 := rfl
    omega
  | .list xs, h => by
    have h' : plainAll xs = true := by simpa [plainD] using h
    simp only [PyData.shown, bulk]
    exact Nat.le_trans (piled_list _) (Nat.add_le_add_right (bulkAll_shown xs h') 3)
  | .tuple xs, h => by
    have h' : plainAll xs = true := by simpa [plainD] using h
    simp only [PyData.shown, bulk]
    exact Nat.le_trans (piled_tuple _) (Nat.add_le_add_right (bulkAll_shown xs h') 3)
  | .dict _, h => by simp [plainD] at h
theorem bulkAll_shown : ∀ ds : List PyData, plainAll ds = true → piled (PyData.shownAll ds) ≤ bulkAll ds
  | [], _ => by simp [PyData.shownAll, bulkAll, piled]
  | d :: ds, h => by
    have h' : plainD d = true ∧ plainAll ds = true := by simpa [plainAll] using h
    have a := bulk_shown d h'.1
    have b := bulkAll_shown ds h'.2
    simp only [PyData.shownAll, bulkAll, piled_cons]
    omega
end
theorem plain_shaped {d : PyData} (h : plainD d = true) (hd : d.depth ≤ 64) : SeqAt.shaped d = true := by
  unfold SeqAt.shaped
  rw [(plain_lay d h).1, decide_eq_true hd]
  rfl
/-- repr of plain data -/
theorem repr_ans {K : PySem.W.Frag} {H : Hp} {Q : VK} {v : V} {d : PyData} (hD : Dp K H v d) (hdsp : isDisplay d = true) (hp : plainD d = true) (hd : d.depth < 40) (hb : bulk d ≤ sizeLine) (q : Q (.str d.shown) H) :
    ∃ v' d', [v] = [v'] ∧ isDisplay d' = true ∧ Dp K H v' d' ∧ d'.showable = true ∧ d'.hasDict = false ∧ d'.depth < 40 ∧ d'.shown.length ≤ sizeLine ∧ Q (.str d'.shown) H :=
  ⟨v, d, rfl, hdsp, hD, (plain_lay d hp).2.2, (plain_lay d hp).2.1, hd, Nat.le_trans (bulk_shown d hp) hb, q⟩
theorem ne_ans {K : PySem.W.Frag} {H : Hp} {Q : VK} {v u : V} {d e : PyData} (hD : Dp K H v d) (hE : Dp K H u e) (hp : plainD d = true) (hq : plainD e = true) (hd : d.depth ≤ 64) (he : e.depth ≤ 64) (q : Q (.bl (!PyData.eqv d e)) H) : rNeD K v u H Q :=
  ⟨d, e, hD, hE, plain_shaped hp hd, plain_shaped hq he, q⟩
theorem eq_ans {K : PySem.W.Frag} {H : Hp} {Q : VK} {v u : V} {d e : PyData} (hD : Dp K H v d) (hE : Dp K H u e) (hp : plainD d = true) (hq : plainD e = true) (hd : d.depth ≤ 64) (he : e.depth ≤ 64) (q : Q (.bl (PyData.eqv d e)) H) : rEqD K v u H Q :=
  ⟨d, e, hD, hE, plain_shaped hp hd, plain_shaped hq he, q⟩
theorem eqv_self {d : PyData} (h : plainD d = true) : PyData.eqv d d = true := SeqAt.eqv_refl d (plain_lay d h).1
/-! ### lists of texts, of ints -/
theorem plain_strs {α : Type} (g : α → Str) : ∀ ss : List α, (∀ s ∈ ss, PyData.strOk (g s) = true) → plainAll (ss.map fun a => PyData.str (g a)) = true
  | [], _ => by simp [plainAll]
  | s :: r, h => by
    have h1 := h s List.mem_cons_self
    have h2 := plain_strs g r fun x hx => h x (List.mem_cons_of_mem _ hx)
    simp [plainAll, plainD, h1, h2]
theorem plain_ints {α : Type} (g : α → Int) : ∀ ss : List α, (∀ s ∈ ss, (g s).natAbs < 2 ^ 64) → plainAll (ss.map fun a => PyData.int (g a)) = true
  | [], _ => by simp [plainAll]
  | s :: r, h => by
    have h1 := h s List.mem_cons_self
    have h2 := plain_ints g r fun x hx => h x (List.mem_cons_of_mem _ hx)
    simp only [List.map_cons, plainAll, plainD, decide_eq_true h1, h2, Bool.and_self]
theorem depth_flat : ∀ ds : List PyData, (∀ d ∈ ds, d.depth = 0) → PyData.depthAll ds = 0
  | [], _ => by simp [PyData.depthAll]
  | d :: r, h => by
    have h1 := h d List.mem_cons_self
    have h2 := depth_flat r fun x hx => h x (List.mem_cons_of_mem _ hx)
    simp [PyData.depthAll, h1, h2]
theorem depth_strs {α : Type} (g : α → Str) (ss : List α) : PyData.depthAll (ss.map fun a => PyData.str (g a)) = 0 :=
  depth_flat _ fun d hd => by
    obtain ⟨a, _, rfl⟩ := List.mem_map.mp hd
    simp [PyData.depth]
theorem depth_intsG {α : Type} (g : α → Int) (ss : List α) : PyData.depthAll (ss.map fun a => PyData.int (g a)) = 0 :=
  depth_flat _ fun d hd => by
    obtain ⟨a, _, rfl⟩ := List.mem_map.mp hd
    simp [PyData.depth]
theorem bulk_strs {α : Type} (g : α → Str) : ∀ ss : List α, bulkAll (ss.map fun a => PyData.str (g a)) = 10 * (ss.map fun a => (g a).length).sum + 4 * ss.length
  | [] => by simp [bulkAll]
  | s :: r => by
    simp only [List.map_cons, bulkAll, bulk, bulk_strs g r, List.sum_cons, List.length_cons]
    omega
theorem bulk_intsG {α : Type} (g : α → Int) : ∀ ss : List α, bulkAll (ss.map fun a => PyData.int (g a)) = 68 * ss.length
  | [] => by simp [bulkAll]
  | s :: r => by
    simp only [List.map_cons, bulkAll, bulk, bulk_intsG g r, List.length_cons]
    omega
theorem str_len_mk (l : List Nat) : (⟨l.toArray⟩ : Str).length = l.length := by simp [Str.length]
theorem strOk_mk {l : List Nat} (h : ∀ c ∈ l, c < 0x110000) : PyData.strOk ⟨l.toArray⟩ = true := by
  unfold PyData.strOk
  rw [← Array.all_toList, List.all_eq_true]
  intro c hc
  exact decide_eq_true (h c (by simpa using hc))
end Zc
end

section
set_option maxHeartbeats 1000000
/-! What data at a value look like. -/
namespace Zc
open PySem PySem.Spec PyProof.Rows L2
section
variable {K : PySem.W.Frag} {H H' : Hp}
theorem dp_int {v : V} {i : Int} (h : Dp K H v (.int i)) : v = .int i := by cases h; rfl
theorem dp_str {v : V} {x : Str} (h : Dp K H v (.str x)) : v = .str x := by cases h; rfl
theorem dp_bl {v : V} {x : Bool} (h : Dp K H v (.bool x)) : v = .bl x := by cases h; rfl
theorem dp_tup {v : V} {ds : List PyData} (h : Dp K H v (.tuple ds)) : ∃ t xs, v = .ref t ∧ SqT K H t xs ∧ DpAll K H xs ds := by
  cases h with
  | tup a b => exact ⟨_, _, rfl, a, b⟩
theorem dp_lst {v : V} {ds : List PyData} (h : Dp K H v (.list ds)) : ∃ t xs, v = .ref t ∧ SqL K H t xs ∧ DpAll K H xs ds := by
  cases h with
  | lst a b => exact ⟨_, _, rfl, a, b⟩
theorem dp_two {vs : List V} {d e : PyData} (h : DpAll K H vs [d, e]) : ∃ v u, vs = [v, u] ∧ Dp K H v d ∧ Dp K H u e := by
  cases h with
  | cons a b =>
    cases b with
    | cons c b =>
      cases b
      exact ⟨_, _, rfl, a, c⟩
theorem dp_pair {v : V} {d e : PyData} (h : Dp K H v (.tuple [d, e])) : ∃ t x y, v = .ref t ∧ SqT K H t [x, y] ∧ Dp K H x d ∧ Dp K H y e := by
  obtain ⟨t, xs, rfl, a, b⟩ := dp_tup h
  obtain ⟨x, y, rfl, c, d⟩ := dp_two b
  exact ⟨t, x, y, rfl, a, c, d⟩
theorem dp_map {α : Type} {f : α → PyData} {vs : List V} {ss : List α} {i : Nat} {x : V} (h : DpAll K H vs (ss.map f)) (e : vs[i]? = some x) : ∃ a, ss[i]? = some a ∧ Dp K H x (f a) := by
  obtain ⟨d, h1, h2⟩ := DpAll.get h e
  rw [List.getElem?_map] at h1
  cases q : ss[i]? with
  | none =>
    rw [q] at h1
    cases h1
  | some a =>
    rw [q] at h1
    cases h1
    exact ⟨a, rfl, h2⟩
theorem dp_snoc : ∀ {ds : List PyData} {vs : List V} {d : PyData}, DpAll K H vs (ds ++ [d]) → ∃ us v, vs = us ++ [v] ∧ DpAll K H us ds ∧ Dp K H v d
  | [], _, d, h => by
    cases h with
    | cons a b =>
      cases b
      exact ⟨[], _, rfl, .nil, a⟩
  | e :: ds, _, d, h => by
    cases h with
    | cons a b =>
      obtain ⟨us, v, rfl, h1, h2⟩ := dp_snoc b
      exact ⟨_ :: us, v, rfl, .cons a h1, h2⟩
theorem set_last {α : Type} (xs : List α) (x y : α) : (xs ++ [x]).set ((xs ++ [x]).length - 1) y = xs ++ [y] := by
  induction xs with
  | nil => rfl
  | cons a r ih =>
    cases r with
    | nil => rfl
    | cons b r =>
      have e : (a :: b :: r ++ [x]).length - 1 = ((b :: r ++ [x]).length - 1) + 1 := by simp
      rw [e]
      show a :: ((b :: r ++ [x]).set _ y) = _
      rw [ih]
      rfl
theorem ix_last {n : Nat} (h : 0 < n) : L2.ixN n (-1) = some (n - 1) := by
  unfold L2.ixN
  rw [if_neg (by omega), if_pos (by omega)]
  congr 1
  omega
theorem take_snoc {α β : Type} {f : α → β} {ss : List α} {i : Nat} {a : α} (h : ss[i]? = some a) : (ss.take (i + 1)).map f = (ss.take i).map f ++ [f a] := by
  rw [List.take_add_one, h, List.map_append]
  rfl
end
end Zc
end

section
set_option maxHeartbeats 1000000
/-! Rules whose readings speak of the written part, for places within a comprehension: the written part named. -/
namespace Zc
open PySem PySem.Spec PyProof.Rows L2
section
variable {X : Cx} (K : PySem.W.Frag)
theorem pi_listK (h : X.K = K) {tg l : Expr} {tl : TE} (hl : PE X l tl) : PI X tg l (iList K tl) := h ▸ pi_list hl
theorem pi_tupK (h : X.K = K) {tg l : Expr} {tl : TE} (hl : PE X l tl) : PI X tg l (iTup K tl) := h ▸ pi_tup hl
theorem sl_tupK (h : X.K = K) : SlR X (rSlT K) := h ▸ sl_tup
theorem sl_listK (h : X.K = K) : SlR X (rSlL K) := h ▸ sl_list
theorem ix_listK (h : X.K = K) : IxR X (rIxL K) := h ▸ ix_list
theorem ix_tupK (h : X.K = K) : IxR X (rIxT K) := h ▸ ix_tup
theorem op_in_seqK (h : X.K = K) : OpR X (compareOp .In) (rIn K false) := h ▸ op_in_seq
theorem op_notIn_seqK (h : X.K = K) : OpR X (compareOp .NotIn) (rIn K true) := h ▸ op_notIn_seq
theorem op_catTK (h : X.K = K) : OpR X (binaryOp .Add) (rCatT K) := h ▸ op_catT
theorem op_eqDK (h : X.K = K) (hu : X.A.units + 64 < cLine) : OpR X (compareOp .Eq) (rEqD K) := h ▸ op_eqD hu
theorem op_neDK (h : X.K = K) (hu : X.A.units + 64 < cLine) : OpR X (compareOp .NotEq) (rNeD K) := h ▸ op_neD hu
theorem call_len_seqK (h : X.K = K) : CallR X (.builtin "len") (fun xs H Q => ∃ p ys, xs = [.ref p] ∧ (SqL K H p ys ∨ SqT K H p ys) ∧ Q (.int ys.length) H) := h ▸ call_len_seq
theorem call_list_ofK (h : X.K = K) : CallR X (.type "list") (fun xs H Q => ∃ p ys, xs = [.ref p] ∧ (SqL K H p ys ∨ SqT K H p ys) ∧ ∀ l, H l = none → Q (.ref l) (upd H l (.lst ys))) := h ▸ call_list_of
theorem call_tuple_ofK (h : X.K = K) : CallR X (.type "tuple") (fun xs H Q => ∃ p ys, xs = [.ref p] ∧ ((SqL K H p ys ∧ ∀ l, H l = none → Q (.ref l) (upd H l (.tup ys))) ∨ (SqT K H p ys ∧ Q (.ref p) H))) := h ▸ call_tuple_of
theorem cr_sumK (h : X.K = K) (hc : X.calm = true) : CallR X (.builtin "sum") (rSum K) := h ▸ cr_sum hc
end
theorem blkOk_any {N : List Str} {sc scope : Scope} {own : List (Str × Nat)} (h : blkC N sc scope own = true) : BlkOk N sc scope own := blkOk_by h
end Zc
end

section
set_option maxHeartbeats 2000000
/-! any, all of a generator expression whose element is any expression. -/
namespace Zc
open PySem PySem.Spec PyProof.Rows L2 GenW
abbrev tabφ (P : Addr) : Heap → Prop := fun h => ∃ ps : Array Value, h.get? P = some { cls := .none, data := .fields ps } ∧ TriplesOk ps.toList
/-- a code object's table, known to be one -/
abbrev tabX (P : Addr) : HO := .ext (tabφ P)
theorem tabφ_stay {P : Addr} : ∀ h1 h2 : Heap, tabφ P h1 → (∀ o, h1.get? P = some o → h2.get? P = some o) → tabφ P h2 :=
  fun h1 h2 ⟨ps, e, t⟩ k => ⟨ps, k _ e, t⟩
section
variable {X : Cx} {pins : List (Addr × Obj)} {σ : L2.St} {H : Hp} {s : Shared}
theorem upd_self {P : Addr} {o : HO} (h : H P = some o) : upd H P o = H := by
  funext b
  by_cases hb : b = P
  · rw [hb, upd_same, h]
  · rw [upd_ne hb]
/-- the table may have grown -/
theorem inv_code {P : Addr} {ps : Array Value} {h' : Heap} {t' : Nat} (I : Inv X pins σ H s) (hP : H P = some (tabX P)) (k : ∀ b o, b ≠ P → s.heap.get? b = some o → h'.get? b = some o)
    (hm : h'.get? P = some { cls := .none, data := .fields ps }) (ht : TriplesOk ps.toList) : Inv X pins σ H { s with heap := h', toks := t' } := by
  have J := I.write (h' := h') (t' := t') (x := P) (e := P) (o := tabX P) (by rw [hP]; trivial) (.inl rfl) k ⟨_, hm⟩ ⟨⟨ps, hm, ht⟩, ⟨_, hm⟩, tabφ_stay⟩
  rw [upd_self hP] at J
  exact J
end
/-- the context of a generator expression's frame -/
abbrev gCx (X : Cx) (A : Around) (s : Shared) (H : Hp) (ge : Env) (fp : List Addr) (pn : List (Addr × Obj)) : Cx :=
  { X with A := A, s_0 := s, H_0 := H, env := ge, outer := X.stack, stack := ge :: X.stack, ex := fp, fn := fun _ => false, calm := true, pn := pn, xe := fun _ _ => False }
section
variable {X : Cx} {pins : List (Addr × Obj)} {σ : L2.St} {H : Hp} {s : Shared}
theorem free_has {scope : Scope} {own : List (Str × Nat)} (I : Inv X pins σ H s) (ok : BlkOk X.N X.env.scope scope own) {n : Str × NameKind} (hn : n ∈ scope.names) (hf : n.2 = .free) :
    ∃ cell, X.env.cells.lookup n.1 = some cell :=
  (ok.free n hn hf).elim (fun z => I.ok.has _ (.inl z)) (fun z => I.ok.has _ (.inr z))
/-- a captured cell is the maker's, and stands -/
theorem clo_old {scope : Scope} {own : List (Str × Nat)} (I : Inv X pins σ H s) (ok : BlkOk X.N X.env.scope scope own) {n : Str} {cell : Addr}
    (hm : (n, cell) ∈ cloFrom X.env.cells scope.names []) : X.env.cells.lookup n = some cell ∧ cell < s.heap.objs.size := by
  have h := cloFrom_mem hm
  simp only [List.not_mem_nil, false_or] at h
  obtain ⟨c0, e0⟩ := free_has I ok h.1 rfl
  have e1 : cell = c0 := by
    rw [h.2, e0]
    rfl
  rw [e1]
  exact ⟨e0, (I.cell n c0 e0).elim fun _ z => z.lt⟩
theorem clo_look {scope : Scope} {own : List (Str × Nat)} (I : Inv X pins σ H s) (ok : BlkOk X.N X.env.scope scope own) {n : Str} (hl : scope.names.lookup n = some .free) :
    ∃ cell, (cloFrom X.env.cells scope.names []).lookup n = some cell ∧ X.env.cells.lookup n = some cell := by
  obtain ⟨cell, e⟩ := mem_lookup (cloFrom_has (cells := X.env.cells) (acc := []) (PySem.mem_of_lookup hl))
  exact ⟨cell, e, (clo_old I ok (PySem.mem_of_lookup e)).1⟩
theorem gen_start {scope : Scope} {own : List (Str × Nat)} {fp : List Addr} {A : Around} {ge : Env} {pn : List (Addr × Obj)} {s' : Shared} {m : Str → Option Value}
    (I : Inv X pins σ H s) (ok : BlkOk X.N X.env.scope scope own) (hcell : ∀ y ∈ scope.names, y.2 ≠ .cell) (hN : X.N.Nodup) (hfp : ∀ b ∈ fp, FpOk X pins H b ∧ b < s.heap.objs.size)
    (e1 : ge.scope = scope) (e2 : ge.locals = s.heap.objs.size) (e3 : ge.globals = mainGlobals) (e4 : ge.builtins = builtinsNs) (e5 : ge.cells = cloFrom X.env.cells scope.names []) (e6 : ge.frame = some s.heap.objs.size)
    (hA : A.frames = some (ge :: X.stack)) (hh : A.handled = none) (kp : ∀ b o, s.heap.get? b = some o → s'.heap.get? b = some o) (hos : s'.os = s.os) (hg : AllBare s'.gens)
    (hn : s'.heap.Ns s.heap.objs.size m) (hpn : ∀ p ∈ pn, s'.heap.get? p.1 = some p.2 ∧ s.heap.objs.size < p.1 ∧ ∀ v, p.2.data ≠ .cell v) :
    Inv (gCx X A s H ge fp pn) [] (wipe σ (own.map (·.2))) H s' := by
  have mem : ∀ {y c}, ge.cells.lookup y = some c → X.env.cells.lookup y = some c ∧ c < s.heap.objs.size := fun {y c} e => by
    rw [e5] at e
    exact clo_old I ok (PySem.mem_of_lookup e)
  have look : ∀ {n}, scope.names.lookup n = some .free → ∃ cell, ge.cells.lookup n = some cell ∧ X.env.cells.lookup n = some cell := fun {n} hl => by
    rw [e5]
    exact clo_look I ok hl
  have kind_of : ∀ {y k}, ge.kindOf y = some k → scope.names.lookup y = some k := fun {y k} h => by
    unfold Env.kindOf at h
    rw [e1] at h
    exact h
  have okB : (gCx X A s H ge fp pn).Ok := by
    refine ⟨I.ok.mod, by show ge.scope.kind = _; rw [e1]; exact ok.kind, e3, e4, by show s.heap.objs.size ≤ ge.locals; rw [e2]; exact Nat.le_refl _,
      fun y z c h1 h2 => I.ok.inj y z c (mem h1).1 (mem h2).1, fun y hy => ?_, fun y c z e => ?_, fun _ => hh, hA, .inr ⟨rfl, ?_⟩, fun b hb => ⟨?_, fun y c e z => ?_⟩, I.bs, Nat.le_trans I.ok.bsz I.sz, fun b o e hb => ?_, fun b hb z => ?_, I.stack, I.stkFree⟩
    · rcases hy with hy | hy
      · exact absurd rfl (hcell _ (PySem.mem_of_lookup (kind_of hy)))
      · obtain ⟨c, h, _⟩ := look (kind_of hy)
        exact ⟨c, h⟩
    · exact absurd (show false = true from z) Bool.false_ne_true
    · show ge.frame = some ge.locals
      rw [e6, e2]
    · show b ≠ ge.locals
      rw [e2]
      exact Nat.ne_of_lt (hfp b hb).2
    · exact (hfp b hb).1.2.2.2.2.1 y c (mem e).1 z
    · refine (hfp b hb).1.2.2.2.1.elim (I.ok.noex b o e) fun z => ?_
      exact Nat.lt_irrefl b (Nat.lt_of_lt_of_le (Nat.lt_of_lt_of_le (Heap.lt_size e) I.ok.bsz) z)
    · exact (List.mem_cons.mp (I.stkSub b z)).elim (hfp b hb).1.2.1 (hfp b hb).1.2.2.1
  refine ⟨okB, hos, hg, Un.kept kp, ⟨m, by show s'.heap.Ns ge.locals m; rw [e2]; exact hn, fun i y av q1 q2 q3 => ?_⟩, fun y c e => ?_, ?_, fun y c e => ?_, fun p hp => ?_, I.hok.kept kp, by rw [wipe_length]; exact I.len⟩
  · obtain ⟨q2, hne⟩ := wipe_some q2
    -- a name that still has a value here is a captured one
    have capt : scope.names.lookup y = some .free := by
      have vis : Vis scope y := by rw [← e1]; exact q3
      have notOwn : ∀ kd : NameKind, (kd = .local ∨ kd = .cell) → scope.names.lookup y ≠ some kd := fun kd hkd e => by
        rcases ok.own _ (PySem.mem_of_lookup e) hkd with inOwn | notN
        · obtain ⟨⟨n0, i0⟩, hp0, hn0⟩ := List.mem_map.mp inOwn
          have hn1 : n0 = y := hn0
          subst hn1
          exact hne (List.mem_map.mpr ⟨_, hp0, nodup_ix hN (ok.ix _ hp0) q1⟩)
        · exact notN (List.mem_of_getElem? q1)
      rcases vis with v | v | v
      · exact (notOwn _ (.inl rfl) v).elim
      · exact (notOwn _ (.inr rfl) v).elim
      · exact v
    obtain ⟨cell, hc1, hc2⟩ := look capt
    obtain ⟨m', _, hl⟩ := I.loc
    have seen := ok.free _ (PySem.mem_of_lookup capt) rfl
    obtain ⟨u, hu, lk⟩ := hl i y av q1 q2 (seen.elim (fun z => .inr (.inl z)) fun z => .inr (.inr z))
    refine ⟨u, hu, .inr ⟨.inr (by show ge.scope.names.lookup y = _; rw [e1]; exact capt), cell, hc1, ?_⟩⟩
    rcases lk with ⟨kl, _⟩ | ⟨_, c2, h2, isc⟩
    · have kl2 : X.env.scope.names.lookup y = some .local := kl
      rcases seen with z | z
      · rw [show X.env.scope.names.lookup y = some .cell from z] at kl2
        cases kl2
      · rw [show X.env.scope.names.lookup y = some .free from z] at kl2
        cases kl2
    · rw [hc2] at h2
      cases h2
      exact isc.keeps kp
  · obtain ⟨w, z⟩ := I.cell y c (mem e).1
    exact ⟨w, z.keeps kp⟩
  · show H ge.locals = none
    rw [e2]
    exact I.hok.fresh (Nat.le_refl _)
  · exact I.freeC y c (mem e).1
  · rw [List.append_nil] at hp
    obtain ⟨h1, h2, h3⟩ := hpn p hp
    refine ⟨h1, I.hok.fresh (Nat.le_of_lt h2), ?_, fun z => ?_, h3⟩
    · show p.1 ≠ ge.locals
      rw [e2]
      exact Nat.ne_of_gt h2
    · rcases List.mem_cons.mp (I.stkSub _ z) with z | z
      · have := I.lt
        rw [← z] at this
        exact absurd (Nat.lt_trans this h2) (Nat.lt_irrefl _)
      · exact I.nofs (Nat.le_of_lt h2) z
end

/-- a generator's frame over the around of its waking -/
theorem over_gen {A : Around} {elt tg iter : Expr} {ifs : List Expr} {scope : Scope} {pos : Pos} {it acc : Value} {ge : Env} {fs : List Env} (hf : A.frames = some fs) :
    (A.over (.compLoop (.GeneratorExp elt [⟨tg, iter, ifs, 0⟩] scope pos) 0 it acc ge) []).frames = some (ge :: fs) := by
  obtain ⟨hd, d, fr, gs, u⟩ := A
  have : fr = some fs := hf
  subst this
  rfl
theorem room_gen {A : Around} {k : Nat} {elt tg iter : Expr} {ifs : List Expr} {scope : Scope} {pos : Pos} {it acc : Value} {ge : Env} (hr : Room (k + 1) A) :
    Room k (A.over (.compLoop (.GeneratorExp elt [⟨tg, iter, ifs, 0⟩] scope pos) 0 it acc ge) []) := by
  refine ⟨hr.hd, ?_, ?_⟩
  · have := hr.dp
    have e : (A.over (.compLoop (.GeneratorExp elt [⟨tg, iter, ifs, 0⟩] scope pos) 0 it acc ge) []).depth ≤ A.depth + 1 := by
      obtain ⟨hd, d, fr, gs, u⟩ := A
      exact Nat.le_refl _
    omega
  · have := hr.un
    have e : (A.over (.compLoop (.GeneratorExp elt [⟨tg, iter, ifs, 0⟩] scope pos) 0 it acc ge) []).units ≤ A.units + 3 := by
      obtain ⟨hd, d, fr, gs, u⟩ := A
      exact Nat.le_refl _
    omega
section
variable {X : Cx} {G : Cx}
/-- what has been handed out: a truth; where it is not go (the one with which the walk goes on), it is the end -/
def YA (G : Cx) (go : Bool) (Q : VK) : Protocol := fun n s₀ v s kap =>
  ∃ b σ H, v = .bool b ∧ Inv G [] σ H s ∧ (if b = go then ∀ s' : Shared, s'.heap = s.heap → s'.os = s.os → AllBare s'.gens → kap (.send .none) s' else Q (.bl (!go)) H)
def RA (G : Cx) (go : Bool) (Q : VK) : Nat → Shared → Shared → Prop := fun _ _ s => ∃ σ H, Inv G [] σ H s ∧ Q (.bl go) H
abbrev REA (G : Cx) (go : Bool) (Q : VK) : GenEnd := fun n s₀ r s => r = .ok .next ∧ RA G go Q n s₀ s
theorem inv_gens {pins : List (Addr × Obj)} {σ : L2.St} {H : Hp} {s s' : Shared} (I : Inv G pins σ H s) (h : s'.heap = s.heap) (o : s'.os = s.os) (b : AllBare s'.gens) : Inv G pins σ H s' := by
  obtain ⟨h', g', d', t', o'⟩ := s'
  have e1 : h' = s.heap := h
  have e2 : o' = s.os := o
  subst e1 e2
  exact I.call (g' := g') (t' := t') (d' := d') Un.refl I.hok b (ch := []) (fun b hb => absurd hb List.not_mem_nil)
/-- the reading: go is True for all, False for any -/
def gWalk (go : Bool) (J : It) (g : TG) (tt : TT) (te : TE) (vs : List Nat) (σ : L2.St) (Q : VK) (W : Nat → Nat → Hp → Prop) : Prop :=
  ∀ i m H, W i m H → (J.stop i H ∧ Q (.bl go) H) ∨ (J.go i H ∧ ∃ Nx : Hp → Prop, (∀ H', Nx H' → ∃ m', m' < m ∧ W (i + 1) m' H') ∧ ∀ x H', J.yld i H x H' → g x (wipe σ vs) H' fun σ2 H2 => wipe σ2 vs = wipe σ vs ∧ tt σ2 H2 fun b H3 =>
    if b = true then te σ2 H3 fun y H4 => ∃ c, y = .bl c ∧ if c = go then Nx H4 else Q (.bl (!go)) H4 else Nx H3)
theorem seg_genA {A : Around} {elt tg iter : Expr} {ifs : List Expr} {scope : Scope} {pos : Pos} {it : Addr} {ge : Env} {fp : List Addr} {tn : Nat → Heap → Prop} {J : It} {go : Bool} {g : TG} {tt : TT} {te : TE} {vs : List Nat} {σ : L2.St} {Q : VK} {W : Nat → Nat → Hp → Prop}
    (hGA : G.A = A.over (.compLoop (.GeneratorExp elt [⟨tg, iter, ifs, 0⟩] scope pos) 0 (.ref it) .none ge) []) (hGe : G.env = ge) (hcal : G.calm = true) (hxe : G.xe = fun _ _ => False) (hex : G.ex = fp)
    (hco : ge.scope.isCoroutine = false) (hpn : ∀ b ∈ fp, ∀ p ∈ G.pn, p.1 ≠ b) (T : Turn G.prog G.w G.K tg J fp it tn) (pg : PG G tg g) (pt : PTs G ifs tt) (pe : PE G elt te) (turn : gWalk go J g tt te vs σ Q W) :
    ∀ (m n i : Nat) (s₀ s : Shared) (H : Hp), m < n → Inv G [] (wipe σ vs) H s → tn i s.heap → (∀ b ∈ fp, H b = none) → W i m H →
      Seg (model G.prog G.w) A (REA G go Q) (YA G go Q) n s₀ (.compLoop (.GeneratorExp elt [⟨tg, iter, ifs, 0⟩] scope pos) 0 (.ref it) .none ge)
        ((model G.prog G.w).den (.compLoop (.GeneratorExp elt [⟨tg, iter, ifs, 0⟩] scope pos) 0 (.ref it) .none ge)) [] s := by
  have stat : ∀ {σ' : L2.St} {H' : Hp} {s' : Shared}, Inv G [] σ' H' s' → (∀ b ∈ fp, H' b = none) → ∀ b ∈ fp, FpOk G [] H' b := fun {σ' H' s'} I' hn b hb => by
    have hb' : b ∈ G.ex := by rw [hex]; exact hb
    exact ⟨hn b hb, (I'.ok.exf b hb').1, I'.ok.exfs b hb', .inl hb', fun x c e => (I'.ok.exf b hb').2 x c e, fun p hp => hpn b hb p (by rwa [List.append_nil] at hp)⟩
  intro m
  induction m using Nat.strongRecOn with
  | ind m ih =>
    intro n i s₀ s H hmn I st nf w
    show Seg _ A _ _ _ s₀ _ ((compTurn (.GeneratorExp elt [⟨tg, iter, ifs, 0⟩] scope pos) 0 (.ref it) .none ge).onRaise (leaving ge)) [] s
    rw [compTurn_gen, Sem.onRaise_eq_wrap]
    refine seg_bind_wrap (wpAny_standAt ?_)
    refine seg_bind_wrap ?_
    rw [← hGA]
    rcases turn i m H w with ⟨stop, q⟩ | ⟨goes, Nx, hNx, step⟩
    · have td := T.done G rfl rfl rfl hcal i [] s _ H (fun _ _ => False) I (stat I nf) st stop
      refine thnF td fun r s6 ⟨hr, I6⟩ => ?_
      subst hr
      exact seg_end (.ok .next) ⟨rfl, _, _, I6, q⟩
    · have ti := T.item G rfl rfl rfl hcal i [] s _ H (fun _ _ => False) I (stat I nf) st goes
      refine thnF ti fun r s6 ⟨u, hr, h6⟩ => ?_
      subst hr
      refine seg_bind_wrap ?_
      rw [← hGA]
      refine thnF h6 fun _ s7 ⟨x, H7, I7, r7, y7, st7, n7⟩ => ?_
      have I7' := I7.pinned (stat I7 n7) (T.obj _ _ st7)
      refine seg_bind_wrap ?_
      rw [← hGA]
      have pg' := pg.run _ s7 _ H7 x u _ I7' r7 (step x H7 y7)
      rw [hxe, hGe] at pg'
      refine thnF pg' fun _ s8 ⟨σ8, H8, I8, hw8, q8⟩ => ?_
      refine seg_bind_wrap ?_
      rw [← hGA]
      have pt' := pt.run _ s8 σ8 H8 _ I8 q8
      rw [hxe, hGe] at pt'
      refine thnF pt' fun b s9 ⟨H9, I9, q9⟩ => ?_
      -- the turn's end
      have back : ∀ {s' : Shared} {H' : Hp}, Inv G ([] ++ pinsAt fp s7.heap) σ8 H' s' → Inv G [] (wipe σ vs) H' s' ∧ tn (i + 1) s'.heap ∧ ∀ b ∈ fp, H' b = none := fun {s' H'} I' => by
        have held : ∀ (q : Addr) (ob : Obj), q ∈ fp → s7.heap.get? q = some ob → s'.heap.get? q = some ob ∧ H' q = none := fun q ob hq eq =>
          have z := I'.pin (q, ob) (List.mem_append_right _ (List.mem_append_right _ (mem_pinsAt hq eq)))
          ⟨z.1, z.2.1⟩
        have hl : (wipe σ vs).length = σ8.length := by rw [← hw8, wipe_length]
        refine ⟨(I'.unpinned (pins := [])).weak hl (fun j v e => ?_), T.keep _ _ _ st7 fun q hq ob eq => (held q ob hq eq).1, fun q hq => ?_⟩
        · rw [← hw8] at e
          exact (wipe_some e).1
        · exact (T.obj _ _ st7 q hq).elim fun ob eq => (held q ob hq eq.1).2
      cases b with
      | false =>
        simp only [Bool.false_eq_true, if_false] at q9 ⊢
        obtain ⟨m', hm, w'⟩ := hNx _ q9
        obtain ⟨I', st', nf'⟩ := back I9
        exact seg_again rfl (ih m' hm n (i + 1) s₀ s9 H9 (Nat.lt_trans hm hmn) I' st' nf' w')
      | true =>
        simp only [if_true] at q9 ⊢
        have hy : ∀ v, yieldOut ge v = yieldValue v := fun v => by simp only [yieldOut, hco, Bool.false_eq_true, if_false]
        simp only [hy]
        rw [Sem.bind_eq_wrap', Sem.bind_eq_wrap', Sem.wrap_wrap, Sem.wrap_wrap]
        refine seg_wrap ?_
        rw [← hGA]
        have pe' := pe.run _ s9 σ8 H9 _ I9 q9
        rw [hxe, hGe] at pe'
        refine thnF pe' fun z s10 ⟨yv, H10, I10, r10, c, ec, q10⟩ => ?_
        subst ec
        have ez : z = Value.bool c := r10
        subst ez
        obtain ⟨n, rfl⟩ : ∃ k, n = k + 1 := ⟨n - 1, by omega⟩
        obtain ⟨I', st', nf'⟩ := back I10
        refine seg_at (seg_yield rfl rfl rfl ⟨c, _, H10, rfl, I', ?_⟩)
        by_cases hc : c = go
        · rw [if_pos hc] at q10 ⊢
          intro s' hs ho hb
          obtain ⟨m', hm, w'⟩ := hNx _ q10
          exact seg_again rfl (ih m' hm n (i + 1) s' s' H10 (by omega) (inv_gens I' hs ho hb) (by rw [hs]; exact st') nf' w')
        · rw [if_neg hc] at q10 ⊢
          exact q10

theorem seg_startA {A : Around} {elt tg iter : Expr} {ifs : List Expr} {scope : Scope} {pos : Pos} {it : Addr} {ge : Env} {fp : List Addr} {tn : Nat → Heap → Prop} {J : It} {R : GenEnd} {Y : Protocol} {n : Nat} {s₀ s : Shared} (T : Turn G.prog G.w G.K tg J fp it tn) (st : tn 0 s.heap)
    (loop : Seg (model G.prog G.w) A R Y n s₀ (.compLoop (.GeneratorExp elt [⟨tg, iter, ifs, 0⟩] scope pos) 0 (.ref it) .none ge)
        ((model G.prog G.w).den (.compLoop (.GeneratorExp elt [⟨tg, iter, ifs, 0⟩] scope pos) 0 (.ref it) .none ge)) [] s) :
    Seg (model G.prog G.w) A R Y n s₀ (.compStart (.GeneratorExp elt [⟨tg, iter, ifs, 0⟩] scope pos) 0 (.ref it) .none ge)
        ((model G.prog G.w).den (.compStart (.GeneratorExp elt [⟨tg, iter, ifs, 0⟩] scope pos) 0 (.ref it) .none ge)) [] s := by
  show Seg _ A _ _ _ s₀ _ ((compStart (.GeneratorExp elt [⟨tg, iter, ifs, 0⟩] scope pos) 0 (.ref it) .none ge).onRaise (leaving ge)) [] s
  unfold compStart
  rw [Sem.onRaise_eq_wrap]
  show Seg _ A _ _ _ s₀ _ ((ask >>= _).wrap _ _ _ _) [] s
  refine seg_bind_wrap (wpAny_askSetting ?_)
  split
  · exact seg_again rfl loop
  · first
      | exact seg_bind_wrap (wpAny_rule (seg_bind_wrap (wpAny_standAt (seg_bind_wrap (T.self _ 0 s _ _ st (seg_again rfl loop))))))
      | (refine seg_bind_wrap (wpAny_rule ?_); show Seg _ A _ _ _ s₀ _ ((standAt iter.pos >>= _).wrap _ _ _ _) [] s; exact seg_bind_wrap (wpAny_standAt (seg_bind_wrap (T.self _ 0 s _ _ st (seg_again rfl loop)))))
/-- the loop of all() -/
theorem all_loopA {A : Around} {R : Result → Shared → Prop} {a : Addr} {g : Nat} {Q : VK} (hh : A.handled = none) (hd : A.depth < recursionLimit)
    (hgen : ∀ σ' H' s1, Inv G [] σ' H' s1 → s1.heap.IsGen a g) (fin : ∀ b σ' H' s1 s', Inv G [] σ' H' s1 → Q (.bl b) H' → s'.os = s1.os → AllBare s'.gens → (∀ b o, s1.heap.get? b = some o → s'.heap.get? b = some o) → R (.ok (.ret (.bool b))) s') :
    ∀ (n : Nat) (s : Shared), s.heap.IsGen a g → s.heap.NoLimit → (∃ gs, s.gens[g]? = some gs ∧ gs.Goes (model G.prog G.w) A.in1.in1 (REA G true Q) (YA G true Q) n (.send .none) (s.setGen g .running)) →
      codeAny (model G.prog G.w) A (.builtin "all.loop" ⟨[.ref a], []⟩) R s := by
  intro n
  induction n with
  | zero =>
    intro s hg hl ⟨gs, hgs, hgo⟩
    refine codeAny_builtin F.entry_all_loop ?_
    rw [Around.under_plainId F.plain_all_loop _]
    show wpAny _ A.in1 (pyNext (.ref a) >>= _) _ _ s
    refine wpAny_bind (wpAny_pyNext_genexpQ (P := RA G true Q) (A := A.in1) hh hl hd hg hgs hgo (fun v s₁ gs' hb hv => ?_) (fun s₁ hp h' hk => ?_))
    · obtain ⟨b, σ', H', rfl, I1, hk⟩ := hv
      refine wpAny_bind (wpAny_holding (wpAny_truthy_bool ?_))
      refine wpAny_bind (wpAny_letGo ?_)
      cases b with
      | true => exact (hk s₁ rfl rfl I1.bare).elim
      | false =>
        simp only [Bool.false_eq_true, if_false] at hk ⊢
        refine wpAny_bind (wpAny_rule (wpAny_pure ?_))
        exact fin false σ' H' s₁ _ I1 hk rfl (allBare_setGen I1.bare hb) fun _ _ e => e
    · obtain ⟨σ', H', I1, q⟩ := hp
      refine wpAny_bind (wpAny_rule (wpAny_pure ?_))
      exact fin true σ' H' s₁ _ I1 q rfl (allBare_setGen I1.bare rfl) hk
  | succ n ih =>
    intro s hg hl ⟨gs, hgs, hgo⟩
    have hgl : g + 1 ≤ s.gens.size := (Array.getElem?_eq_some_iff.mp hgs).1
    refine codeAny_builtin F.entry_all_loop ?_
    rw [Around.under_plainId F.plain_all_loop _]
    show wpAny _ A.in1 (pyNext (.ref a) >>= _) _ _ s
    refine wpAny_bind (wpAny_gsz (n := g + 1) hgl (wpAny_pyNext_genexpQ (P := RA G true Q) (A := A.in1) hh hl hd hg hgs hgo (fun v s₁ gs' hb hv => ?_) (fun s₁ hp h' hk => ?_)))
    · intro hsz
      rw [setGen_size] at hsz
      obtain ⟨b, σ', H', rfl, I1, hk⟩ := hv
      refine wpAny_bind (wpAny_holding (wpAny_truthy_bool ?_))
      refine wpAny_bind (wpAny_letGo ?_)
      cases b with
      | true =>
        simp only [if_true] at hk ⊢
        have hb1 := allBare_setGen I1.bare hb (g := g)
        exact wpAny_pure ⟨plainId_quiet F.plain_all_loop _, ih (s₁.setGen g gs') (show (s₁.setGen g gs').heap.IsGen a g from hgen σ' H' s₁ I1) (show (s₁.setGen g gs').heap.NoLimit from I1.nolimit) ⟨gs', setGen_at hsz, hk _ rfl rfl (allBare_setGen hb1 rfl)⟩⟩
      | false =>
        simp only [Bool.false_eq_true, if_false] at hk ⊢
        refine wpAny_bind (wpAny_rule (wpAny_pure ?_))
        exact fin false σ' H' s₁ _ I1 hk rfl (allBare_setGen I1.bare hb) fun _ _ e => e
    · intro _
      obtain ⟨σ', H', I1, q⟩ := hp
      refine wpAny_bind (wpAny_rule (wpAny_pure ?_))
      exact fin true σ' H' s₁ _ I1 q rfl (allBare_setGen I1.bare rfl) hk
/-- the loop of any() -/
theorem any_loopA {A : Around} {R : Result → Shared → Prop} {a : Addr} {g : Nat} {Q : VK} (hh : A.handled = none) (hd : A.depth < recursionLimit)
    (hgen : ∀ σ' H' s1, Inv G [] σ' H' s1 → s1.heap.IsGen a g) (fin : ∀ b σ' H' s1 s', Inv G [] σ' H' s1 → Q (.bl b) H' → s'.os = s1.os → AllBare s'.gens → (∀ b o, s1.heap.get? b = some o → s'.heap.get? b = some o) → R (.ok (.ret (.bool b))) s') :
    ∀ (n : Nat) (s : Shared), s.heap.IsGen a g → s.heap.NoLimit → (∃ gs, s.gens[g]? = some gs ∧ gs.Goes (model G.prog G.w) A.in1.in1 (REA G false Q) (YA G false Q) n (.send .none) (s.setGen g .running)) →
      codeAny (model G.prog G.w) A (.builtin "any.loop" ⟨[.ref a], []⟩) R s := by
  intro n
  induction n with
  | zero =>
    intro s hg hl ⟨gs, hgs, hgo⟩
    refine codeAny_builtin F.entry_any_loop ?_
    rw [Around.under_plainId F.plain_any_loop _]
    show wpAny _ A.in1 (pyNext (.ref a) >>= _) _ _ s
    refine wpAny_bind (wpAny_pyNext_genexpQ (P := RA G false Q) (A := A.in1) hh hl hd hg hgs hgo (fun v s₁ gs' hb hv => ?_) (fun s₁ hp h' hk => ?_))
    · obtain ⟨b, σ', H', rfl, I1, hk⟩ := hv
      refine wpAny_bind (wpAny_holding (wpAny_truthy_bool ?_))
      refine wpAny_bind (wpAny_letGo ?_)
      cases b with
      | false => exact (hk s₁ rfl rfl I1.bare).elim
      | true =>
        simp only [Bool.true_eq_false, if_false, if_true] at hk ⊢
        refine wpAny_bind (wpAny_rule (wpAny_pure ?_))
        exact fin true σ' H' s₁ _ I1 hk rfl (allBare_setGen I1.bare hb) fun _ _ e => e
    · obtain ⟨σ', H', I1, q⟩ := hp
      refine wpAny_bind (wpAny_rule (wpAny_pure ?_))
      exact fin false σ' H' s₁ _ I1 q rfl (allBare_setGen I1.bare rfl) hk
  | succ n ih =>
    intro s hg hl ⟨gs, hgs, hgo⟩
    have hgl : g + 1 ≤ s.gens.size := (Array.getElem?_eq_some_iff.mp hgs).1
    refine codeAny_builtin F.entry_any_loop ?_
    rw [Around.under_plainId F.plain_any_loop _]
    show wpAny _ A.in1 (pyNext (.ref a) >>= _) _ _ s
    refine wpAny_bind (wpAny_gsz (n := g + 1) hgl (wpAny_pyNext_genexpQ (P := RA G false Q) (A := A.in1) hh hl hd hg hgs hgo (fun v s₁ gs' hb hv => ?_) (fun s₁ hp h' hk => ?_)))
    · intro hsz
      rw [setGen_size] at hsz
      obtain ⟨b, σ', H', rfl, I1, hk⟩ := hv
      refine wpAny_bind (wpAny_holding (wpAny_truthy_bool ?_))
      refine wpAny_bind (wpAny_letGo ?_)
      cases b with
      | false =>
        simp only [if_true] at hk
        simp only [Bool.false_eq_true, if_false]
        have hb1 := allBare_setGen I1.bare hb (g := g)
        exact wpAny_pure ⟨plainId_quiet F.plain_any_loop _, ih (s₁.setGen g gs') (show (s₁.setGen g gs').heap.IsGen a g from hgen σ' H' s₁ I1) (show (s₁.setGen g gs').heap.NoLimit from I1.nolimit) ⟨gs', setGen_at hsz, hk _ rfl rfl (allBare_setGen hb1 rfl)⟩⟩
      | true =>
        simp only [Bool.true_eq_false, if_false, if_true] at hk ⊢
        refine wpAny_bind (wpAny_rule (wpAny_pure ?_))
        exact fin true σ' H' s₁ _ I1 hk rfl (allBare_setGen I1.bare hb) fun _ _ e => e
    · intro _
      obtain ⟨σ', H', I1, q⟩ := hp
      refine wpAny_bind (wpAny_rule (wpAny_pure ?_))
      exact fin false σ' H' s₁ _ I1 q rfl (allBare_setGen I1.bare rfl) hk
end
/-- the reading of any(..), all(..): go is False for any, True for all; P: the running def's table -/
def tGen (P : Addr) (go : Bool) (wi : TI) (g : TG) (tt : TT) (te : TE) (vs : List Nat) : TE := fun σ H Q => wi σ H fun J H1 => H1 P = some (tabX P) ∧ ∃ W : Nat → Nat → Hp → Prop, (∃ m, W 0 m H1) ∧ gWalk go J g tt te vs σ Q W
section
variable {X : Cx}
/-- what a generator expression's making leaves -/
def GReady (X : Cx) (pins : List (Addr × Obj)) (σ : L2.St) (go : Bool) (Q : VK) (u : Value) (s' : Shared) : Prop :=
  ∃ (G : Cx) (a : Addr) (gi n : Nat), G.prog = X.prog ∧ G.w = X.w ∧ u = .ref a ∧ (∀ σ' H' s1, Inv G [] σ' H' s1 → s1.heap.IsGen a gi) ∧ (∀ σ' H' s1, Inv G [] σ' H' s1 → Inv X pins σ H' s1) ∧ s'.heap.IsGen a gi ∧ s'.heap.NoLimit ∧
    ∃ gs, s'.gens[gi]? = some gs ∧ gs.Goes (model G.prog G.w) X.A.in1.in1 (REA G go Q) (YA G go Q) n (.send .none) (s'.setGen gi .running)
theorem gen_core {k : Nat} {c P : Addr} {elt tg iter : Expr} {ifs : List Expr} {scope : Scope} {own : List (Str × Nat)} {gpos : Pos} {wi : TI} {g : TG} {tt : TT} {te : TE} {go : Bool} {pins : List (Addr × Obj)} {s : Shared} {σ : L2.St} {H : Hp} {Q : VK}
    (hr : Room (k + 3) X.A) (hc : X.calm = true) (TB : GxR.TabB X.base X.mg c P) (hcode : X.env.code = .ref c) (hco : scope.isCoroutine = false) (hcell : ∀ y ∈ scope.names, y.2 ≠ .cell) (h0 : scope.names.lookup (".0" : Str) = some NameKind.local)
    (hN : X.N.Nodup) (ok : BlkOk X.N X.env.scope scope own) (hi : PI X tg iter wi)
    (hg : ∀ (A : Around) (s : Shared) (H : Hp) (C : Addr) (cl : List (Str × Addr)) (code : Value) (bi : Addr) (fp : List Addr) (pn : List (Addr × Obj)), Room k A → PG (gCx X A s H (genEnv scope cl C code bi X.env) fp pn) tg g)
    (ht : ∀ (A : Around) (s : Shared) (H : Hp) (C : Addr) (cl : List (Str × Addr)) (code : Value) (bi : Addr) (fp : List Addr) (pn : List (Addr × Obj)), Room k A → PTs (gCx X A s H (genEnv scope cl C code bi X.env) fp pn) ifs tt)
    (he : ∀ (A : Around) (s : Shared) (H : Hp) (C : Addr) (cl : List (Str × Addr)) (code : Value) (bi : Addr) (fp : List Addr) (pn : List (Addr × Obj)), Room k A → PE (gCx X A s H (genEnv scope cl C code bi X.env) fp pn) elt te)
    (hs : ∀ v, genFold iter X.env v = pure v) (I : Inv X pins σ H s) (h : tGen P go wi g tt te (own.map (·.2)) σ H Q) :
    wpAny (model X.prog X.w) X.A (eval (.GeneratorExp elt [⟨tg, iter, ifs, 0⟩] scope gpos) X.env) (GReady X pins σ go Q) X.xe s := by
  refine wpAny_GeneratorExp_make hco (closure_ok fun n hn hf => free_has I ok hn hf) hcell h0 ok.kind hr.depth ?_ hs
  refine thn (hi.run pins s σ H _ I h) fun xv s1 hx => thn hx fun itv s2 h2 => ?_
  obtain ⟨it, fp, tn, J, H2, rfl, I2, T, st2, f2, hP, W, ⟨m0, w0⟩, turn⟩ := h2
  refine ⟨I2.nolimit, ?_⟩
  obtain ⟨ps, hPs, hT⟩ : tabφ P s2.heap := (I2.hok P _ hP).1
  have cd : PySem.W.CodeHd s2.heap c P := TB.code.keeps I2.bk
  have cont : ∀ (code : Value) (h3 : Heap) (tk : Nat) (ps' : Array Value), (∀ b o, b ≠ P → s2.heap.get? b = some o → h3.get? b = some o) → h3.get? P = some { cls := .none, data := .fields ps' } → TriplesOk ps'.toList →
      wpAny (model X.prog X.w) X.A (builtinsFor X.env.globals X.env.builtins) (fun bi s₄ =>
        ∀ h', h'.Ns s₄.heap.objs.size (fun y => if y = ".0" then some (.ref it) else none) → Heap.SameBut s₄.heap.objs.size (s₄.heap.push { cls := .type "frame", data := .dict #[] }) h' →
          GReady X pins σ go Q (.ref h'.objs.size) { s₄ with
            gens := s₄.gens.push (.fresh (.compStart (.GeneratorExp elt [⟨tg, iter, ifs, 0⟩] scope gpos) 0 (.ref it) .none (genEnv scope (cloFrom X.env.cells scope.names []) s₄.heap.objs.size code bi X.env))),
            toks := s₄.toks + 1 + 1 + 1,
            heap := h'.push { cls := .type "generator", data := .fields #[.int s₄.gens.size 0, .str "<genexpr>" (s₄.toks + 1), .str (X.env.qual ++ "<genexpr>") (s₄.toks + 1 + 1)] } }) X.xe { s2 with heap := h3, toks := tk } := by
    intro code h3 tk ps' k3 hm3 ht3
    have I3 : Inv X pins σ H2 { s2 with heap := h3, toks := tk } := inv_code I2 hP k3 hm3 ht3
    obtain ⟨bm, ob, e1, e2, e3, e4, e5, e6, e7, e8⟩ := TB.bm
    refine wpAny_builtinsFor (m := X.mg) (by rw [I3.ok.glob]; exact I3.mod.glob.keeps I3.bk) e1 e2 (I3.bk _ _ e5) e6 e7 e8 ?_
    intro h' hn' hs'
    generalize hs3 : ({ s2 with heap := h3, toks := tk } : Shared) = s3 at I3 hn' hs' ⊢
    have h3e : s3.heap = h3 := by rw [← hs3]
    have nP : ∀ b ∈ fp, b ≠ P := fun b hb z => by
      have := (f2 b hb).1
      rw [z, hP] at this
      cases this
    have st3 : tn 0 s3.heap := T.keep _ _ _ st2 fun b hb o e => by rw [h3e]; exact k3 b o (nP b hb) e
    have f3 : ∀ b ∈ fp, FpOk X pins H2 b ∧ b < s3.heap.objs.size := fun b hb => by
      obtain ⟨o, e, _⟩ := T.obj _ _ st3 b hb
      exact ⟨f2 b hb, Heap.lt_size e⟩
    have hsz : h'.objs.size = s3.heap.objs.size + 1 := by rw [hs'.1, Heap.size_push]
    have keep' : ∀ b o, s3.heap.get? b = some o → h'.get? b = some o := fun b o e => hs'.extBut b o (Nat.ne_of_lt (Heap.lt_size e)) (Heap.get?_push_of_some _ e)
    have key : ∀ (gobj : Obj) (fr : GenState) (tk5 : Nat), fr = .fresh (.compStart (.GeneratorExp elt [⟨tg, iter, ifs, 0⟩] scope gpos) 0 (.ref it) .none (genEnv scope (cloFrom X.env.cells scope.names []) s3.heap.objs.size code builtinsNs X.env)) →
        (∀ h : Heap, h.get? h'.objs.size = some gobj → h.IsGen h'.objs.size s3.gens.size) → (∀ v, gobj.data ≠ .cell v) → gobj.isFreed = false →
        GReady X pins σ go Q (.ref h'.objs.size) { s3 with gens := s3.gens.push fr, toks := tk5, heap := h'.push gobj } := by
      intro gobj fr tk5 hfr hgen hcellg hfreed
      generalize hge : genEnv scope (cloFrom X.env.cells scope.names []) s3.heap.objs.size code builtinsNs X.env = ge at hfr
      have hpush : (h'.push gobj).get? h'.objs.size = some gobj := Heap.get?_push_size _ hfreed
      have keep5 : ∀ b o, s3.heap.get? b = some o → (h'.push gobj).get? b = some o := fun b o e => Heap.get?_push_of_some _ (keep' b o e)
      let A1 : Around := X.A.in1.in1.over (.compLoop (.GeneratorExp elt [⟨tg, iter, ifs, 0⟩] scope gpos) 0 (.ref it) .none ge) []
      have r1 : Room k A1 := room_gen (hr.in1 (k := k + 2)).in1
      have fr1 : A1.frames = some (ge :: X.stack) := over_gen (A := X.A.in1.in1) I3.ok.frames
      generalize hs6 : (({ s3 with gens := s3.gens.push fr, toks := tk5, heap := h'.push gobj } : Shared).setGen s3.gens.size .running) = s6
      have h6 : s6.heap = h'.push gobj := by rw [← hs6]; rfl
      have bare5 : AllBare (s3.gens.push fr) := AllBare.push I3.bare (by rw [hfr]; rfl)
      have bare6 : AllBare s6.gens := by rw [← hs6]; exact allBare_setGen (s := { s3 with gens := s3.gens.push fr, toks := tk5, heap := h'.push gobj }) bare5 rfl
      have I6 : Inv (gCx X A1 s3 H2 ge fp [(h'.objs.size, gobj)]) [] (wipe σ (own.map (·.2))) H2 s6 := by
        refine gen_start (m := fun y => if y = ".0" then some (.ref it) else none) I3 ok hcell hN f3 (by rw [← hge]; rfl) (by rw [← hge]; rfl) (by rw [← hge]; exact I3.ok.glob) (by rw [← hge]; rfl) (by rw [← hge]; rfl) (by rw [← hge]; rfl)
          fr1 r1.hd (fun b o e => by rw [h6]; exact keep5 b o e) (by rw [← hs6]; rfl) bare6 (by rw [h6]; exact hn'.push _) (fun p hp => ?_)
        rw [List.mem_singleton.mp hp]
        refine ⟨by rw [h6]; exact hpush, ?_, hcellg⟩
        show s3.heap.objs.size < h'.objs.size
        omega
      refine ⟨gCx X A1 s3 H2 ge fp [(h'.objs.size, gobj)], h'.objs.size, s3.gens.size, m0 + 1, rfl, rfl, rfl, fun σ' H' s1 J1 => hgen _ (J1.pin (h'.objs.size, gobj) (List.mem_append_left _ List.mem_cons_self)).1, fun σ' H' s1 J1 => ?_, hgen _ hpush, I3.nolimit.keeps keep5, fr, Array.getElem?_push_size .., ?_⟩
      · exact I3.call' (ch := fp) J1.os J1.base J1.hok J1.bare fun b hb => ⟨(f3 b hb).1.2.2.2.1, (f3 b hb).1.2.1, (f3 b hb).1.2.2.2.2.1, (f3 b hb).1.2.2.2.2.2⟩
      · rw [hs6, hfr]
        refine ⟨rfl, ?_⟩
        have pg := hg A1 s3 H2 s3.heap.objs.size (cloFrom X.env.cells scope.names []) code builtinsNs fp [(h'.objs.size, gobj)] r1
        have pt := ht A1 s3 H2 s3.heap.objs.size (cloFrom X.env.cells scope.names []) code builtinsNs fp [(h'.objs.size, gobj)] r1
        have pe := he A1 s3 H2 s3.heap.objs.size (cloFrom X.env.cells scope.names []) code builtinsNs fp [(h'.objs.size, gobj)] r1
        rw [hge] at pg pt pe
        have st6 : tn 0 s6.heap := T.keep _ _ _ st3 fun b _ o e => by rw [h6]; exact keep5 b o e
        refine seg_startA (G := gCx X A1 s3 H2 ge fp [(h'.objs.size, gobj)]) T st6 ?_
        refine seg_genA (G := gCx X A1 s3 H2 ge fp [(h'.objs.size, gobj)]) (W := W) (σ := σ) (vs := own.map (·.2)) rfl rfl rfl rfl rfl (by rw [← hge]; exact hco) (fun b hb p hp => ?_) T pg pt pe turn m0 (m0 + 1) 0 s6 s6 H2 (Nat.lt_succ_self _) I6 st6 (fun b hb => (f3 b hb).1.1) w0
        rw [List.mem_singleton.mp hp]
        show h'.objs.size ≠ b
        exact Nat.ne_of_gt (by rw [hsz]; exact Nat.lt_succ_of_lt (f3 b hb).2)
    exact key _ _ _ rfl (fun h e => ⟨_, _, _, e, rfl, rfl, rfl⟩) (fun v q => by cases q) rfl
  cases hf : codeAmong gpos ps.toList with
  | none =>
    refine wpAny_genexprCodeX hcode (cd.code hPs hT) (cd.tab hPs) hf fun c' h' tk hx hge hlt hco' _ htab' _ => ?_
    obtain ⟨o1, vs, f1, tf, fl, tg, inF, tx, tt, op, _, _, _, _, _, _, _, _, _, htr, _⟩ := hco'
    exact cont _ h' tk _ (fun b o hb e => hx b o hb e) htab'.2 htr
  | some cv =>
    refine wpAny_genexprCode_hit hcode (cd.code hPs hT) hf ?_
    exact cont cv s2.heap s2.toks ps (fun _ _ _ e => e) hPs hT
/-- all(elt for target in iter if ..) -/
theorem pe_allG {k : Nat} {c P : Addr} {elt tg iter : Expr} {ifs : List Expr} {scope : Scope} {own : List (Str × Nat)} {gpos p pos : Pos} {wi : TI} {g : TG} {tt : TT} {te : TE}
    (hr : Room (k + 3) X.A) (hc : X.calm = true) (hgl : Gl X "all") (hm : X.mg "all" = none) (hb : bootBuiltins "all" = some (.builtin "all")) (TB : GxR.TabB X.base X.mg c P) (hcode : X.env.code = .ref c) (hN : X.N.Nodup) (hi : PI X tg iter wi) (ok : BlkOk X.N X.env.scope scope own)
    (hg : ∀ (A : Around) (s : Shared) (H : Hp) (C : Addr) (cl : List (Str × Addr)) (code : Value) (bi : Addr) (fp : List Addr) (pn : List (Addr × Obj)), Room k A → PG (gCx X A s H (genEnv scope cl C code bi X.env) fp pn) tg g)
    (ht : ∀ (A : Around) (s : Shared) (H : Hp) (C : Addr) (cl : List (Str × Addr)) (code : Value) (bi : Addr) (fp : List Addr) (pn : List (Addr × Obj)), Room k A → PTs (gCx X A s H (genEnv scope cl C code bi X.env) fp pn) ifs tt)
    (he : ∀ (A : Around) (s : Shared) (H : Hp) (C : Addr) (cl : List (Str × Addr)) (code : Value) (bi : Addr) (fp : List Addr) (pn : List (Addr × Obj)), Room k A → PE (gCx X A s H (genEnv scope cl C code bi X.env) fp pn) elt te)
    (hs : ∀ v, genFold iter X.env v = pure v := by intro _; rfl) (hco : scope.isCoroutine = false := by rfl) (hcell : (scope.names.all fun y => decide (y.2 ≠ .cell)) = true := by rfl) (h0 : scope.names.lookup (".0" : Str) = some NameKind.local := by rfl)
    (he' : starEach [.GeneratorExp elt [⟨tg, iter, ifs, 0⟩] scope gpos] X.env = (false, eval (.GeneratorExp elt [⟨tg, iter, ifs, 0⟩] scope gpos) X.env) :: starEach [] X.env := by rfl) :
    PE X (.Call (.Name "all" p) [.GeneratorExp elt [⟨tg, iter, ifs, 0⟩] scope gpos] [] pos) (tGen P true wi g tt te (own.map (·.2))) := by
  refine ⟨fun pins s σ H Q I h => ?_⟩
  have hcell' : ∀ y ∈ scope.names, y.2 ≠ .cell := fun y hy => of_decide_eq_true (List.all_eq_true.mp hcell y hy)
  refine wpAny_Call_Name_kw (ld_blt I hgl hm hb ?_)
  refine PyProof.Rows.callWith_builtin1 ?_ he' (by rfl)
  rw [he']
  show wpAny _ _ (spliced ((false, eval (.GeneratorExp elt [⟨tg, iter, ifs, 0⟩] scope gpos) X.env) :: backTo pos (starEach [] X.env))) _ _ s
  refine Calls.spliced_cons (thn (gen_core hr hc TB hcode hco hcell' h0 hN ok hi hg ht he hs I h) fun u s' hG => ?_)
  refine Calls.spliced_nil ?_
  obtain ⟨G, a, gi, n, eP, eW, rfl, hgen, back, hga, hl, hgs⟩ := hG
  refine call_function_tree F.kind_all F.plain_all F.entry_all (F.args_all1 _) ?_
  unfold Builtin.«all»
  refine wpAny_bind (m := oneArg "all" _) (wpAny_pure ?_)
  refine wpAny_bind (wpAny_pyIter_gen hga ?_)
  refine wpAny_pure ⟨plainId_quiet F.plain_all_loop _, ?_⟩
  rw [← eP, ← eW]
  refine all_loopA (A := X.A) hr.hd hr.depth hgen (fun b σ' H' s1 s2 J q ho hb2 hk => ?_) n s' hga hl hgs
  have J2 := back σ' H' s1 J
  exact ⟨.bl b, H', J2.call' (ch := []) ho (Un.kept hk) (J2.hok.kept hk) hb2 (fun b hb => absurd hb List.not_mem_nil), rfl, q⟩
/-- any(elt for target in iter if ..) -/
theorem pe_anyG {k : Nat} {c P : Addr} {elt tg iter : Expr} {ifs : List Expr} {scope : Scope} {own : List (Str × Nat)} {gpos p pos : Pos} {wi : TI} {g : TG} {tt : TT} {te : TE}
    (hr : Room (k + 3) X.A) (hc : X.calm = true) (hgl : Gl X "any") (hm : X.mg "any" = none) (hb : bootBuiltins "any" = some (.builtin "any")) (TB : GxR.TabB X.base X.mg c P) (hcode : X.env.code = .ref c) (hN : X.N.Nodup) (hi : PI X tg iter wi) (ok : BlkOk X.N X.env.scope scope own)
    (hg : ∀ (A : Around) (s : Shared) (H : Hp) (C : Addr) (cl : List (Str × Addr)) (code : Value) (bi : Addr) (fp : List Addr) (pn : List (Addr × Obj)), Room k A → PG (gCx X A s H (genEnv scope cl C code bi X.env) fp pn) tg g)
    (ht : ∀ (A : Around) (s : Shared) (H : Hp) (C : Addr) (cl : List (Str × Addr)) (code : Value) (bi : Addr) (fp : List Addr) (pn : List (Addr × Obj)), Room k A → PTs (gCx X A s H (genEnv scope cl C code bi X.env) fp pn) ifs tt)
    (he : ∀ (A : Around) (s : Shared) (H : Hp) (C : Addr) (cl : List (Str × Addr)) (code : Value) (bi : Addr) (fp : List Addr) (pn : List (Addr × Obj)), Room k A → PE (gCx X A s H (genEnv scope cl C code bi X.env) fp pn) elt te)
    (hs : ∀ v, genFold iter X.env v = pure v := by intro _; rfl) (hco : scope.isCoroutine = false := by rfl) (hcell : (scope.names.all fun y => decide (y.2 ≠ .cell)) = true := by rfl) (h0 : scope.names.lookup (".0" : Str) = some NameKind.local := by rfl)
    (he' : starEach [.GeneratorExp elt [⟨tg, iter, ifs, 0⟩] scope gpos] X.env = (false, eval (.GeneratorExp elt [⟨tg, iter, ifs, 0⟩] scope gpos) X.env) :: starEach [] X.env := by rfl) :
    PE X (.Call (.Name "any" p) [.GeneratorExp elt [⟨tg, iter, ifs, 0⟩] scope gpos] [] pos) (tGen P false wi g tt te (own.map (·.2))) := by
  refine ⟨fun pins s σ H Q I h => ?_⟩
  have hcell' : ∀ y ∈ scope.names, y.2 ≠ .cell := fun y hy => of_decide_eq_true (List.all_eq_true.mp hcell y hy)
  refine wpAny_Call_Name_kw (ld_blt I hgl hm hb ?_)
  refine PyProof.Rows.callWith_builtin1 ?_ he' (by rfl)
  rw [he']
  show wpAny _ _ (spliced ((false, eval (.GeneratorExp elt [⟨tg, iter, ifs, 0⟩] scope gpos) X.env) :: backTo pos (starEach [] X.env))) _ _ s
  refine Calls.spliced_cons (thn (gen_core hr hc TB hcode hco hcell' h0 hN ok hi hg ht he hs I h) fun u s' hG => ?_)
  refine Calls.spliced_nil ?_
  obtain ⟨G, a, gi, n, eP, eW, rfl, hgen, back, hga, hl, hgs⟩ := hG
  refine call_function_tree F.kind_any F.plain_any F.entry_any (F.args_any1 _) ?_
  unfold Builtin.«any»
  refine wpAny_bind (m := oneArg "any" _) (wpAny_pure ?_)
  refine wpAny_bind (wpAny_pyIter_gen hga ?_)
  refine wpAny_pure ⟨plainId_quiet F.plain_any_loop _, ?_⟩
  rw [← eP, ← eW]
  refine any_loopA (A := X.A) hr.hd hr.depth hgen (fun b σ' H' s1 s2 J q ho hb2 hk => ?_) n s' hga hl hgs
  have J2 := back σ' H' s1 J
  exact ⟨.bl b, H', J2.call' (ch := []) ho (Un.kept hk) (J2.hok.kept hk) hb2 (fun b hb => absurd hb List.not_mem_nil), rfl, q⟩
end
end Zc
end

section
set_option maxHeartbeats 4000000
/-! A law's end where its program's defs hold generator expressions: the tables of their code objects. -/
namespace Zc
open PySem PySem.Spec PyProof.Rows L2
/-- cs: code objects and their tables; all tables are known as such -/
def Tabs (cs : List (Addr × Addr)) (H : Hp) : Prop := ∀ p ∈ cs, H p.2 = some (tabX p.2)
theorem Tabs.same {cs : List (Addr × Addr)} {H H' : Hp} (h : Tabs cs H) (s : Same H H') : Tabs cs H' := fun p hp => s _ _ (h p hp)
/-- the heap at the law's entry: the script (if it isn't of the written part), the tables -/
def hp0 (cs : List (Addr × Addr)) (a : Option (Addr × HO)) : Hp := fun b =>
  if b ∈ cs.map (·.2) then some (tabX b) else match a with
    | some q => if b = q.1 then some q.2 else none
    | none => none
theorem hp0_tab {cs : List (Addr × Addr)} {a : Option (Addr × HO)} : Tabs cs (hp0 cs a) := fun p hp => if_pos (List.mem_map.mpr ⟨p, hp, rfl⟩)
theorem hp0_in {cs : List (Addr × Addr)} {a : Option (Addr × HO)} {b : Addr} (hb : b ∈ cs.map (·.2)) : hp0 cs a b = some (tabX b) := if_pos hb
theorem hp0_out {cs : List (Addr × Addr)} {b : Addr} (hb : b ∉ cs.map (·.2)) : hp0 cs none b = none := if_neg hb
theorem hp0_at {cs : List (Addr × Addr)} {q : Addr × HO} (hb : q.1 ∉ cs.map (·.2)) : hp0 cs (some q) q.1 = some q.2 := (if_neg hb).trans (if_pos rfl)
theorem hp0_else {cs : List (Addr × Addr)} {q : Addr × HO} {b : Addr} (hb : b ∉ cs.map (·.2)) (hq : b ≠ q.1) : hp0 cs (some q) b = none := (if_neg hb).trans (if_neg hq)
section
variable {P : Program} {w : World} {K : PySem.W.Frag} {mg : Str → Option Value}
theorem callGT {mb : Str → Option Value} {k : Nat} {fa a : Addr} {fd : FuncData} {x : Str} {sp : Sp} {cs : List (Addr × Addr)}
    {s₁ : Shared} {vs : List Value} {ns : List Int}
    (KX : K.In s₁.heap) (gl : s₁.heap.Ns mainGlobals mg) (bn : s₁.heap.Ns builtinsNs mb)
    (bb : ∀ x : Str, x ≠ "__name__" → mb x = bootBuiltins x)
    (lim : s₁.heap.NoLimit) (gens : s₁.gens = #[])
    (tabs : ∀ p ∈ cs, s₁.heap.get? p.2 = some { cls := .none, data := .fields #[] } ∧ K.lookup p.2 = none ∧ PySem.W.CodeHd s₁.heap p.1 p.2)
    (main_ : ∃ (bm : Addr) (ob : Obj), mg "__builtins__" = some (.ref bm) ∧ bm ≠ builtinsNs ∧ s₁.heap.get? bm = some ob ∧ ob.cls = .type "module" ∧ ob.dict = some builtinsNs ∧ ob.data = .plain)
    (ha : s₁.heap.get? a = some { cls := .type "list", data := .seq vs.toArray })
    (hi : IntsAre vs ns) (hl : ns.length ≤ sizeLine) (hr : Room k callerA)
    (F : ∀ base : Heap, K.In base → base.Ns mainGlobals mg → (∀ p ∈ cs, GxR.TabB base mg p.1 p.2) → FnG P w K mg base k fa fd [x] sp)
    (bind : ∀ (s : Shared) (u : Value), BindsTo s fd ⟨[u], []⟩ [(x, u)])
    (hsp : ∀ H : Hp, Tabs cs H → SqL K H a (ns.map V.int) → sp [.ref a] H (fun v H' => v = .bl true ∧ Tabs cs H') fun _ _ _ => False) :
    codeAny (model P w) callerA (.call (.ref fa) ⟨[.ref a], []⟩)
      (fun r s' => r = .ok (.ret (.bool true)) ∧ OldK s₁.heap s'.heap ∧ s'.os = s₁.os ∧ AllBare s'.gens) s₁ := by
  have rv := vals_ints hi
  have lv := hi.length
  have tabAt : ∀ b ∈ cs.map (·.2), s₁.heap.get? b = some { cls := .none, data := .fields #[] } := fun b hb =>
    (List.mem_map.mp hb).elim fun p q => by
      rw [← q.2]
      exact (tabs p q.1).1
  have aOut : a ∉ cs.map (·.2) := fun z => by
    have e := tabAt a z
    rw [ha] at e
    have d : Data.seq vs.toArray 0 = Data.fields #[] := congrArg Obj.data (Option.some.inj e)
    exact Data.noConfusion d
  -- what is tracked at the entry is the script or a table
  have run : ∀ H : Hp, (∀ b, H b ≠ none → b = a ∨ b ∈ cs.map (·.2)) → (∀ b u, H b = some u → b ∉ cs.map (·.2) → ∃ o xs, u = .frz o (.lst xs)) → Tabs cs H → SqL K H a (ns.map V.int) →
      HOk P w H s₁.heap → (H a ≠ none → K.lookup a = none) →
      codeAny (model P w) callerA (.call (.ref fa) ⟨[.ref a], []⟩)
        (fun r s' => r = .ok (.ret (.bool true)) ∧ OldK s₁.heap s'.heap ∧ s'.os = s₁.os ∧ AllBare s'.gens) s₁ := by
    intro H only frozen hT hS ok away
    -- an object that is neither a list nor an empty table is not tracked
    have offT : ∀ {b : Addr} {o : Obj}, s₁.heap.get? b = some o → (∀ us n, o.data ≠ .seq us n) → o.data ≠ .fields #[] → H b = none := fun {b o} e n1 n2 => by
      cases q : H b with
      | none => rfl
      | some u =>
        exfalso
        rcases only b (by rw [q]; intro z; cases z) with z | z
        · rw [z, ha] at e
          exact n1 vs.toArray 0 (by rw [← Option.some.inj e])
        · rw [tabAt b z] at e
          exact n2 (by rw [← Option.some.inj e])
    have dictOff : ∀ {b : Addr} {o : Obj} {es : Array DictEntry} {ep : Nat}, s₁.heap.get? b = some o → o.data = .dict es ep → H b = none := fun {b o es ep} e d =>
      offT e (fun us n z => by rw [d] at z; exact Data.noConfusion z) (fun z => by rw [d] at z; exact Data.noConfusion z)
    have nsHid : ∀ {b : Addr} {m : Str → Option Value}, s₁.heap.Ns b m → (hidT s₁.heap H).Ns b m := by
      rintro b m ⟨o, es, ep, e, d, r⟩
      exact ⟨o, es, ep, hidT_get e (dictOff e d), d, r⟩
    have kinHid : K.In (hidT s₁.heap H) := by
      intro b o e
      refine hidT_get (KX b o e) ?_
      cases q : H b with
      | none => rfl
      | some u =>
        exfalso
        have nn : H b ≠ none := by rw [q]; intro z; cases z
        rcases only b nn with z | z
        · rw [z] at e nn
          rw [away nn] at e
          cases e
        · obtain ⟨p, hp, ep⟩ := List.mem_map.mp z
          rw [← ep, (tabs p hp).2.1] at e
          cases e
    have md : Mod K mg (hidT s₁.heap H) := by
      refine ⟨kinHid, nsHid gl, ⟨mb, nsHid bn, bb⟩, ?_⟩
      obtain ⟨mc, h1, h2⟩ := lim
      exact ⟨mc, nsHid h1, h2⟩
    have tb : ∀ p ∈ cs, GxR.TabB (hidT s₁.heap H) mg p.1 p.2 := by
      intro p hp
      obtain ⟨t1, t2, t3⟩ := tabs p hp
      refine ⟨?_, ?_, fun z => ?_⟩
      · obtain ⟨o, us, f1, f2, f3, f4, f5, f6, f7, c1, c2, c3, c4, c5⟩ := t3
        refine ⟨o, us, f1, f2, f3, f4, f5, f6, f7, hidT_get c1 (offT c1 (fun xs n z => ?_) fun z => ?_), c2, c3, c4, c5⟩
        · rw [c3] at z
          exact Data.noConfusion z
        · rw [c3] at z
          have z2 : us = #[] := Data.fields.inj z
          rw [z2] at c4
          simp at c4
      · obtain ⟨bm, ob, b1, b2, b3, b4, b5, b6⟩ := main_
        refine ⟨bm, ob, b1, b2, fun z => ?_, fun z => ?_, hidT_get b3 (offT b3 (fun xs n z => ?_) fun z => ?_), b4, b5, b6⟩
        · obtain ⟨o, es, ep, e, d, _⟩ := gl
          rw [z, e] at b3
          rw [← Option.some.inj b3, d] at b6
          exact Data.noConfusion b6
        · rw [z, t1] at b3
          rw [← Option.some.inj b3] at b6
          exact Data.noConfusion b6
        · rw [b6] at z
          exact Data.noConfusion z
        · rw [b6] at z
          exact Data.noConfusion z
      · obtain ⟨o, es, ep, e, d, _⟩ := gl
        rw [z, t1] at e
        rw [← Option.some.inj e] at d
        exact Data.noConfusion d
    have e0 : Env0 P w K mg (hidT s₁.heap H) callerA [] s₁ H := by
      refine ⟨rfl, md, fun b o e => of_hidT e, Nat.le_of_eq (hidT_size _ _), trivial, ?_, ok, .of_eq gens⟩
      intro b hb
      exact absurd (show b ∈ ([] : List Addr) from hb) List.not_mem_nil
    have done := (F _ kinHid (nsHid gl) tb).run callerA [] s₁ H ⟨[.ref a], []⟩ [.ref a] [.ref a] _ _ hr rfl e0 (bind s₁ (.ref a)) (.cons rfl .nil) (hsp H hT hS)
    refine codeAny_mono done ?_
    intro r s' h
    match r, h with
    | .error e, h => exact False.elim h
    | .ok .next, h => exact False.elim h
    | .ok .brk, h => exact False.elim h
    | .ok .cont, h => exact False.elim h
    | .ok (.ret u), h =>
      obtain ⟨v, H', os, bare, un, ok', r', hv, hT'⟩ := h
      subst hv
      have r2 : u = Value.bool true := r'
      subst r2
      have grown : ∀ b ∈ cs.map (·.2), ∃ more : Array Value, s'.heap.get? b = some { cls := .none, data := .fields more } := fun b hb =>
        (List.mem_map.mp hb).elim fun p q => by
          obtain ⟨⟨more, em, _⟩, _⟩ := ok' p.2 _ (hT' p q.1)
          rw [← q.2]
          exact ⟨more, em⟩
      have stays : ∀ b o, b ∉ cs.map (·.2) → s₁.heap.get? b = some o → s'.heap.get? b = some o := by
        intro b o nb e
        match q : H b with
        | none => exact un.keep b o e q (fun z => absurd (show b ∈ ([] : List Addr) from z) List.not_mem_nil) List.not_mem_nil
        | some u =>
          obtain ⟨ob, xs, rfl⟩ := frozen b u q nb
          obtain ⟨g1, _⟩ := ok b _ q
          obtain ⟨g2, _⟩ := ok' b _ (un.frzs b ob _ q)
          rw [e] at g1
          rw [Option.some.inj g1]
          exact g2
      refine ⟨rfl, ⟨fun b o e => ?_, fun b o e => ?_⟩, os, bare⟩
      · by_cases hb : b ∈ cs.map (·.2)
        · obtain ⟨more, hm⟩ := grown b hb
          obtain ⟨p, hp, ep⟩ := List.mem_map.mp hb
          obtain ⟨t1, _, t3⟩ := tabs p hp
          rw [tabAt b hb] at e
          rw [← Option.some.inj e]
          refine .inr (.inl ⟨?_, rfl, #[], more, rfl, by rw [Array.empty_append]; exact hm⟩)
          rw [← ep]
          exact (t3.tab t1).isCodeTable
        · exact .inl (stays b o hb e)
      · by_cases hb : b ∈ cs.map (·.2)
        · exact (grown b hb).elim fun more hm => ⟨_, hm⟩
        · exact ⟨o, stays b o hb e⟩
  have tabOk : ∀ {H : Hp} (b : Addr), b ∈ cs.map (·.2) → ObjOk P w H s₁.heap b (tabX b) := fun b hb => ⟨⟨#[], tabAt b hb, trivial⟩, ⟨_, tabAt b hb⟩, tabφ_stay⟩
  match hk : K.lookup a with
  | some o =>
    have e := KX a o hk
    rw [ha] at e
    have e' := Option.some.inj e
    subst e'
    refine run (hp0 cs none) (fun b hb => ?_) (fun b u hu nb => ?_) hp0_tab ?_ (fun b u hu => ?_) (fun z => ?_)
    · exact (Classical.em (b ∈ cs.map (·.2))).elim .inr fun nb => absurd (hp0_out nb) hb
    · rw [hp0_out nb] at hu
      cases hu
    · exact Or.inr ⟨_, vs.toArray, _, hk, rfl, rfl, rfl, by rw [List.size_toArray, lv]; exact hl, by simpa using rv⟩
    · by_cases hb : b ∈ cs.map (·.2)
      · rw [hp0_in hb] at hu
        rw [← Option.some.inj hu]
        exact tabOk b hb
      · rw [hp0_out hb] at hu
        cases hu
    · exact absurd (hp0_out aOut) z
  | none =>
    refine run (hp0 cs (some (a, .frz { cls := .type "list", data := .seq vs.toArray } (.lst (ns.map V.int))))) (fun b hb => ?_) (fun b u hu nb => ?_) hp0_tab ?_ (fun b u hu => ?_) (fun _ => hk)
    · by_cases nb : b ∈ cs.map (·.2)
      · exact .inr nb
      · by_cases ba : b = a
        · exact .inl ba
        · exact absurd (hp0_else nb ba) hb
    · by_cases ba : b = a
      · subst ba
        rw [hp0_at (q := (b, _)) nb] at hu
        exact ⟨_, _, (Option.some.inj hu).symm⟩
      · rw [hp0_else nb ba] at hu
        cases hu
    · exact Or.inl (Or.inr ⟨_, hp0_at (q := (a, _)) aOut⟩)
    · by_cases nb : b ∈ cs.map (·.2)
      · rw [hp0_in nb] at hu
        rw [← Option.some.inj hu]
        exact tabOk b nb
      · by_cases ba : b = a
        · subst ba
          rw [hp0_at (q := (b, _)) nb] at hu
          rw [← Option.some.inj hu]
          refine ⟨ha, ?_, vs, _, rv, ha⟩
          rw [List.length_map]
          exact hl
        · rw [hp0_else nb ba] at hu
          cases hu
end
/-- the table of the def with this name is empty at the law's entry, and its code object as made -/
def OwnT (K : PySem.W.Frag) (mg : Str → Option Value) (h : Heap) (x : Str) : Prop :=
  ∀ (f c p : Addr) (fo co : Obj) (fd : FuncData) (vs : Array Value), mg x = some (.ref f) → K.lookup f = some fo → fo.data = .func fd → fd.code = .ref c → K.lookup c = some co → co.data = .fields vs → vs[11]? = some (.ref p) →
    h.get? p = some { cls := .none, data := .fields #[] } ∧ PySem.W.CodeHd h c p
/-- the goal that the head leaves, from a promise that asks tables -/
theorem walkGT {l : PySem.W.OpenLaw} {n k : Nat} {q : Program} {loose : List Str}
    {XP : (Str → Option Value) → Heap → Prop} {YP : World → Heap → Prop} {d : DefRec}
    {K : Params → PySem.W.Frag} {x : Str} (xs : List Str)
    (hn : l.most = some n) (hn2 : n ≤ sizeLine) (hdf : d.params.defaults = []) (hr : Room k callerA)
    (hY : ∀ (w : World) (h : Heap), YP w h → (K w.params).In h) (hx : (xs.all fun y => (recsOf q).any fun r => r.name == y) = true)
    (F : ∀ (w : World) (mg : Str → Option Value) (fa : Addr) (h : Heap), (K w.params).In h → h.Ns mainGlobals mg →
      mg d.name = some (.ref fa) → (∀ y ∈ xs, OwnT (K w.params) mg h y) →
      ∃ (fd : FuncData) (cs : List (Addr × Addr)) (sp : Sp), (∀ p ∈ cs, h.get? p.2 = some { cls := .none, data := .fields #[] } ∧ (K w.params).lookup p.2 = none ∧ PySem.W.CodeHd h p.1 p.2) ∧
        (∀ (s : Shared) (u : Value), BindsTo s fd ⟨[u], []⟩ [(x, u)]) ∧
        (∀ base : Heap, (K w.params).In base → base.Ns mainGlobals mg → (∀ p ∈ cs, GxR.TabB base mg p.1 p.2) → FnG l.prog w (K w.params) mg base k fa fd [x] sp) ∧
        (∀ (H : Hp) (a : Addr) (ns : List Int), ns.length ≤ n → Tabs cs H → SqL (K w.params) H a (ns.map V.int) → sp [.ref a] H (fun v H' => v = .bl true ∧ Tabs cs H') fun _ _ _ => False)) :
    PySem.W.WalkO q loose XP YP l.row.toRowW d [] (fun f vs => PySem.call f vs) := by
  apply Att.attach_call hn hdf
  intro w s₀ s₁ mg mb fa o pm cd doc a vs ns G Y ho hd hcd hmg hobj hints hlen hg
  have kx := hY w _ Y
  have own : ∀ y ∈ xs, OwnT (K w.params) mg s₁.heap y := by
    intro y hy f c p fo co fd us e1 e2 e3 e4 e5 e6 e7
    obtain ⟨r, hr1, hr2⟩ := List.any_eq_true.mp (List.all_eq_true.mp hx y hy)
    obtain ⟨f', o', fd', c', p', t1, t2, t3, t4, t5, t6⟩ := G.T.tab r hr1
    rw [beq_iff_eq.mp hr2, e1] at t1
    have ef : f' = f := (Value.ref.inj (Option.some.inj t1)).symm
    subst ef
    rw [kx _ _ e2] at t2
    have eo : o' = fo := (Option.some.inj t2).symm
    subst eo
    rw [e3] at t3
    have efd : fd' = fd := (Data.func.inj t3).symm
    subst efd
    rw [e4] at t4
    have ec : c' = c := (Value.ref.inj t4).symm
    subst ec
    have hd2 := PySem.W.CodeHd.of t5 t6
    obtain ⟨⟨oc, uc, g1, _, g3, g4⟩, g5⟩ := t6
    rw [kx _ _ e5] at g1
    have eco : oc = co := (Option.some.inj g1).symm
    subst eco
    rw [e6] at g3
    have eus : uc = us := (Data.fields.inj g3).symm
    subst eus
    rw [e7] at g4
    have epp : p' = p := (Value.ref.inj (Option.some.inj g4)).symm
    subst epp
    exact ⟨g5, hd2⟩
  obtain ⟨fd, cs, sp, hT, hb, hF, hsp⟩ := F w mg fa _ kx G.T.g hmg own
  exact callGT kx G.T.g G.T.b G.T.builtins G.T.nolimit hg hT G.T.bmain hobj hints (Nat.le_trans hlen hn2) hr hF hb (fun H hH hS => hsp H a ns hlen hH hS)
section
variable {P : Program} {w : World} {K : PySem.W.Frag} {mg : Str → Option Value} {base : Heap}
/-- a def whose code object is known -/
theorem fn_okC {x qual : Str} {st : Stmt} {f c : Addr} {fd : FuncData} {N ps : List Str} {k : Nat} {sp : Sp} (F : Fun K x qual st f fd) (hc : fd.code = .ref c) (S : FnScope N ps (defScope st)) (len : ∀ vs H Q E, sp vs H Q E → vs.length = ps.length)
    (body : ∀ (A : Around) (outer : List Env) (s : Shared) (H : Hp) (vs : List V) (Q : VK) (E : XK), Room k (A.deeper (envOfC qual (defScope st) s.heap.objs.size f (.ref c))) → sp vs H Q E →
      ∃ t, PSs (cxOf CX0 P w K mg base N qual (defScope st) f (.ref c) A outer s H E).nox (defBody st) t ∧ t { nx := fun _ H' => Q .non H', rt := Q } (start N vs) H) : FnOk P w K mg base CX0 (k + 1) f fd ps sp := by
  obtain ⟨oc, od, kV, doc, pm, an, cdv, ct, osl, rfl, lk, hcd⟩ := F.ex
  have e : cdv = .ref c := hc
  subst e
  refine fn_of lk hcd S len fun A outer s H vs Q E hr hsp => ?_
  exact (body A outer s H vs Q E hr hsp).elim fun t r => ⟨t, r.1.nox, r.2⟩
/-- a def with generator expressions: its code object c, the table p -/
structure AtT (K : PySem.W.Frag) (mg : Str → Option Value) (base : Heap) (x : Str) (st : Stmt) (ps : List Str) (f : Addr) (fd : FuncData) (c p : Addr) : Prop where
  at_ : At K mg x st ps f fd
  code : fd.code = .ref c
  tab : GxR.TabB base mg c p
end
end Zc
end

section
set_option maxHeartbeats 2000000
/-! Data that stand: in a part T of the heap that nobody writes. -/
namespace Zc
open PySem PySem.Spec PyProof.Rows L2
mutual
/-- v is the data d, all of whose objects stand in T -/
def Da (T : Hp) : PyData → V → Prop
  | .none, v => v = .non
  | .bool b, v => v = .bl b
  | .int i, v => v = .int i
  | .str x, v => v = .str x
  | .list ds, v => ∃ a xs, v = .ref a ∧ T a = some (.lst xs) ∧ DaA T ds xs
  | .tuple ds, v => ∃ a xs, v = .ref a ∧ T a = some (.tup xs) ∧ DaA T ds xs
  | .dict _, _ => False
def DaA (T : Hp) : List PyData → List V → Prop
  | [], xs => xs = []
  | d :: ds, xs => ∃ v vs, xs = v :: vs ∧ Da T d v ∧ DaA T ds vs
end
mutual
theorem Da.keep {T T' : Hp} (s : Same T T') : ∀ (d : PyData) (v : V), Da T d v → Da T' d v
  | .none, _, h => h
  | .bool _, _, h => h
  | .int _, _, h => h
  | .str _, _, h => h
  | .list ds, _, ⟨a, xs, e, h, r⟩ => ⟨a, xs, e, s _ _ h, DaA.keep s ds xs r⟩
  | .tuple ds, _, ⟨a, xs, e, h, r⟩ => ⟨a, xs, e, s _ _ h, DaA.keep s ds xs r⟩
  | .dict _, _, h => h
theorem DaA.keep {T T' : Hp} (s : Same T T') : ∀ (ds : List PyData) (vs : List V), DaA T ds vs → DaA T' ds vs
  | [], _, h => h
  | d :: ds, _, ⟨v, vs, e, h, r⟩ => ⟨v, vs, e, Da.keep s d v h, DaA.keep s ds vs r⟩
end
mutual
theorem Da.dp {K : PySem.W.Frag} {T : Hp} : ∀ (d : PyData) (v : V), Da T d v → Dp K T v d
  | .none, _, h => by cases h; exact .non
  | .bool b, _, h => by cases h; exact .bl b
  | .int i, _, h => by cases h; exact .int i
  | .str x, _, h => by cases h; exact .str x
  | .list ds, _, ⟨a, xs, e, h, r⟩ => by cases e; exact .lst (.inl (.inl h)) (DaA.dp ds xs r)
  | .tuple ds, _, ⟨a, xs, e, h, r⟩ => by cases e; exact .tup (.inl (.inl h)) (DaA.dp ds xs r)
  | .dict _, _, h => h.elim
theorem DaA.dp {K : PySem.W.Frag} {T : Hp} : ∀ (ds : List PyData) (vs : List V), DaA T ds vs → DpAll K T vs ds
  | [], _, h => by cases h; exact .nil
  | d :: ds, _, ⟨v, vs, e, h, r⟩ => by cases e; exact .cons (Da.dp d v h) (DaA.dp ds vs r)
end
/-- as data of the whole heap -/
theorem Da.dpH {K : PySem.W.Frag} {T H : Hp} {d : PyData} {v : V} (h : Da T d v) (s : Same T H) : Dp K H v d := Dp.keep (Da.dp d v h) s
section
variable {T T' H : Hp}
theorem DaA.len : ∀ {ds : List PyData} {vs : List V}, DaA T ds vs → vs.length = ds.length
  | [], _, h => by cases h; rfl
  | d :: ds, _, ⟨v, vs, e, _, r⟩ => by cases e; rw [List.length_cons, List.length_cons, DaA.len r]
theorem DaA.get : ∀ {ds : List PyData} {vs : List V} {i : Nat} {x : V}, DaA T ds vs → vs[i]? = some x → ∃ d, ds[i]? = some d ∧ Da T d x
  | [], _, i, x, h, e => by cases h; cases e
  | d :: ds, _, 0, x, ⟨v, vs, q, h, _⟩, e => by cases q; cases e; exact ⟨d, rfl, h⟩
  | d :: ds, _, i + 1, x, ⟨v, vs, q, _, r⟩, e => by cases q; exact DaA.get (i := i) r e
theorem DaA.at : ∀ {ds : List PyData} {vs : List V} {i : Nat} {d : PyData}, DaA T ds vs → ds[i]? = some d → ∃ x, vs[i]? = some x ∧ Da T d x
  | [], _, i, d, h, e => by cases e
  | d :: ds, _, 0, x, ⟨v, vs, q, h, _⟩, e => by cases q; cases e; exact ⟨v, rfl, h⟩
  | d :: ds, _, i + 1, x, ⟨v, vs, q, _, r⟩, e => by cases q; exact DaA.at (i := i) r e
theorem DaA.app : ∀ {ds es : List PyData} {vs us : List V}, DaA T ds vs → DaA T es us → DaA T (ds ++ es) (vs ++ us)
  | [], es, _, us, h, g => by cases h; exact g
  | d :: ds, es, _, us, ⟨v, vs, q, h, r⟩, g => by cases q; exact ⟨v, vs ++ us, rfl, h, DaA.app r g⟩
theorem DaA.one {d : PyData} {v : V} (h : Da T d v) : DaA T [d] [v] := ⟨v, [], rfl, h, rfl⟩
theorem DaA.two {d e : PyData} {v u : V} (h : Da T d v) (g : Da T e u) : DaA T [d, e] [v, u] := ⟨v, [u], rfl, h, DaA.one g⟩
theorem DaA.three {d e f : PyData} {v u x : V} (h : Da T d v) (g : Da T e u) (i : Da T f x) : DaA T [d, e, f] [v, u, x] := ⟨v, [u, x], rfl, h, DaA.two g i⟩
theorem DaA.snoc {ds : List PyData} {vs : List V} {d : PyData} {v : V} (h : DaA T ds vs) (g : Da T d v) : DaA T (ds ++ [d]) (vs ++ [v]) := h.app (DaA.one g)
theorem DaA.take : ∀ {ds : List PyData} {vs : List V} (k : Nat), DaA T ds vs → DaA T (ds.take k) (vs.take k)
  | ds, vs, 0, h => by rw [List.take_zero, List.take_zero]; rfl
  | [], _, k + 1, h => by cases h; rfl
  | d :: ds, _, k + 1, ⟨v, vs, q, h, r⟩ => by cases q; exact ⟨v, vs.take k, rfl, h, DaA.take k r⟩
theorem DaA.drop : ∀ {ds : List PyData} {vs : List V} (k : Nat), DaA T ds vs → DaA T (ds.drop k) (vs.drop k)
  | ds, vs, 0, h => h
  | [], _, k + 1, h => by cases h; rfl
  | d :: ds, _, k + 1, ⟨v, vs, q, h, r⟩ => by cases q; exact DaA.drop k r
theorem DaA.rev : ∀ {ds : List PyData} {vs : List V}, DaA T ds vs → DaA T ds.reverse vs.reverse
  | [], _, h => by cases h; rfl
  | d :: ds, _, ⟨v, vs, q, h, r⟩ => by
    cases q
    rw [List.reverse_cons, List.reverse_cons]
    exact (DaA.rev r).snoc h
theorem DaA.ints : ∀ (ns : List Int), DaA T (ns.map PyData.int) (ns.map V.int)
  | [] => rfl
  | n :: r => ⟨.int n, r.map V.int, rfl, rfl, DaA.ints r⟩
theorem DaA.of_ints : ∀ {ns : List Int} {vs : List V}, DaA T (ns.map PyData.int) vs → vs = ns.map V.int
  | [], _, h => h
  | n :: r, _, ⟨v, vs, q, h, g⟩ => by
    have h' : v = .int n := h
    rw [q, h', DaA.of_ints g]
    rfl
/-- a new object -/
theorem Da.tup {p : Addr} {ds : List PyData} {xs : List V} (e : T p = some (.tup xs)) (h : DaA T ds xs) : Da T (.tuple ds) (.ref p) := ⟨p, xs, rfl, e, h⟩
theorem Da.lst {p : Addr} {ds : List PyData} {xs : List V} (e : T p = some (.lst xs)) (h : DaA T ds xs) : Da T (.list ds) (.ref p) := ⟨p, xs, rfl, e, h⟩
end
/-- more stands, in a heap that has grown: what stands newly was free -/
structure Ext (T H T' H' : Hp) : Prop where
  hh : Same H H'
  tt : Same T T'
  th : Same T' H'
  nw : ∀ b, T' b ≠ none → T b ≠ none ∨ H b = none
section
variable {T H T1 H1 T2 H2 : Hp}
theorem Ext.refl (s : Same T H) : Ext T H T H := ⟨Same.refl H, Same.refl T, s, fun b h => .inl h⟩
theorem Ext.trans (a : Ext T H T1 H1) (b : Ext T1 H1 T2 H2) : Ext T H T2 H2 :=
  ⟨a.hh.trans b.hh, a.tt.trans b.tt, b.th, fun c h => (b.nw c h).elim (a.nw c) fun z => .inr (a.hh.free z)⟩
/-- the heap alone has grown -/
theorem Ext.more (s : Same T H) (h : Same H H1) : Ext T H T H1 := ⟨h, Same.refl T, s.trans h, fun b h => .inl h⟩
/-- what a new address holds stands from now on -/
theorem Ext.put {p : Addr} {o : HO} (s : Same T H) (hh : Same H H1) (n : H p = none) (e : H1 p = some o) : Ext T H (upd T p o) H1 := by
  have tp : T p = none := s.free n
  refine ⟨hh, same_new tp, fun b u hb => ?_, fun b hb => ?_⟩
  · by_cases q : b = p
    · subst q
      rw [upd_same] at hb
      cases hb
      exact e
    · rw [upd_ne q] at hb
      exact hh _ _ (s _ _ hb)
  · by_cases q : b = p
    · exact .inr (q ▸ n)
    · rw [upd_ne q] at hb
      exact .inl hb
theorem Ext.new {p : Addr} {o : HO} (s : Same T H) (n : H p = none) : Ext T H (upd T p o) (upd H p o) := Ext.put s (same_new n) n upd_same
theorem Ext.out {b : Addr} {o : HO} (x : Ext T H T1 H1) (n : T b = none) (h : H b = some o) : T1 b = none := by
  cases q : T1 b with
  | none => rfl
  | some u =>
    rcases x.nw b (by rw [q]; intro z; cases z) with z | z
    · exact absurd n z
    · rw [h] at z
      cases z
theorem same_upd {b : Addr} {o : HO} (s : Same T H) (n : T b = none) : Same T (upd H b o) := fun c u e => by
  rw [upd_ne (fun q => by rw [q, n] at e; cases e)]
  exact s _ _ e
end

/-! ### isinstance of data -/
def isIntD : PyData → Bool
  | .int _ => true
  | _ => false
def isNumD : PyData → Bool
  | .int i => decide (0 ≤ i)
  | _ => false
def isBoolD : PyData → Bool
  | .bool _ => true
  | _ => false
def isTupD : PyData → Bool
  | .tuple _ => true
  | _ => false
def isLstD : PyData → Bool
  | .list _ => true
  | _ => false
def isStrD : PyData → Bool
  | .str _ => true
  | _ => false
/-- what isinstance asks of data -/
theorem Da.ask {K : PySem.W.Frag} {T H : Hp} {d : PyData} {v : V} (h : Da T d v) (s : Same T H) :
    ∃ t, TyX K H v t ∧ PySem.W.kitOne K t (.type "int") = some (isIntD d || isBoolD d) ∧ PySem.W.kitOne K t (.type "bool") = some (isBoolD d) ∧
      PySem.W.kitOne K t (.type "tuple") = some (isTupD d) ∧ PySem.W.kitOne K t (.type "list") = some (isLstD d) ∧ PySem.W.kitOne K t (.type "str") = some (isStrD d) := by
  cases d with
  | none => cases h; exact ⟨_, .base .non, kit_ty (r := false) (by decide +kernel), kit_ty (r := false) (by decide +kernel), kit_ty (r := false) (by decide +kernel), kit_ty (r := false) (by decide +kernel), kit_ty (r := false) (by decide +kernel)⟩
  | bool b => cases h; exact ⟨_, .base (.bl b), kit_ty (r := true) (by decide +kernel), kit_ty (r := true) (by decide +kernel), kit_ty (r := false) (by decide +kernel), kit_ty (r := false) (by decide +kernel), kit_ty (r := false) (by decide +kernel)⟩
  | int i => cases h; exact ⟨_, .base (.int i), kit_ty (r := true) (by decide +kernel), kit_ty (r := false) (by decide +kernel), kit_ty (r := false) (by decide +kernel), kit_ty (r := false) (by decide +kernel), kit_ty (r := false) (by decide +kernel)⟩
  | str x => cases h; exact ⟨_, .base (.str x), kit_ty (r := false) (by decide +kernel), kit_ty (r := false) (by decide +kernel), kit_ty (r := false) (by decide +kernel), kit_ty (r := false) (by decide +kernel), kit_ty (r := true) (by decide +kernel)⟩
  | list ds =>
    obtain ⟨a, xs, rfl, e, _⟩ := h
    exact ⟨_, .base (.lst (s _ _ e)), kit_ty (r := false) (by decide +kernel), kit_ty (r := false) (by decide +kernel), kit_ty (r := false) (by decide +kernel), kit_ty (r := true) (by decide +kernel), kit_ty (r := false) (by decide +kernel)⟩
  | tuple ds =>
    obtain ⟨a, xs, rfl, e, _⟩ := h
    exact ⟨_, .base (.tup (s _ _ e)), kit_ty (r := false) (by decide +kernel), kit_ty (r := false) (by decide +kernel), kit_ty (r := true) (by decide +kernel), kit_ty (r := false) (by decide +kernel), kit_ty (r := false) (by decide +kernel)⟩
  | dict _ => exact h.elim

/-! ### a promise over data: what is handed back is data, too -/
def spP (C : Hp → Prop) (f : List PyData → Option PyData) : Sp := fun vs H Q _ => ∃ (T : Hp) (ds : List PyData) (r : PyData), Same T H ∧ DaA T ds vs ∧ f ds = some r ∧ C H ∧
  ∀ H' T' v, Ext T H T' H' → Da T' r v → Q v H'
abbrev C0 : Hp → Prop := fun _ => True
/-- .. a truth -/
def spB (C : Hp → Prop) (f : List PyData → Option Bool) : Sp := fun vs H Q _ => ∃ (T : Hp) (ds : List PyData) (r : Bool), Same T H ∧ DaA T ds vs ∧ f ds = some r ∧ C H ∧
  ∀ H' T', Ext T H T' H' → Q (.bl r) H'

/-! ### comprehensions over what stands -/
theorem take_snocD {ds : List PyData} {i : Nat} {d : PyData} (h : ds[i]? = some d) : ds.take (i + 1) = ds.take i ++ [d] := by
  rw [List.take_add_one, h]
  rfl
theorem filter_snoc {p : PyData → Bool} {f : PyData → PyData} {ds : List PyData} {i : Nat} {d : PyData} (h : ds[i]? = some d) :
    ((ds.take (i + 1)).filter p).map f = ((ds.take i).filter p).map f ++ (if p d = true then [f d] else []) := by
  rw [take_snocD h, List.filter_append, List.map_append]
  congr 1
  cases hp : p d with
  | true => rw [List.filter_cons_of_pos hp]; rfl
  | false => rw [List.filter_cons_of_neg (by rw [hp]; exact Bool.false_ne_true)]; rfl
/-- what is walked hands out these data, whatever new there is -/
structure Gives (J : It) (T H1 : Hp) (ds : List PyData) : Prop where
  go : ∀ (i : Nat) (H' : Hp), i < ds.length → Same H1 H' → J.go i H'
  stop : ∀ H', Same H1 H' → J.stop ds.length H'
  yl : ∀ (i : Nat) (x : V) (H' H2 : Hp), i < ds.length → J.yld i H' x H2 → Same H1 H' → ∃ d T2, ds[i]? = some d ∧ Ext T H' T2 H2 ∧ Da T2 d x
theorem gives_list {K : PySem.W.Frag} {T H1 : Hp} {a : Addr} {xs : List V} {ds : List PyData} (s : Same T H1) (e : T a = some (.lst xs)) (h : DaA T ds xs) : Gives (Itl K a) T H1 ds where
  go := fun i H' hi s' => by
    have hx : i < xs.length := by rw [h.len]; exact hi
    exact ⟨xs, xs[i], .inl (.inl (s' _ _ (s _ _ e))), List.getElem?_eq_getElem hx⟩
  stop := fun H' s' => ⟨xs, .inl (.inl (s' _ _ (s _ _ e))), by rw [h.len]; exact Nat.le_refl _⟩
  yl := fun i x H' H2 _ y s' => by
    obtain ⟨rfl, y⟩ := y
    obtain ⟨d, e1, e2⟩ := h.get (y xs (.inl (.inl (s' _ _ (s _ _ e)))))
    exact ⟨d, T, e1, .refl (s.trans s'), e2⟩
theorem gives_tup {K : PySem.W.Frag} {T H1 : Hp} {a : Addr} {xs : List V} {ds : List PyData} (s : Same T H1) (e : T a = some (.tup xs)) (h : DaA T ds xs) : Gives (Itt K a) T H1 ds where
  go := fun i H' hi s' => by
    have hx : i < xs.length := by rw [h.len]; exact hi
    exact ⟨xs, xs[i], .inl (.inl (s' _ _ (s _ _ e))), List.getElem?_eq_getElem hx⟩
  stop := fun H' s' => ⟨xs, .inl (.inl (s' _ _ (s _ _ e))), by rw [h.len]; exact Nat.le_refl _⟩
  yl := fun i x H' H2 _ y s' => by
    obtain ⟨rfl, y⟩ := y
    obtain ⟨d, e1, e2⟩ := h.get (y xs (.inl (.inl (s' _ _ (s _ _ e)))))
    exact ⟨d, T, e1, .refl (s.trans s'), e2⟩
theorem gives_range {T H1 : Hp} {lo : Int} {n : Nat} (s : Same T H1) : Gives (Itr lo n) T H1 ((List.range n).map fun (i : Nat) => PyData.int (lo + i)) where
  go := fun i H' hi s' => by
    rw [List.length_map, List.length_range] at hi
    exact hi
  stop := fun H' s' => by
    show n ≤ _
    rw [List.length_map, List.length_range]
    exact Nat.le_refl _
  yl := fun i x H' H2 hi y s' => by
    obtain ⟨rfl, rfl⟩ := y
    rw [List.length_map, List.length_range] at hi
    refine ⟨.int (lo + i), T, ?_, .refl (s.trans s'), rfl⟩
    rw [List.getElem?_map, List.getElem?_range hi]
    rfl
/-- [f d for d in ds if p d]: the items ds, one way or another; go: what the walked thing hands out -/
theorem lc_dat {J : It} {g : TG} {tt : TT} {te : TE} {vs : List Nat} {σ : L2.St} {T H1 : Hp} {D : Addr} {Qd : Hp → Prop} {ds : List PyData} (p : PyData → Bool) (f : PyData → PyData)
    (sT : Same T H1) (nD : H1 D = none) (hn : ds.length < sizeLine)
    (wk : Gives J T H1 ds)
    (turn : ∀ (i : Nat) (d : PyData) (x : V) (T2 H2 : Hp) (R : V → Hp → Prop) (R0 : Hp → Prop), ds[i]? = some d → Ext T H1 T2 H2 → Da T2 d x →
      (∀ T3 H3 y, Ext T2 H2 T3 H3 → Da T3 (f d) y → p d = true → R y H3) → (∀ T3 H3, Ext T2 H2 T3 H3 → p d = false → R0 H3) →
      g x (wipe σ vs) H2 fun σ2 H3 => wipe σ2 vs = wipe σ vs ∧ tt σ2 H3 fun b H4 => if b = true then te σ2 H4 R else R0 H4)
    (done : ∀ T' H' ys, Ext T H1 T' H' → T' D = some (.lst ys) → DaA T' ((ds.filter p).map f) ys → Qd H') :
    ∃ W : Nat → Nat → Hp → Prop, (∃ m, W 0 m (upd H1 D (.lst []))) ∧ ∀ i m H, W i m H →
      (J.stop i H ∧ Qd H) ∨ (J.go i H ∧ ∃ Nx : Hp → Prop, (∀ H', Nx H' → ∃ m', m' < m ∧ W (i + 1) m' H') ∧ ∀ x H', J.yld i H x H' → g x (wipe σ vs) H' fun σ2 H2 => wipe σ2 vs = wipe σ vs ∧ tt σ2 H2 fun b H3 =>
        if b = true then te σ2 H3 fun y H4 => ∃ acc, H4 D = some (.lst acc) ∧ acc.length < sizeLine ∧ Nx (upd H4 D (.lst (acc ++ [y]))) else Nx H3) := by
  -- T': what stands beside the list
  let Iv : Nat → Hp → Prop := fun i H => ∃ T' ys, Same T T' ∧ Same T' H ∧ (∀ b, T' b ≠ none → T b ≠ none ∨ H1 b = none) ∧ T' D = none ∧ Same H1 H ∧ H D = some (.lst ys) ∧ DaA T' (((ds.take i).filter p).map f) ys
  refine ⟨fun i m H => m = ds.length - i ∧ i ≤ ds.length ∧ Iv i H, ⟨ds.length, rfl, Nat.zero_le _, T, [], Same.refl T, sT.trans (same_new nD), fun b h => .inl h, sT.free nD, same_new nD, upd_same, rfl⟩, ?_⟩
  rintro i m H ⟨rfl, hi, T', ys, tt1, th, nw, tD, hh, hD, hys⟩
  by_cases hlt : i < ds.length
  · refine .inr ⟨wk.go i H hlt hh, Iv (i + 1), fun H' h => ⟨ds.length - (i + 1), by omega, rfl, hlt, h⟩, fun x H2 hy => ?_⟩
    obtain ⟨d, T2, hd, x2, hx⟩ := wk.yl i x H H2 hlt hy hh
    -- T2 beside T'
    have tD2 : T2 D = none := x2.out (sT.free nD) hD
    let TT : Hp := fun b => match T' b with
      | some o => some o
      | none => T2 b
    have ttT' : Same T' TT := fun b o e => by show (match T' b with | some o => some o | none => T2 b) = some o; rw [e]
    have ttH : Same TT H2 := fun b o e => by
      have e' : (match T' b with | some o => some o | none => T2 b) = some o := e
      cases q : T' b with
      | some u => rw [q] at e'; cases e'; exact x2.hh _ _ (th _ _ q)
      | none => rw [q] at e'; exact x2.th _ _ e'
    have tt2 : Same T2 TT := fun b o e => by
      show (match T' b with | some o => some o | none => T2 b) = some o
      cases q : T' b with
      | none => exact e
      | some u =>
        have := x2.hh _ _ (th _ _ q)
        rw [x2.th _ _ e] at this
        exact this.symm
    have ttD : TT D = none := by
      show (match T' D with | some o => some o | none => T2 D) = none
      rw [tD]
      exact tD2
    have ext1 : Ext T H1 TT H2 := ⟨hh.trans x2.hh, tt1.trans ttT', ttH, fun b hb => by
      have hb' : (match T' b with | some o => some o | none => T2 b) ≠ none := hb
      cases q : T' b with
      | some u => exact nw b (by rw [q]; intro z; cases z)
      | none =>
        rw [q] at hb'
        exact (x2.nw b hb').imp id hh.free⟩
    refine turn i d x TT H2 _ _ hd ext1 (Da.keep tt2 d x hx) (fun T3 H3 y x3 hy3 hp => ?_) (fun T3 H3 x3 hp => ?_)
    · have hD3 : H3 D = some (.lst ys) := x3.hh _ _ (x2.hh _ _ hD)
      have tD3 : T3 D = none := x3.out ttD (x2.hh _ _ hD)
      have lenY : ys.length ≤ i := by
        have h1 := hys.len
        have h2 : (((ds.take i).filter p).map f).length ≤ (ds.take i).length := by
          rw [List.length_map]
          exact List.length_filter_le _ _
        rw [List.length_take] at h2
        omega
      refine ⟨ys, hD3, by omega, T3, ys ++ [y], (tt1.trans ttT').trans x3.tt, same_upd x3.th tD3, fun b hb => ?_, tD3, ?_, upd_same, ?_⟩
      · rcases x3.nw b hb with z | z
        · exact ext1.nw b z
        · exact .inr (ext1.hh.free z)
      · intro b o e
        rw [upd_ne (ne_of_none e nD)]
        exact x3.hh _ _ (ext1.hh _ _ e)
      · rw [filter_snoc hd, hp]
        exact DaA.snoc (DaA.keep (ttT'.trans x3.tt) _ _ hys) hy3
    · have hD3 : H3 D = some (.lst ys) := x3.hh _ _ (x2.hh _ _ hD)
      have tD3 : T3 D = none := x3.out ttD (x2.hh _ _ hD)
      refine ⟨T3, ys, (tt1.trans ttT').trans x3.tt, x3.th, fun b hb => ?_, tD3, ext1.hh.trans x3.hh, hD3, ?_⟩
      · rcases x3.nw b hb with z | z
        · exact ext1.nw b z
        · exact .inr (ext1.hh.free z)
      · rw [filter_snoc hd, hp]
        rw [show (if false = true then [f d] else []) = ([] : List PyData) from if_neg Bool.false_ne_true, List.append_nil]
        exact DaA.keep (ttT'.trans x3.tt) _ _ hys
  · have ei : i = ds.length := by omega
    subst ei
    rw [List.take_length] at hys
    refine .inl ⟨wk.stop H hh, done (upd T' D (.lst ys)) H ys ⟨hh, tt1.trans (same_new tD), ?_, ?_⟩ upd_same (DaA.keep (same_new tD) _ _ hys)⟩
    · intro b o e
      by_cases q : b = D
      · subst q
        rw [upd_same] at e
        cases e
        exact hD
      · rw [upd_ne q] at e
        exact th _ _ e
    · intro b hb
      by_cases q : b = D
      · exact .inr (q ▸ nD)
      · rw [upd_ne q] at hb
        exact nw b hb
/-- all(q d for d in ds if p d), any(..) -/
def anyAll (go : Bool) (q : PyData → Bool) (ds : List PyData) : Bool := if go = true then ds.all q else ds.any q
theorem anyAll_go {go : Bool} {q : PyData → Bool} {ds : List PyData} (h : ∀ d ∈ ds, q d = go) : anyAll go q ds = go := by
  cases go with
  | true => exact (if_pos rfl).trans (List.all_eq_true.mpr h)
  | false =>
    refine (if_neg Bool.false_ne_true).trans ?_
    rw [List.any_eq_false]
    intro d hd
    rw [h d hd]
    exact Bool.false_ne_true
theorem anyAll_no {go : Bool} {q : PyData → Bool} {ds : List PyData} {d : PyData} (hd : d ∈ ds) (h : q d ≠ go) : anyAll go q ds = !go := by
  cases go with
  | true =>
    refine (if_pos rfl).trans ?_
    exact Bool.eq_false_iff.mpr fun z => h (List.all_eq_true.mp z d hd)
  | false =>
    refine (if_neg Bool.false_ne_true).trans ?_
    refine List.any_eq_true.mpr ⟨d, hd, ?_⟩
    cases e : q d with
    | true => rfl
    | false => exact absurd e h
theorem gw_dat {J : It} {go : Bool} {g : TG} {tt : TT} {te : TE} {vs : List Nat} {σ : L2.St} {T H1 : Hp} {Qd : V → Hp → Prop} {ds : List PyData} (p q : PyData → Bool)
    (sT : Same T H1) (wk : Gives J T H1 ds)
    (turn : ∀ (i : Nat) (d : PyData) (x : V) (T2 H2 : Hp) (R : V → Hp → Prop) (R0 : Hp → Prop), ds[i]? = some d → Ext T H1 T2 H2 → Da T2 d x →
      (∀ T3 H3, Ext T2 H2 T3 H3 → p d = true → R (.bl (q d)) H3) → (∀ T3 H3, Ext T2 H2 T3 H3 → p d = false → R0 H3) →
      g x (wipe σ vs) H2 fun σ2 H3 => wipe σ2 vs = wipe σ vs ∧ tt σ2 H3 fun b H4 => if b = true then te σ2 H4 R else R0 H4)
    (done : ∀ T' H', Ext T H1 T' H' → Qd (.bl (anyAll go q (ds.filter p))) H') :
    ∃ W : Nat → Nat → Hp → Prop, (∃ m, W 0 m H1) ∧ gWalk go J g tt te vs σ Qd W := by
  let Iv : Nat → Hp → Prop := fun i H => ∃ T', Ext T H1 T' H ∧ ∀ d ∈ (ds.take i).filter p, q d = go
  refine ⟨fun i m H => m = ds.length - i ∧ i ≤ ds.length ∧ Iv i H, ⟨ds.length, rfl, Nat.zero_le _, T, .refl sT, fun d h => absurd h List.not_mem_nil⟩, ?_⟩
  rintro i m H ⟨rfl, hi, T', x1, hall⟩
  by_cases hlt : i < ds.length
  · refine .inr ⟨wk.go i H hlt x1.hh, Iv (i + 1), fun H' h => ⟨ds.length - (i + 1), by omega, rfl, hlt, h⟩, fun x H2 hy => ?_⟩
    obtain ⟨d, T2, hd, x2, hx⟩ := wk.yl i x H H2 hlt hy x1.hh
    have ext1 : Ext T H1 T2 H2 := (Ext.more sT x1.hh).trans x2
    refine turn i d x T2 H2 _ _ hd ext1 hx (fun T3 H3 x3 hp => ⟨q d, rfl, ?_⟩) (fun T3 H3 x3 hp => ?_)
    · by_cases hq : q d = go
      · rw [if_pos hq]
        refine ⟨T3, ext1.trans x3, fun e he => ?_⟩
        rw [take_snocD hd, List.filter_append] at he
        rcases List.mem_append.mp he with he | he
        · exact hall e he
        · rw [List.mem_singleton.mp (List.mem_filter.mp he).1]
          exact hq
      · rw [if_neg hq]
        have := done T3 H3 (ext1.trans x3)
        rw [anyAll_no (List.mem_filter.mpr ⟨List.mem_of_getElem? hd, hp⟩) hq] at this
        exact this
    · refine ⟨T3, ext1.trans x3, fun e he => ?_⟩
      rw [take_snocD hd, List.filter_append] at he
      rcases List.mem_append.mp he with he | he
      · exact hall e he
      · have e1 := List.mem_filter.mp he
        rw [List.mem_singleton.mp e1.1, hp] at e1
        cases e1.2
  · have ei : i = ds.length := by omega
    subst ei
    rw [List.take_length] at hall
    refine .inl ⟨wk.stop H x1.hh, ?_⟩
    have := done T' H x1
    rw [anyAll_go hall] at this
    exact this
end Zc
end

section
set_option maxHeartbeats 2000000
/-! Walks over data that are written in a known way. -/
namespace Zc
open PySem PySem.Spec PyProof.Rows L2
/-- all(q d for d in ds), any(..), of items of any kind -/
def anyAllA {α : Type} (go : Bool) (q : α → Bool) (ds : List α) : Bool := if go = true then ds.all q else ds.any q
theorem anyAllA_go {α : Type} {go : Bool} {q : α → Bool} {ds : List α} (h : ∀ d ∈ ds, q d = go) : anyAllA go q ds = go := by
  cases go with
  | true => exact (if_pos rfl).trans (List.all_eq_true.mpr h)
  | false =>
    refine (if_neg Bool.false_ne_true).trans ?_
    rw [List.any_eq_false]
    intro d hd
    rw [h d hd]
    exact Bool.false_ne_true
theorem anyAllA_no {α : Type} {go : Bool} {q : α → Bool} {ds : List α} {d : α} (hd : d ∈ ds) (h : q d ≠ go) : anyAllA go q ds = !go := by
  cases go with
  | true =>
    refine (if_pos rfl).trans ?_
    exact Bool.eq_false_iff.mpr fun z => h (List.all_eq_true.mp z d hd)
  | false =>
    refine (if_neg Bool.false_ne_true).trans ?_
    refine List.any_eq_true.mpr ⟨d, hd, ?_⟩
    cases e : q d with
    | true => rfl
    | false => exact absurd e h
theorem take_snocA {α : Type} {ds : List α} {i : Nat} {d : α} (h : ds[i]? = some d) : ds.take (i + 1) = ds.take i ++ [d] := by
  rw [List.take_add_one, h]
  rfl
theorem filter_snocA {α : Type} {p : α → Bool} {f : α → PyData} {ds : List α} {i : Nat} {d : α} (h : ds[i]? = some d) :
    ((ds.take (i + 1)).filter p).map f = ((ds.take i).filter p).map f ++ (if p d = true then [f d] else []) := by
  rw [take_snocA h, List.filter_append, List.map_append]
  congr 1
  cases hp : p d with
  | true => rw [List.filter_cons_of_pos hp]; rfl
  | false => rw [List.filter_cons_of_neg (by rw [hp]; exact Bool.false_ne_true)]; rfl
theorem filter_yes {α : Type} (ds : List α) : ds.filter (fun _ => true) = ds := List.filter_eq_self.mpr fun _ _ => rfl
/-- [f d for d in ds if p d], the items written as data by enc: the items ds, one way or another; go: what the walked thing hands out -/
theorem lc_enc {α : Type} {J : It} {g : TG} {tt : TT} {te : TE} {vs : List Nat} {σ : L2.St} {T H1 : Hp} {D : Addr} {Qd : Hp → Prop} {ds : List α} (enc : α → PyData) (p : α → Bool) (f : α → PyData)
    (sT : Same T H1) (nD : H1 D = none) (hn : ds.length < sizeLine)
    (wk : Gives J T H1 (ds.map enc))
    (turn : ∀ (i : Nat) (d : α) (x : V) (T2 H2 : Hp) (R : V → Hp → Prop) (R0 : Hp → Prop), ds[i]? = some d → Ext T H1 T2 H2 → Da T2 (enc d) x →
      (∀ T3 H3 y, Ext T2 H2 T3 H3 → Da T3 (f d) y → p d = true → R y H3) → (∀ T3 H3, Ext T2 H2 T3 H3 → p d = false → R0 H3) →
      g x (wipe σ vs) H2 fun σ2 H3 => wipe σ2 vs = wipe σ vs ∧ tt σ2 H3 fun b H4 => if b = true then te σ2 H4 R else R0 H4)
    (done : ∀ T' H' ys, Ext T H1 T' H' → T' D = some (.lst ys) → DaA T' ((ds.filter p).map f) ys → Qd H') :
    ∃ W : Nat → Nat → Hp → Prop, (∃ m, W 0 m (upd H1 D (.lst []))) ∧ ∀ i m H, W i m H →
      (J.stop i H ∧ Qd H) ∨ (J.go i H ∧ ∃ Nx : Hp → Prop, (∀ H', Nx H' → ∃ m', m' < m ∧ W (i + 1) m' H') ∧ ∀ x H', J.yld i H x H' → g x (wipe σ vs) H' fun σ2 H2 => wipe σ2 vs = wipe σ vs ∧ tt σ2 H2 fun b H3 =>
        if b = true then te σ2 H3 fun y H4 => ∃ acc, H4 D = some (.lst acc) ∧ acc.length < sizeLine ∧ Nx (upd H4 D (.lst (acc ++ [y]))) else Nx H3) := by
  -- T': what stands beside the list
  let Iv : Nat → Hp → Prop := fun i H => ∃ T' ys, Same T T' ∧ Same T' H ∧ (∀ b, T' b ≠ none → T b ≠ none ∨ H1 b = none) ∧ T' D = none ∧ Same H1 H ∧ H D = some (.lst ys) ∧ DaA T' (((ds.take i).filter p).map f) ys
  refine ⟨fun i m H => m = ds.length - i ∧ i ≤ ds.length ∧ Iv i H, ⟨ds.length, rfl, Nat.zero_le _, T, [], Same.refl T, sT.trans (same_new nD), fun b h => .inl h, sT.free nD, same_new nD, upd_same, rfl⟩, ?_⟩
  rintro i m H ⟨rfl, hi, T', ys, tt1, th, nw, tD, hh, hD, hys⟩
  by_cases hlt : i < ds.length
  · refine .inr ⟨wk.go i H (by rw [List.length_map]; exact hlt) hh, Iv (i + 1), fun H' h => ⟨ds.length - (i + 1), by omega, rfl, hlt, h⟩, fun x H2 hy => ?_⟩
    obtain ⟨d0, T2, hd0, x2, hx⟩ := wk.yl i x H H2 (by rw [List.length_map]; exact hlt) hy hh
    obtain ⟨d, hd, rfl⟩ : ∃ d, ds[i]? = some d ∧ d0 = enc d := by
      rw [List.getElem?_map, List.getElem?_eq_getElem hlt] at hd0
      exact ⟨ds[i], List.getElem?_eq_getElem hlt, (Option.some.inj hd0).symm⟩
    -- T2 beside T'
    have tD2 : T2 D = none := x2.out (sT.free nD) hD
    let TT : Hp := fun b => match T' b with
      | some o => some o
      | none => T2 b
    have ttT' : Same T' TT := fun b o e => by show (match T' b with | some o => some o | none => T2 b) = some o; rw [e]
    have ttH : Same TT H2 := fun b o e => by
      have e' : (match T' b with | some o => some o | none => T2 b) = some o := e
      cases q : T' b with
      | some u => rw [q] at e'; cases e'; exact x2.hh _ _ (th _ _ q)
      | none => rw [q] at e'; exact x2.th _ _ e'
    have tt2 : Same T2 TT := fun b o e => by
      show (match T' b with | some o => some o | none => T2 b) = some o
      cases q : T' b with
      | none => exact e
      | some u =>
        have := x2.hh _ _ (th _ _ q)
        rw [x2.th _ _ e] at this
        exact this.symm
    have ttD : TT D = none := by
      show (match T' D with | some o => some o | none => T2 D) = none
      rw [tD]
      exact tD2
    have ext1 : Ext T H1 TT H2 := ⟨hh.trans x2.hh, tt1.trans ttT', ttH, fun b hb => by
      have hb' : (match T' b with | some o => some o | none => T2 b) ≠ none := hb
      cases q : T' b with
      | some u => exact nw b (by rw [q]; intro z; cases z)
      | none =>
        rw [q] at hb'
        exact (x2.nw b hb').imp id hh.free⟩
    refine turn i d x TT H2 _ _ hd ext1 (Da.keep tt2 (enc d) x hx) (fun T3 H3 y x3 hy3 hp => ?_) (fun T3 H3 x3 hp => ?_)
    · have hD3 : H3 D = some (.lst ys) := x3.hh _ _ (x2.hh _ _ hD)
      have tD3 : T3 D = none := x3.out ttD (x2.hh _ _ hD)
      have lenY : ys.length ≤ i := by
        have h1 := hys.len
        have h2 : (((ds.take i).filter p).map f).length ≤ (ds.take i).length := by
          rw [List.length_map]
          exact List.length_filter_le _ _
        rw [List.length_take] at h2
        omega
      refine ⟨ys, hD3, by omega, T3, ys ++ [y], (tt1.trans ttT').trans x3.tt, same_upd x3.th tD3, fun b hb => ?_, tD3, ?_, upd_same, ?_⟩
      · rcases x3.nw b hb with z | z
        · exact ext1.nw b z
        · exact .inr (ext1.hh.free z)
      · intro b o e
        rw [upd_ne (ne_of_none e nD)]
        exact x3.hh _ _ (ext1.hh _ _ e)
      · rw [filter_snocA hd, hp]
        exact DaA.snoc (DaA.keep (ttT'.trans x3.tt) _ _ hys) hy3
    · have hD3 : H3 D = some (.lst ys) := x3.hh _ _ (x2.hh _ _ hD)
      have tD3 : T3 D = none := x3.out ttD (x2.hh _ _ hD)
      refine ⟨T3, ys, (tt1.trans ttT').trans x3.tt, x3.th, fun b hb => ?_, tD3, ext1.hh.trans x3.hh, hD3, ?_⟩
      · rcases x3.nw b hb with z | z
        · exact ext1.nw b z
        · exact .inr (ext1.hh.free z)
      · rw [filter_snocA hd, hp]
        rw [show (if false = true then [f d] else []) = ([] : List PyData) from if_neg Bool.false_ne_true, List.append_nil]
        exact DaA.keep (ttT'.trans x3.tt) _ _ hys
  · have ei : i = ds.length := by omega
    subst ei
    rw [List.take_length] at hys
    refine .inl ⟨by have := wk.stop H hh; rwa [List.length_map] at this, done (upd T' D (.lst ys)) H ys ⟨hh, tt1.trans (same_new tD), ?_, ?_⟩ upd_same (DaA.keep (same_new tD) _ _ hys)⟩
    · intro b o e
      by_cases q : b = D
      · subst q
        rw [upd_same] at e
        cases e
        exact hD
      · rw [upd_ne q] at e
        exact th _ _ e
    · intro b hb
      by_cases q : b = D
      · exact .inr (q ▸ nD)
      · rw [upd_ne q] at hb
        exact nw b hb
theorem gw_enc {α : Type} {J : It} {go : Bool} {g : TG} {tt : TT} {te : TE} {vs : List Nat} {σ : L2.St} {T H1 : Hp} {Qd : V → Hp → Prop} {ds : List α} (enc : α → PyData) (p q : α → Bool)
    (sT : Same T H1) (wk : Gives J T H1 (ds.map enc))
    (turn : ∀ (i : Nat) (d : α) (x : V) (T2 H2 : Hp) (R : V → Hp → Prop) (R0 : Hp → Prop), ds[i]? = some d → Ext T H1 T2 H2 → Da T2 (enc d) x →
      (∀ T3 H3, Ext T2 H2 T3 H3 → p d = true → R (.bl (q d)) H3) → (∀ T3 H3, Ext T2 H2 T3 H3 → p d = false → R0 H3) →
      g x (wipe σ vs) H2 fun σ2 H3 => wipe σ2 vs = wipe σ vs ∧ tt σ2 H3 fun b H4 => if b = true then te σ2 H4 R else R0 H4)
    (done : ∀ T' H', Ext T H1 T' H' → Qd (.bl (anyAllA go q (ds.filter p))) H') :
    ∃ W : Nat → Nat → Hp → Prop, (∃ m, W 0 m H1) ∧ gWalk go J g tt te vs σ Qd W := by
  let Iv : Nat → Hp → Prop := fun i H => ∃ T', Ext T H1 T' H ∧ ∀ d ∈ (ds.take i).filter p, q d = go
  refine ⟨fun i m H => m = ds.length - i ∧ i ≤ ds.length ∧ Iv i H, ⟨ds.length, rfl, Nat.zero_le _, T, .refl sT, fun d h => absurd h List.not_mem_nil⟩, ?_⟩
  rintro i m H ⟨rfl, hi, T', x1, hall⟩
  by_cases hlt : i < ds.length
  · refine .inr ⟨wk.go i H (by rw [List.length_map]; exact hlt) x1.hh, Iv (i + 1), fun H' h => ⟨ds.length - (i + 1), by omega, rfl, hlt, h⟩, fun x H2 hy => ?_⟩
    obtain ⟨d0, T2, hd0, x2, hx⟩ := wk.yl i x H H2 (by rw [List.length_map]; exact hlt) hy x1.hh
    obtain ⟨d, hd, rfl⟩ : ∃ d, ds[i]? = some d ∧ d0 = enc d := by
      rw [List.getElem?_map, List.getElem?_eq_getElem hlt] at hd0
      exact ⟨ds[i], List.getElem?_eq_getElem hlt, (Option.some.inj hd0).symm⟩
    have ext1 : Ext T H1 T2 H2 := (Ext.more sT x1.hh).trans x2
    refine turn i d x T2 H2 _ _ hd ext1 hx (fun T3 H3 x3 hp => ⟨q d, rfl, ?_⟩) (fun T3 H3 x3 hp => ?_)
    · by_cases hq : q d = go
      · rw [if_pos hq]
        refine ⟨T3, ext1.trans x3, fun e he => ?_⟩
        rw [take_snocA hd, List.filter_append] at he
        rcases List.mem_append.mp he with he | he
        · exact hall e he
        · rw [List.mem_singleton.mp (List.mem_filter.mp he).1]
          exact hq
      · rw [if_neg hq]
        have := done T3 H3 (ext1.trans x3)
        rw [anyAllA_no (List.mem_filter.mpr ⟨List.mem_of_getElem? hd, hp⟩) hq] at this
        exact this
    · refine ⟨T3, ext1.trans x3, fun e he => ?_⟩
      rw [take_snocA hd, List.filter_append] at he
      rcases List.mem_append.mp he with he | he
      · exact hall e he
      · have e1 := List.mem_filter.mp he
        rw [List.mem_singleton.mp e1.1, hp] at e1
        cases e1.2
  · have ei : i = ds.length := by omega
    subst ei
    rw [List.take_length] at hall
    refine .inl ⟨by have := wk.stop H x1.hh; rwa [List.length_map] at this, ?_⟩
    have := done T' H x1
    rw [anyAllA_go hall] at this
    exact this
end Zc
end

section
set_option maxHeartbeats 2000000
/-! Walks whose turns draw from the deal. -/
namespace Zc
open PySem PySem.Spec PyProof.Rows L2
theorem Deal.same {H H' : Hp} {d l : Addr} (h : Deal H d l) (s : Same H H') : Deal H' d l := by
  obtain ⟨xs, b, n, h1, h2, r⟩ := h
  exact ⟨xs, b, n, s _ _ h1, s _ _ h2, r⟩
theorem Deal.ne {H : Hp} {d l m : Addr} (h : Deal H d l) (n : H m = none) : m ≠ d ∧ m ≠ l := by
  obtain ⟨xs, b, _, h1, h2, _⟩ := h
  exact ⟨fun e => (by rw [e, h1] at n; cases n), fun e => (by rw [e, h2] at n; cases n)⟩
theorem Deal.upd {H : Hp} {d l m : Addr} {o : HO} (h : Deal H d l) (n1 : m ≠ d) (n2 : m ≠ l) : Deal (upd H m o) d l := by
  obtain ⟨xs, b, e0, e1, e2, r⟩ := h
  exact ⟨xs, b, e0, by rw [upd_ne (Ne.symm n1)]; exact e1, by rw [upd_ne (Ne.symm n2)]; exact e2, r⟩
/-- more stands; beside it the deal may have turned -/
structure ExD (d l : Addr) (T H T' H' : Hp) : Prop where
  hh : But d l H H'
  tt : Same T T'
  th : Same T' H'
  nw : ∀ b, T' b ≠ none → T b ≠ none ∨ H b = none
section
variable {d l : Addr} {T H T1 H1 T2 H2 : Hp}
theorem Ext.toD (x : Ext T H T1 H1) : ExD d l T H T1 H1 := ⟨.of x.hh, x.tt, x.th, x.nw⟩
theorem ExD.refl (s : Same T H) : ExD d l T H T H := (Ext.refl s).toD
theorem But.free {H H' : Hp} (h : But d l H H') {b : Addr} (nd : b ≠ d) (nl : b ≠ l) (e : H' b = none) : H b = none := by
  cases q : H b with
  | none => rfl
  | some o =>
    rw [h b o nd nl q] at e
    cases e
theorem ExD.trans (hD : Deal H d l) (a : ExD d l T H T1 H1) (hD1 : Deal H1 d l) (b : ExD d l T1 H1 T2 H2) : ExD d l T H T2 H2 :=
  ⟨a.hh.trans b.hh, a.tt.trans b.tt, b.th, fun c h => (b.nw c h).elim (a.nw c) fun z => by
    obtain ⟨_, _, _, e1, e2, _⟩ := hD1
    refine .inr (a.hh.free (fun q => ?_) (fun q => ?_) z)
    · rw [q, e1] at z; cases z
    · rw [q, e2] at z; cases z⟩
/-- the deal has turned -/
theorem ExD.turn (s : Same T H) (td : T d = none) (tl : T l = none) (h : But d l H H1) : ExD d l T H T H1 :=
  ⟨h, Same.refl T, fun b o e => h b o (fun q => by rw [q, td] at e; cases e) (fun q => by rw [q, tl] at e; cases e) (s _ _ e), fun b q => .inl q⟩
theorem ExD.out {b : Addr} {o : HO} (x : ExD d l T H T1 H1) (n : T b = none) (h : H b = some o) : T1 b = none := by
  cases q : T1 b with
  | none => rfl
  | some u =>
    rcases x.nw b (by rw [q]; intro z; cases z) with z | z
    · exact absurd n z
    · rw [h] at z
      cases z
end
/-- what is walked hands out these data, whatever happens beside T -/
structure GivT (J : It) (T : Hp) (ds : List PyData) : Prop where
  go : ∀ (i : Nat) (H' : Hp), i < ds.length → Same T H' → J.go i H'
  stop : ∀ H', Same T H' → J.stop ds.length H'
  yl : ∀ (i : Nat) (x : V) (H' H2 : Hp), i < ds.length → J.yld i H' x H2 → Same T H' → H2 = H' ∧ ∃ e, ds[i]? = some e ∧ Da T e x
theorem givT_list {K : PySem.W.Frag} {T : Hp} {a : Addr} {xs : List V} {ds : List PyData} (e : T a = some (.lst xs)) (h : DaA T ds xs) : GivT (Itl K a) T ds where
  go := fun i H' hi s' => by
    have hx : i < xs.length := by rw [h.len]; exact hi
    exact ⟨xs, xs[i], .inl (.inl (s' _ _ e)), List.getElem?_eq_getElem hx⟩
  stop := fun H' s' => ⟨xs, .inl (.inl (s' _ _ e)), by rw [h.len]; exact Nat.le_refl _⟩
  yl := fun i x H' H2 _ y s' => by
    obtain ⟨rfl, y⟩ := y
    exact ⟨rfl, h.get (y xs (.inl (.inl (s' _ _ e))))⟩
theorem givT_tup {K : PySem.W.Frag} {T : Hp} {a : Addr} {xs : List V} {ds : List PyData} (e : T a = some (.tup xs)) (h : DaA T ds xs) : GivT (Itt K a) T ds where
  go := fun i H' hi s' => by
    have hx : i < xs.length := by rw [h.len]; exact hi
    exact ⟨xs, xs[i], .inl (.inl (s' _ _ e)), List.getElem?_eq_getElem hx⟩
  stop := fun H' s' => ⟨xs, .inl (.inl (s' _ _ e)), by rw [h.len]; exact Nat.le_refl _⟩
  yl := fun i x H' H2 _ y s' => by
    obtain ⟨rfl, y⟩ := y
    exact ⟨rfl, h.get (y xs (.inl (.inl (s' _ _ e))))⟩
theorem givT_range {T : Hp} {lo : Int} {n : Nat} : GivT (Itr lo n) T ((List.range n).map fun (i : Nat) => PyData.int (lo + i)) where
  go := fun i H' hi s' => by
    rw [List.length_map, List.length_range] at hi
    exact hi
  stop := fun H' s' => by
    show n ≤ _
    rw [List.length_map, List.length_range]
    exact Nat.le_refl _
  yl := fun i x H' H2 hi y s' => by
    obtain ⟨rfl, rfl⟩ := y
    rw [List.length_map, List.length_range] at hi
    refine ⟨rfl, .int (lo + i), ?_, rfl⟩
    rw [List.getElem?_map, List.getElem?_range hi]
    rfl
/-- a comprehension whose element, or test, draws; Pi: what holds of the items so far -/
theorem lc_draw {J : It} {g : TG} {tt : TT} {te : TE} {vs : List Nat} {σ : L2.St} {d l : Addr} {T H1 : Hp} {D : Addr} {Qd : Hp → Prop} {ds : List PyData} (Pi : Nat → List PyData → Prop)
    (sT : Same T H1) (td : T d = none) (tl : T l = none) (hD : Deal H1 d l) (nD : H1 D = none) (hn : ds.length < sizeLine) (wk : GivT J T ds) (p0 : Pi 0 []) 
    (turn : ∀ (i : Nat) (e0 : PyData) (x : V) (T2 H2 : Hp) (es : List PyData) (R : V → Hp → Prop) (R0 : Hp → Prop), ds[i]? = some e0 → i < ds.length → Da T2 e0 x → ExD d l T H1 T2 H2 → T2 d = none → T2 l = none → Deal H2 d l → Pi i es →
      (∀ T3 H3 y e, ExD d l T2 H2 T3 H3 → Deal H3 d l → Da T3 e y → Pi (i + 1) (es ++ [e]) → R y H3) → (∀ T3 H3, ExD d l T2 H2 T3 H3 → Deal H3 d l → Pi (i + 1) es → R0 H3) →
      g x (wipe σ vs) H2 fun σ2 H3 => wipe σ2 vs = wipe σ vs ∧ tt σ2 H3 fun b H4 => if b = true then te σ2 H4 R else R0 H4)
    (done : ∀ T' H' ys es, ExD d l T H1 T' H' → Deal H' d l → T' D = some (.lst ys) → DaA T' es ys → Pi ds.length es → Qd H') :
    ∃ W : Nat → Nat → Hp → Prop, (∃ m, W 0 m (upd H1 D (.lst []))) ∧ ∀ i m H, W i m H →
      (J.stop i H ∧ Qd H) ∨ (J.go i H ∧ ∃ Nx : Hp → Prop, (∀ H', Nx H' → ∃ m', m' < m ∧ W (i + 1) m' H') ∧ ∀ x H', J.yld i H x H' → g x (wipe σ vs) H' fun σ2 H2 => wipe σ2 vs = wipe σ vs ∧ tt σ2 H2 fun b H3 =>
        if b = true then te σ2 H3 fun y H4 => ∃ acc, H4 D = some (.lst acc) ∧ acc.length < sizeLine ∧ Nx (upd H4 D (.lst (acc ++ [y]))) else Nx H3) := by
  obtain ⟨nDd, nDl⟩ := hD.ne nD
  let Iv : Nat → Hp → Prop := fun i H => ∃ T' ys es, ExD d l T H1 T' H ∧ Deal H d l ∧ T' D = none ∧ H D = some (.lst ys) ∧ DaA T' es ys ∧ es.length ≤ i ∧ Pi i es
  refine ⟨fun i m H => m = ds.length - i ∧ i ≤ ds.length ∧ Iv i H, ⟨ds.length, rfl, Nat.zero_le _, T, [], [], ⟨.of (same_new nD), Same.refl T, sT.trans (same_new nD), fun b h => .inl h⟩, hD.upd nDd nDl, sT.free nD, upd_same, rfl, Nat.le_refl _, p0⟩, ?_⟩
  rintro i m H ⟨rfl, hi, T', ys, es, x1, hD', tD, hLD, hys, hle, hPi⟩
  have sT' : Same T H := x1.tt.trans x1.th
  by_cases hlt : i < ds.length
  · refine .inr ⟨wk.go i H hlt sT', Iv (i + 1), fun H' h => ⟨ds.length - (i + 1), by omega, rfl, hlt, h⟩, fun x H2 hy => ?_⟩
    obtain ⟨rfl, e0, he0, hx⟩ := wk.yl i x H H2 hlt hy sT'
    have td' : T' d = none := by
      obtain ⟨_, _, _, e1, e2, _⟩ := hD
      exact x1.out td e1
    have tl' : T' l = none := by
      obtain ⟨_, _, _, e1, e2, _⟩ := hD
      exact x1.out tl e2
    refine turn i e0 x T' H2 es _ _ he0 hlt (Da.keep x1.tt _ _ hx) x1 td' tl' hD' hPi (fun T3 H3 y e x3 hD3 hy3 hP3 => ?_) (fun T3 H3 x3 hD3 hP3 => ?_)
    · have h3 : H3 D = some (.lst ys) := x3.hh _ _ nDd nDl hLD
      have tD3 : T3 D = none := x3.out tD hLD
      have xx := ExD.trans hD x1 hD' x3
      refine ⟨ys, h3, by rw [hys.len]; omega, T3, ys ++ [y], es ++ [e], ⟨?_, xx.tt, same_upd xx.th tD3, xx.nw⟩, hD3.upd nDd nDl, tD3, upd_same, (hys.keep x3.tt).snoc hy3, by rw [List.length_append, List.length_singleton]; omega, hP3⟩
      intro b o n1 n2 eb
      rw [upd_ne (ne_of_none eb nD)]
      exact xx.hh b o n1 n2 eb
    · exact ⟨T3, ys, es, ExD.trans hD x1 hD' x3, hD3, x3.out tD hLD, x3.hh _ _ nDd nDl hLD, hys.keep x3.tt, by omega, hP3⟩
  · have ei : i = ds.length := by omega
    subst ei
    refine .inl ⟨wk.stop H sT', done (upd T' D (.lst ys)) H ys es ⟨x1.hh, x1.tt.trans (same_new tD), fun b o e => ?_, fun b hb => ?_⟩ hD' upd_same (hys.keep (same_new tD)) hPi⟩
    · by_cases q : b = D
      · subst q
        rw [upd_same] at e
        cases e
        exact hLD
      · rw [upd_ne q] at e
        exact x1.th _ _ e
    · by_cases q : b = D
      · exact .inr (q ▸ nD)
      · rw [upd_ne q] at hb
        exact x1.nw b hb
end Zc
end

section
set_option maxHeartbeats 4000000
/-! tuple * int, the int 1 or more -/
namespace Zc
open PySem PySem.Spec PyProof.Rows L2
theorem mul_one_same (l : Addr) (items : Array Value) (n : Nat) (u : Tok) :
    Meets (Builtin.«tuple.__mul__» ⟨[.ref l, .int 1 u], []⟩) (fun _ R s => (∃ dd sl, s.heap.get? l = some { cls := .type "tuple", dict := dd, data := .seq items n, slots := sl }) ∧ R (.ok (.ret (Value.ref l))) s) :=
  .of_wp fun prog w A R s h => by
    obtain ⟨hp, g, d, tk, os⟩ := s
    obtain ⟨⟨dd, sl, hl⟩, h⟩ := h
    have f1 := AutoSeq1.idx_int
    wp_walk using wpAny_loadPart' hl
    repeat (first
      | (refine wpAny_ite_false (by decide) ?_; wp_walk using wpAny_loadPart' hl)
      | (refine wpAny_ite_true (by simp) ?_; wp_walk using wpAny_loadPart' hl))
    exact ⟨_, rfl, h⟩
/-- t * k, k from 1 on -/
def rRepA (K : PySem.W.Frag) : R2 := fun x y H Q => ∃ l k xs, x = .ref l ∧ y = .int k ∧ SqT K H l xs ∧ xs ≠ [] ∧ 1 ≤ k ∧ k ≤ 1000 ∧ xs.length ≤ 1000 ∧ (k = 1 → Q (.ref l) H) ∧ (k ≠ 1 → ∀ p, H p = none → Q (.ref p) (upd H p (.tup (List.replicate k.toNat xs).flatten)))
theorem op_repA {X : Cx} : OpR X (binaryOp .Mult) (rRepA X.K) := by
  intro pins s σ H x y v u Q I rx ry h
  obtain ⟨l, k, xs, rfl, rfl, hT, hne, h1, h2, hz, q1, q2⟩ := h
  by_cases e : k = 1
  · subst e
    cases rx
    obtain ⟨t, rfl⟩ := ry
    obtain ⟨its, r, hit, hs⟩ := I.tuple hT
    obtain ⟨⟨cls, dd, data, sl⟩, ho, hc, n, hd⟩ := id hit
    simp only at hc hd
    subst hc hd
    exact wpAny_binaryOp_repeat_ref (T := "tuple") (U := "int") (by decide) ⟨_, ho, rfl⟩ (fun s' => typeIs_int s' 1 t) noFill_tuple_mul F.fills_int_mul F.slot_int_rmul repeat_tuple F.slot_int_index.lookup
      (call_meets F.slot_int_rmul (typeIs_int s 1 t) F.entry_int_rmul (F.args_int_rmul_2 _ _) (int_rmul_tuple 1 t l its.toArray n dd sl)
        ⟨ho, rfl, ⟨_, ho, rfl⟩, call_meets F.slot_tuple_mul ⟨_, ho, rfl⟩ F.entry_tuple_mul (F.args_tuple_mul_2 _ _) (mul_one_same l its.toArray n t) ⟨⟨dd, sl, ho⟩, ⟨.ref l, H, I, rfl, q1 rfl⟩⟩⟩)
  · exact op_repT pins s σ H _ _ v u Q I rx ry ⟨l, k, xs, rfl, rfl, hT, hne, by omega, h2, hz, q2 e⟩
end Zc
end

section
set_option maxHeartbeats 2000000
/-! Readings of sequences' rules, over what stands. -/
namespace Zc
open PySem PySem.Spec PyProof.Rows L2
section
variable {K : PySem.W.Frag} {T H : Hp} {Q : VK}
theorem tup_da {xs : List V} (hz : xs.length ≤ sizeLine) (s : Same T H) (h : ∀ m T' H', Ext T H T' H' → T' m = some (.tup xs) → Q (.ref m) H') :
    xs.length ≤ sizeLine ∧ ∀ p, H p = none → Q (.ref p) (upd H p (.tup xs)) := ⟨hz, fun p np => h p _ _ (Ext.new s np) upd_same⟩
theorem lst_da {xs : List V} (hz : xs.length ≤ sizeLine) (s : Same T H) (h : ∀ m T' H', Ext T H T' H' → T' m = some (.lst xs) → Q (.ref m) H') :
    xs.length ≤ sizeLine ∧ ∀ p, H p = none → Q (.ref p) (upd H p (.lst xs)) := ⟨hz, fun p np => h p _ _ (Ext.new s np) upd_same⟩
theorem sIx_le (n : Nat) (o : Option Int) (d : Nat) (hd : d ≤ n) : HT.sIx n d o ≤ n ∨ (∃ v, o = some v ∧ v < 0) := by
  cases o with
  | none => exact .inl hd
  | some v =>
    by_cases h : v < 0
    · exact .inr ⟨v, rfl, h⟩
    · refine .inl ?_
      show (if v < 0 then _ else _) ≤ n
      rw [if_neg h]
      exact Nat.min_le_right _ _
theorem cutV_all {xs : List V} {lo hi : Option Int} (h : HT.sIx xs.length 0 lo = 0 ∧ HT.sIx xs.length xs.length hi = xs.length) : cutV xs lo hi = xs := by
  unfold cutV
  rw [h.1, h.2, List.drop_zero, Nat.sub_zero, List.take_length]
theorem slA_da {a : Addr} {xs : List V} {lo hi : Option Int} (s : Same T H) (e : T a = some (.tup xs)) (h : ∀ b T' H', Ext T H T' H' → T' b = some (.tup (cutV xs lo hi)) → Q (.ref b) H') : rSlA K (.ref a) lo hi H Q :=
  ⟨a, xs, rfl, .inl (.inl (s _ _ e)), fun w => h a T H (.refl s) (by rw [cutV_all w]; exact e), fun _ p np => h p _ _ (Ext.new s np) upd_same⟩
theorem catA_da {a b : Addr} {xs ys : List V} (s : Same T H) (ea : T a = some (.tup xs)) (eb : T b = some (.tup ys)) (hz : xs.length + ys.length ≤ sizeLine) (h : ∀ c T' H', Ext T H T' H' → T' c = some (.tup (xs ++ ys)) → Q (.ref c) H') : rCatA K (.ref a) (.ref b) H Q :=
  ⟨a, b, xs, ys, rfl, rfl, .inl (.inl (s _ _ ea)), .inl (.inl (s _ _ eb)), hz, fun e => h b T H (.refl s) (by rw [e]; exact eb), fun _ e => h a T H (.refl s) (by rw [e, List.append_nil]; exact ea), fun _ _ p np => h p _ _ (Ext.new s np) upd_same⟩
theorem repA_da {a : Addr} {xs : List V} {k : Nat} (s : Same T H) (ea : T a = some (.tup xs)) (hx : xs ≠ []) (hz : xs.length ≤ 1000) (k1 : 1 ≤ k) (k2 : k ≤ 1000) (h : ∀ c T' H', Ext T H T' H' → T' c = some (.tup (List.replicate k xs).flatten) → Q (.ref c) H') : rRepA K (.ref a) (.int (k : Int)) H Q :=
  ⟨a, k, xs, rfl, rfl, .inl (.inl (s _ _ ea)), hx, by omega, by omega, hz, fun e => h a T H (.refl s) (by
      have : k = 1 := by omega
      rw [this]
      show T a = some (.tup ((xs :: []).flatten))
      rw [List.flatten_cons, List.flatten_nil, List.append_nil]
      exact ea), fun _ p np => h p _ _ (Ext.new s np) (by rw [Int.toNat_natCast]; exact upd_same)⟩
end
theorem noPart {σ : L2.St} {H : Hp} {Q : Option Int → Hp → Prop} (h : Q none H) : tNoPart σ H Q := h
theorem cutV_take (xs : List V) (i : Nat) (h : i ≤ xs.length) : cutV xs none (some (i : Int)) = xs.take i := by
  unfold cutV
  rw [HT.sIx_nat, HT.sIx_none, List.drop_zero, Nat.sub_zero, Nat.min_eq_left h]
theorem cutV_drop (xs : List V) (i : Nat) (h : i ≤ xs.length) : cutV xs (some (i : Int)) none = xs.drop i := by
  unfold cutV
  rw [HT.sIx_nat, HT.sIx_none, Nat.min_eq_left h, List.take_of_length_le (by rw [List.length_drop]; exact Nat.le_refl _)]
end Zc
end

section
set_option maxHeartbeats 1000000
/-! Data that stand, or are written in the program (tuples). -/
namespace Zd
open PySem PySem.Spec PyProof.Rows L2 Zc
mutual
def Dv (K : PySem.W.Frag) (T : Hp) : PyData → V → Prop
  | .none, v => v = .non
  | .bool b, v => v = .bl b
  | .int i, v => v = .int i
  | .str x, v => v = .str x
  | .list ds, v => ∃ a xs, v = .ref a ∧ T a = some (.lst xs) ∧ DvA K T ds xs
  | .tuple ds, v => ∃ a xs, v = .ref a ∧ SqT K T a xs ∧ DvA K T ds xs
  | .dict [], v => ∃ a, v = .ref a ∧ T a = some (.dK [])
  | .dict (_ :: _), _ => False
def DvA (K : PySem.W.Frag) (T : Hp) : List PyData → List V → Prop
  | [], xs => xs = []
  | d :: ds, xs => ∃ v vs, xs = v :: vs ∧ Dv K T d v ∧ DvA K T ds vs
end
mutual
theorem Dv.keep {K : PySem.W.Frag} {T T' : Hp} (s : Same T T') : ∀ (d : PyData) (v : V), Dv K T d v → Dv K T' d v
  | .none, _, h => h
  | .bool _, _, h => h
  | .int _, _, h => h
  | .str _, _, h => h
  | .list ds, _, ⟨a, xs, e, h, r⟩ => ⟨a, xs, e, s _ _ h, DvA.keep s ds xs r⟩
  | .tuple ds, _, ⟨a, xs, e, h, r⟩ => ⟨a, xs, e, Same.seqT s h, DvA.keep s ds xs r⟩
  | .dict [], _, ⟨a, e, h⟩ => ⟨a, e, s _ _ h⟩
  | .dict (_ :: _), _, h => h
theorem DvA.keep {K : PySem.W.Frag} {T T' : Hp} (s : Same T T') : ∀ (ds : List PyData) (vs : List V), DvA K T ds vs → DvA K T' ds vs
  | [], _, h => h
  | d :: ds, _, ⟨v, vs, e, h, r⟩ => ⟨v, vs, e, Dv.keep s d v h, DvA.keep s ds vs r⟩
end
mutual
theorem Dv.dp {K : PySem.W.Frag} {T : Hp} : ∀ (d : PyData) (v : V), plainD d = true → Dv K T d v → Dp K T v d
  | .none, _, _, h => by cases h; exact .non
  | .bool b, _, _, h => by cases h; exact .bl b
  | .int i, _, _, h => by cases h; exact .int i
  | .str x, _, _, h => by cases h; exact .str x
  | .list ds, _, p, ⟨a, xs, e, h, r⟩ => by cases e; exact .lst (.inl (.inl h)) (DvA.dp ds xs p r)
  | .tuple ds, _, p, ⟨a, xs, e, h, r⟩ => by cases e; exact .tup h (DvA.dp ds xs p r)
  | .dict _, _, p, h => by cases p
theorem DvA.dp {K : PySem.W.Frag} {T : Hp} : ∀ (ds : List PyData) (vs : List V), plainAll ds = true → DvA K T ds vs → DpAll K T vs ds
  | [], _, _, h => by cases h; exact .nil
  | d :: ds, _, p, ⟨v, vs, e, h, r⟩ => by
    cases e
    have p' : (plainD d && plainAll ds) = true := p
    rw [Bool.and_eq_true] at p'
    exact .cons (Dv.dp d v p'.1 h) (DvA.dp ds vs p'.2 r)
end
mutual
theorem Da.dv {K : PySem.W.Frag} {T : Hp} : ∀ (d : PyData) (v : V), Da T d v → Dv K T d v
  | .none, _, h => h
  | .bool b, _, h => h
  | .int i, _, h => h
  | .str x, _, h => h
  | .list ds, _, ⟨a, xs, e, h, r⟩ => ⟨a, xs, e, h, DaA.dv ds xs r⟩
  | .tuple ds, _, ⟨a, xs, e, h, r⟩ => ⟨a, xs, e, .inl (.inl h), DaA.dv ds xs r⟩
  | .dict _, _, h => h.elim
theorem DaA.dv {K : PySem.W.Frag} {T : Hp} : ∀ (ds : List PyData) (vs : List V), DaA T ds vs → DvA K T ds vs
  | [], _, h => h
  | d :: ds, _, ⟨v, vs, e, h, r⟩ => ⟨v, vs, e, Da.dv d v h, DaA.dv ds vs r⟩
end
section
variable {K : PySem.W.Frag} {T T' H : Hp}
theorem DvA.len : ∀ {ds : List PyData} {vs : List V}, DvA K T ds vs → vs.length = ds.length
  | [], _, h => by cases h; rfl
  | d :: ds, _, ⟨v, vs, e, _, r⟩ => by cases e; rw [List.length_cons, List.length_cons, DvA.len r]
theorem DvA.get : ∀ {ds : List PyData} {vs : List V} {i : Nat} {x : V}, DvA K T ds vs → vs[i]? = some x → ∃ d, ds[i]? = some d ∧ Dv K T d x
  | [], _, i, x, h, e => by cases h; cases e
  | d :: ds, _, 0, x, ⟨v, vs, q, h, _⟩, e => by cases q; cases e; exact ⟨d, rfl, h⟩
  | d :: ds, _, i + 1, x, ⟨v, vs, q, _, r⟩, e => by cases q; exact DvA.get (i := i) r e
theorem DvA.at : ∀ {ds : List PyData} {vs : List V} {i : Nat} {d : PyData}, DvA K T ds vs → ds[i]? = some d → ∃ x, vs[i]? = some x ∧ Dv K T d x
  | [], _, i, d, h, e => by cases e
  | d :: ds, _, 0, x, ⟨v, vs, q, h, _⟩, e => by cases q; cases e; exact ⟨v, rfl, h⟩
  | d :: ds, _, i + 1, x, ⟨v, vs, q, _, r⟩, e => by cases q; exact DvA.at (i := i) r e
theorem DvA.app : ∀ {ds es : List PyData} {vs us : List V}, DvA K T ds vs → DvA K T es us → DvA K T (ds ++ es) (vs ++ us)
  | [], es, _, us, h, g => by cases h; exact g
  | d :: ds, es, _, us, ⟨v, vs, q, h, r⟩, g => by cases q; exact ⟨v, vs ++ us, rfl, h, DvA.app r g⟩
theorem DvA.one {d : PyData} {v : V} (h : Dv K T d v) : DvA K T [d] [v] := ⟨v, [], rfl, h, rfl⟩
theorem DvA.snoc {ds : List PyData} {vs : List V} {d : PyData} {v : V} (h : DvA K T ds vs) (g : Dv K T d v) : DvA K T (ds ++ [d]) (vs ++ [v]) := h.app (DvA.one g)
theorem DvA.take : ∀ {ds : List PyData} {vs : List V} (k : Nat), DvA K T ds vs → DvA K T (ds.take k) (vs.take k)
  | ds, vs, 0, h => by rw [List.take_zero, List.take_zero]; rfl
  | [], _, k + 1, h => by cases h; rfl
  | d :: ds, _, k + 1, ⟨v, vs, q, h, r⟩ => by cases q; exact ⟨v, vs.take k, rfl, h, DvA.take k r⟩
theorem DvA.drop : ∀ {ds : List PyData} {vs : List V} (k : Nat), DvA K T ds vs → DvA K T (ds.drop k) (vs.drop k)
  | ds, vs, 0, h => h
  | [], _, k + 1, h => by cases h; rfl
  | d :: ds, _, k + 1, ⟨v, vs, q, h, r⟩ => by cases q; exact DvA.drop k r
theorem DvA.rev : ∀ {ds : List PyData} {vs : List V}, DvA K T ds vs → DvA K T ds.reverse vs.reverse
  | [], _, h => by cases h; rfl
  | d :: ds, _, ⟨v, vs, q, h, r⟩ => by
    cases q
    rw [List.reverse_cons, List.reverse_cons]
    exact (DvA.rev r).snoc h
theorem DvA.dropLast {ds : List PyData} {vs : List V} (h : DvA K T ds vs) : DvA K T ds.dropLast vs.dropLast := by
  rw [List.dropLast_eq_take, List.dropLast_eq_take, h.len]
  exact h.take _
theorem DvA.set : ∀ {ds : List PyData} {vs : List V} {d : PyData} {v : V} (k : Nat), DvA K T ds vs → Dv K T d v → DvA K T (ds.set k d) (vs.set k v)
  | [], _, d, v, k, h, g => by cases h; rfl
  | d :: ds, _, e, u, 0, ⟨v, vs, q, h, r⟩, g => by cases q; exact ⟨u, vs, rfl, g, r⟩
  | d :: ds, _, e, u, k + 1, ⟨v, vs, q, h, r⟩, g => by cases q; exact ⟨v, vs.set k u, rfl, h, DvA.set k r g⟩
theorem DvA.rep {ds : List PyData} {vs : List V} (h : DvA K T ds vs) : ∀ m, DvA K T (List.replicate m ds).flatten (List.replicate m vs).flatten
  | 0 => rfl
  | m + 1 => by
    rw [List.replicate_succ, List.replicate_succ, List.flatten_cons, List.flatten_cons]
    exact h.app (DvA.rep h m)
theorem DvA.ints : ∀ (ns : List Int), DvA K T (ns.map PyData.int) (ns.map V.int)
  | [] => rfl
  | n :: r => ⟨.int n, r.map V.int, rfl, rfl, DvA.ints r⟩
theorem DvA.of_ints : ∀ {ns : List Int} {vs : List V}, DvA K T (ns.map PyData.int) vs → vs = ns.map V.int
  | [], _, h => h
  | n :: r, _, ⟨v, vs, q, h, g⟩ => by
    have h' : v = .int n := h
    rw [q, h', DvA.of_ints g]
    rfl
theorem Dv.dpH {d : PyData} {v : V} (h : Dv K T d v) (s : Same T H) (p : plainD d = true) : Dp K H v d := Dp.keep (Dv.dp d v p h) s
end
end Zd
end

section
set_option maxHeartbeats 1000000
/-! A second layer: what a def does told by data alone. Values that never change are data (PyData); things that change
are cells of a store, told by their number. Here: the store, how the heap bears it, steps, new things, writes. -/
namespace Zd
open PySem PySem.Spec PyProof.Rows L2 Zc
/-- what is known of a value -/
inductive AD where
  | un
  | dat (d : PyData)
  | loc (k : Nat)
  | val (v : V)
/-- a cell of the store -/
inductive CD where
  | gone
  | held
  | lst (ds : List PyData)
  | lsa (as : List AD)
  | ins (C : Addr) (fs : List (Str × AD))
  | deal (l : Nat)
  | dcK (kvs : List (Key × AD))
  | dcT (kvs : List (List Key × AD))
  | tab (P : Addr) (q : Str)
/-- an expression's result: a known value, or a new thing that no name holds yet -/
inductive RD where
  | ad (a : AD)
  | new (c : CD)
abbrev RD.d (d : PyData) : RD := .ad (.dat d)
abbrev RD.i (i : Int) : RD := .ad (.dat (.int i))
abbrev RD.b (b : Bool) : RD := .ad (.dat (.bool b))
abbrev RD.l (ds : List PyData) : RD := .new (.lst ds)
/-- names' values and the store -/
structure SS where
  s : List AD
  m : List CD

section
variable (K : PySem.W.Frag) (T : Hp) (ρ : List Addr)
def AR : AD → V → Prop
  | .un, _ => True
  | .dat d, v => Dv K T d v
  | .loc k, v => ∃ a, ρ[k]? = some a ∧ v = .ref a
  | .val u, v => v = u
def ARs : List AD → List V → Prop
  | [], vs => vs = []
  | a :: as, vs => ∃ v us, vs = v :: us ∧ AR K T ρ a v ∧ ARs as us
def FRs : List (Str × AD) → List (Str × V) → Prop
  | [], vs => vs = []
  | a :: as, vs => ∃ v us, vs = (a.1, v) :: us ∧ AR K T ρ a.2 v ∧ FRs as us
def KRs : List (Key × AD) → List (Key × V) → Prop
  | [], vs => vs = []
  | a :: as, vs => ∃ v us, vs = (a.1, v) :: us ∧ AR K T ρ a.2 v ∧ KRs as us
def TRs : List (List Key × AD) → List (List Key × V) → Prop
  | [], vs => vs = []
  | a :: as, vs => ∃ v us, vs = (a.1, v) :: us ∧ AR K T ρ a.2 v ∧ TRs as us
def CellR (H : Hp) (a : Addr) : CD → Prop
  | .gone => True
  | .held => True
  | .lst ds => ∃ vs, H a = some (.lst vs) ∧ DvA K T ds vs
  | .lsa as => ∃ vs, H a = some (.lst vs) ∧ ARs K T ρ as vs
  | .ins C fs => ∃ dx fv, H a = some (.ins C dx fv) ∧ FRs K T ρ fs fv
  | .deal l => ∃ b, ρ[l]? = some b ∧ Deal H a b
  | .dcK kvs => ∃ ks, H a = some (.dK ks) ∧ KRs K T ρ kvs ks
  | .dcT kvs => ∃ ks, H a = some (.dT ks) ∧ TRs K T ρ kvs ks
  | .tab P q => a = P ∧ LamX.TabS H a q
/-- slots -/
def SR : AD → Option V → Prop
  | .un, _ => True
  | a, o => ∃ v, o = some v ∧ AR K T ρ a v
def SRs : List AD → L2.St → Prop
  | [], vs => vs = []
  | a :: as, vs => ∃ o us, vs = o :: us ∧ SR K T ρ a o ∧ SRs as us
end
def isGone : CD → Bool
  | .gone => true
  | _ => false
/-- the heap bears the store -/
structure Wm (K : PySem.W.Frag) (TB : List Addr) (m : List CD) (H : Hp) (ρ : List Addr) (T : Hp) : Prop where
  len : ρ.length = m.length
  nd : ρ.Nodup
  ce : ∀ (k : Nat) (c : CD) (a : Addr), m[k]? = some c → ρ[k]? = some a → CellR K T ρ H a c
  lv : ∀ a ∈ ρ, H a ≠ none
  tn : ∀ (k : Nat) (c : CD) (a : Addr), m[k]? = some c → isGone c = false → ρ[k]? = some a → T a = none
  dl : ∀ (k l : Nat), m[k]? = some (.deal l) → m[l]? = some .held
  sT : Same T H
  tb : ∀ P ∈ TB, H P = some (tabX P) ∧ P ∉ ρ
structure Wd (K : PySem.W.Frag) (TB : List Addr) (S : SS) (σ : L2.St) (H : Hp) (ρ : List Addr) (T : Hp) : Prop where
  sl : SRs K T ρ S.s σ
  wm : Wm K TB S.m H ρ T
/-- what may happen on the way -/
structure Stp (ρ : List Addr) (T H : Hp) (ρ' : List Addr) (T' H' : Hp) : Prop where
  pre : ∃ more, ρ' = ρ ++ more ∧ ∀ a ∈ more, H a = none
  tt : Same T T'
  nw : ∀ b, T' b ≠ none → T b ≠ none ∨ H b = none ∨ b ∈ ρ
  hh : ∀ b o, b ∉ ρ → H b = some o → H' b = some o
  cd : ∀ b c q, H b = some (LamX.CodeO c q) → H' b = some (LamX.CodeO c q)
section
variable {K : PySem.W.Frag} {TB : List Addr} {T T' H H' T1 H1 T2 H2 : Hp} {ρ ρ' ρ1 ρ2 : List Addr} {S S' : SS} {m : List CD} {σ : L2.St} {p a b : Addr} {v : V} {x : AD} {c : CD}
theorem Stp.refl : Stp ρ T H ρ T H := ⟨⟨[], by rw [List.append_nil], fun _ h => absurd h List.not_mem_nil⟩, .refl T, fun _ h => .inl h, fun _ _ _ h => h, fun _ _ _ h => h⟩
theorem Stp.ne (s : Stp ρ T H ρ' T' H') (lv : ∀ a ∈ ρ', H' a ≠ none) (h : H' p = none) : H p = none := by
  cases q : H p with
  | none => rfl
  | some o =>
    obtain ⟨more, e, _⟩ := s.pre
    by_cases hp : p ∈ ρ
    · exact absurd h (lv p (by rw [e]; exact List.mem_append_left _ hp))
    · rw [s.hh p o hp q] at h
      cases h
theorem Stp.trans (s : Stp ρ T H ρ1 T1 H1) (t : Stp ρ1 T1 H1 ρ2 T2 H2) (lv : ∀ a ∈ ρ1, H1 a ≠ none) : Stp ρ T H ρ2 T2 H2 := by
  obtain ⟨m1, e1, f1⟩ := s.pre
  obtain ⟨m2, e2, f2⟩ := t.pre
  have back : ∀ {b}, H1 b = none → H b = none := fun h => s.ne lv h
  refine ⟨⟨m1 ++ m2, by rw [e2, e1, List.append_assoc], fun a ha => (List.mem_append.mp ha).elim (f1 a) fun z => back (f2 a z)⟩, s.tt.trans t.tt, fun b hb => ?_, fun b o hb h => ?_, fun b c q h => t.cd b c q (s.cd b c q h)⟩
  · rcases t.nw b hb with z | z | z
    · exact s.nw b z
    · exact .inr (.inl (back z))
    · rw [e1] at z
      rcases List.mem_append.mp z with z | z
      · exact .inr (.inr z)
      · exact .inr (.inl (f1 b z))
  · refine t.hh b o (fun z => ?_) (s.hh b o hb h)
    rw [e1] at z
    rcases List.mem_append.mp z with z | z
    · exact hb z
    · rw [f1 b z] at h
      cases h
theorem Stp.at (s : Stp ρ T H ρ' T' H') {k : Nat} (h : ρ[k]? = some a) : ρ'[k]? = some a := by
  obtain ⟨more, e, _⟩ := s.pre
  rw [e, List.getElem?_append_left (List.getElem?_eq_some_iff.mp h).1]
  exact h
theorem AR.go (h : AR K T ρ x v) (tt : Same T T') (hρ : ∀ (k : Nat) (a : Addr), ρ[k]? = some a → ρ'[k]? = some a) : AR K T' ρ' x v := by
  cases x with
  | un => trivial
  | dat d => exact Dv.keep tt _ _ h
  | loc k =>
    obtain ⟨a, e, r⟩ := h
    exact ⟨a, hρ _ _ e, r⟩
  | val u => exact h
theorem ARs.go (tt : Same T T') (hρ : ∀ (k : Nat) (a : Addr), ρ[k]? = some a → ρ'[k]? = some a) : ∀ {as : List AD} {vs : List V}, ARs K T ρ as vs → ARs K T' ρ' as vs
  | [], _, h => h
  | a :: as, _, ⟨v, us, e, h, r⟩ => ⟨v, us, e, h.go tt hρ, ARs.go tt hρ r⟩
theorem FRs.go (tt : Same T T') (hρ : ∀ (k : Nat) (a : Addr), ρ[k]? = some a → ρ'[k]? = some a) : ∀ {as : List (Str × AD)} {vs : List (Str × V)}, FRs K T ρ as vs → FRs K T' ρ' as vs
  | [], _, h => h
  | a :: as, _, ⟨v, us, e, h, r⟩ => ⟨v, us, e, h.go tt hρ, FRs.go tt hρ r⟩
theorem KRs.go (tt : Same T T') (hρ : ∀ (k : Nat) (a : Addr), ρ[k]? = some a → ρ'[k]? = some a) : ∀ {as : List (Key × AD)} {vs : List (Key × V)}, KRs K T ρ as vs → KRs K T' ρ' as vs
  | [], _, h => h
  | a :: as, _, ⟨v, us, e, h, r⟩ => ⟨v, us, e, h.go tt hρ, KRs.go tt hρ r⟩
theorem TRs.go (tt : Same T T') (hρ : ∀ (k : Nat) (a : Addr), ρ[k]? = some a → ρ'[k]? = some a) : ∀ {as : List (List Key × AD)} {vs : List (List Key × V)}, TRs K T ρ as vs → TRs K T' ρ' as vs
  | [], _, h => h
  | a :: as, _, ⟨v, us, e, h, r⟩ => ⟨v, us, e, h.go tt hρ, TRs.go tt hρ r⟩
theorem SR.go {o : Option V} (h : SR K T ρ x o) (tt : Same T T') (hρ : ∀ (k : Nat) (a : Addr), ρ[k]? = some a → ρ'[k]? = some a) : SR K T' ρ' x o := by
  cases x with
  | un => trivial
  | dat d => obtain ⟨v, e, h⟩ := h; exact ⟨v, e, AR.go (x := .dat d) h tt hρ⟩
  | loc k => obtain ⟨v, e, h⟩ := h; exact ⟨v, e, AR.go (x := .loc k) h tt hρ⟩
  | val u => obtain ⟨v, e, h⟩ := h; exact ⟨v, e, AR.go (x := .val u) (ρ' := ρ') h tt hρ⟩
theorem SRs.go (tt : Same T T') (hρ : ∀ (k : Nat) (a : Addr), ρ[k]? = some a → ρ'[k]? = some a) : ∀ {as : List AD} {σ : L2.St}, SRs K T ρ as σ → SRs K T' ρ' as σ
  | [], _, h => h
  | a :: as, _, ⟨v, us, e, h, r⟩ => ⟨v, us, e, h.go tt hρ, SRs.go tt hρ r⟩
/-- a cell's content in another heap that has the same at its place -/
theorem CellR.go (h : CellR K T ρ H a c) (tt : Same T T') (hρ : ∀ (k : Nat) (b : Addr), ρ[k]? = some b → ρ'[k]? = some b) (ha : ∀ o, H a = some o → H' a = some o)
    (hd : ∀ l b, c = .deal l → ρ[l]? = some b → ∀ o, H b = some o → H' b = some o) (hcd : ∀ b c q, H b = some (LamX.CodeO c q) → H' b = some (LamX.CodeO c q)) : CellR K T' ρ' H' a c := by
  cases c with
  | gone => trivial
  | held => trivial
  | lst ds => obtain ⟨vs, e, r⟩ := h; exact ⟨vs, ha _ e, DvA.keep tt _ _ r⟩
  | lsa as => obtain ⟨vs, e, r⟩ := h; exact ⟨vs, ha _ e, r.go tt hρ⟩
  | ins C fs => obtain ⟨dx, fv, e, r⟩ := h; exact ⟨dx, fv, ha _ e, r.go tt hρ⟩
  | deal l =>
    obtain ⟨b, e, xs, i, n, h1, h2, r⟩ := h
    exact ⟨b, hρ _ _ e, xs, i, n, ha _ h1, hd l b rfl e _ h2, r⟩
  | dcK kvs => obtain ⟨ks, e, r⟩ := h; exact ⟨ks, ha _ e, r.go tt hρ⟩
  | dcT kvs => obtain ⟨ks, e, r⟩ := h; exact ⟨ks, ha _ e, r.go tt hρ⟩
  | tab P q =>
    obtain ⟨eP, ps, e, h1, h2⟩ := h
    exact ⟨eP, ps, ha _ e, h1, fun pos cv hc => by obtain ⟨c, e1, e2⟩ := h2 pos cv hc; exact ⟨c, e1, hcd _ _ _ e2⟩⟩
/-- a cell whose content is known is no code object -/
theorem CellR.nc (h : CellR K T ρ H a c) (g : isGone c = false) (nh : c ≠ .held) : ∀ b q, H a ≠ some (LamX.CodeO b q) := fun b q z => by
  unfold LamX.CodeO at z
  cases c with
  | gone => cases g
  | held => exact nh rfl
  | lst ds => obtain ⟨vs, e, r⟩ := h; rw [e] at z; cases z
  | lsa as => obtain ⟨vs, e, r⟩ := h; rw [e] at z; cases z
  | ins C fs => obtain ⟨dx, fv, e, r⟩ := h; rw [e] at z; cases z
  | deal l => obtain ⟨b, e, xs, i, n, h1, h2, r⟩ := h; rw [h1] at z; cases z
  | dcK kvs => obtain ⟨ks, e, r⟩ := h; rw [e] at z; cases z
  | dcT kvs => obtain ⟨ks, e, r⟩ := h; rw [e] at z; cases z
  | tab P q => obtain ⟨_, ps, e, _⟩ := h; rw [e] at z; cases z
theorem nd_ne {l : List Addr} (h : l.Nodup) {i j : Nat} {a b : Addr} (ha : l[i]? = some a) (hb : l[j]? = some b) (n : i ≠ j) : a ≠ b := fun e => by
  subst e
  obtain ⟨hi, e1⟩ := List.getElem?_eq_some_iff.mp ha
  obtain ⟨hj, e2⟩ := List.getElem?_eq_some_iff.mp hb
  exact n ((List.getElem_inj h).mp (e1.trans e2.symm))
theorem Wm.cell (w : Wm K TB m H ρ T) {k : Nat} {c : CD} (h : m[k]? = some c) : ∃ a, ρ[k]? = some a ∧ CellR K T ρ H a c := by
  have hk : k < ρ.length := by rw [w.len]; exact (List.getElem?_eq_some_iff.mp h).1
  exact ⟨ρ[k], List.getElem?_eq_getElem hk, w.ce _ _ _ h (List.getElem?_eq_getElem hk)⟩
theorem Wm.out (w : Wm K TB m H ρ T) (h : H p = none) : p ∉ ρ := fun z => w.lv p z h
/-- a new thing in the heap; it may stand -/
theorem Wm.laid (w : Wm K TB m H ρ T) (np : H p = none) (o : HO) (hT : Same T T') (hT' : Same T' (upd H p o)) (hn : ∀ b, b ≠ p → T' b ≠ none → T b ≠ none) : Wm K TB m (upd H p o) ρ T' where
  len := w.len
  nd := w.nd
  ce := fun k c a h e => (w.ce k c a h e).go hT (fun _ _ z => z) (fun o z => by rw [upd_ne (ne_of_none z np)]; exact z) (fun l b _ _ o z => by rw [upd_ne (ne_of_none z np)]; exact z) fun b c q z => by rw [upd_ne (ne_of_none z np)]; exact z
  lv := fun a ha z => by
    have ne : a ≠ p := fun q => w.out np (q ▸ ha)
    rw [upd_ne ne] at z
    exact w.lv a ha z
  tn := fun k c a h g e => by
    cases q : T' a with
    | none => rfl
    | some u =>
      have := hn a (fun z => w.out np (z ▸ List.mem_of_getElem? e)) (by rw [q]; intro z; cases z)
      exact absurd (w.tn k c a h g e) this
  dl := w.dl
  sT := hT'
  tb := fun P hP => ⟨by rw [upd_ne (ne_of_none (w.tb P hP).1 np)]; exact (w.tb P hP).1, (w.tb P hP).2⟩
theorem Stp.laid (w : Wm K TB m H ρ T) (np : H p = none) (o : HO) (hT : Same T T') (hn : ∀ b, b ≠ p → T' b ≠ none → T b ≠ none) : Stp ρ T H ρ T' (upd H p o) where
  pre := ⟨[], by rw [List.append_nil], fun _ h => absurd h List.not_mem_nil⟩
  tt := hT
  nw := fun b hb => by
    by_cases e : b = p
    · exact .inr (.inl (e ▸ np))
    · exact .inl (hn b e hb)
  hh := fun b u _ h => by rw [upd_ne (ne_of_none h np)]; exact h
  cd := fun b c q h => by rw [upd_ne (ne_of_none h np)]; exact h
theorem same_upd2 {o : HO} (s : Same T H) (n : H p = none) : Same (upd T p o) (upd H p o) := fun b u e => by
  by_cases q : b = p
  · subst q
    rw [upd_same] at e ⊢
    exact e
  · rw [upd_ne q] at e ⊢
    exact s _ _ e
theorem upd_none {o : HO} : ∀ b, b ≠ p → upd T p o b ≠ none → T b ≠ none := fun b e h => by rw [upd_ne e] at h; exact h
/-- it stands from now on -/
theorem Wm.put (w : Wm K TB m H ρ T) (np : H p = none) (o : HO) : Wm K TB m (upd H p o) ρ (upd T p o) ∧ Stp ρ T H ρ (upd T p o) (upd H p o) :=
  have s := same_new (o := o) (w.sT.free np)
  ⟨w.laid np o s (same_upd2 w.sT np) upd_none, .laid w np o s upd_none⟩
/-- it stands by itself -/
theorem Wm.by (w : Wm K TB m H ρ T) (np : H p = none) (o : HO) : Wm K TB m (upd H p o) ρ T ∧ Stp ρ T H ρ T (upd H p o) :=
  ⟨w.laid np o (.refl T) (w.sT.trans (same_new np)) fun _ _ h => h, .laid w np o (.refl T) fun _ _ h => h⟩
theorem Wd.put (w : Wd K TB S σ H ρ T) (np : H p = none) (o : HO) : Wd K TB S σ (upd H p o) ρ (upd T p o) ∧ Stp ρ T H ρ (upd T p o) (upd H p o) :=
  ⟨⟨w.sl.go (same_new (w.wm.sT.free np)) fun _ _ z => z, (w.wm.put np o).1⟩, (w.wm.put np o).2⟩
theorem Wd.by (w : Wd K TB S σ H ρ T) (np : H p = none) (o : HO) : Wd K TB S σ (upd H p o) ρ T ∧ Stp ρ T H ρ T (upd H p o) :=
  ⟨⟨w.sl, (w.wm.by np o).1⟩, (w.wm.by np o).2⟩
/-- a thing of the heap that stands by itself becomes a cell -/
theorem Wm.alloc (w : Wm K TB m H ρ T) (hp : H p ≠ none) (out : p ∉ ρ) (tp : T p = none) (htb : p ∉ TB) (hc : CellR K T (ρ ++ [p]) H p c) (hd : ∀ l, c ≠ .deal l) : Wm K TB (m ++ [c]) H (ρ ++ [p]) T where
  len := by rw [List.length_append, List.length_append, w.len]; rfl
  nd := by
    rw [List.nodup_append]
    refine ⟨w.nd, List.nodup_cons.mpr ⟨List.not_mem_nil, .nil⟩, fun a ha b hb e => ?_⟩
    rw [List.mem_singleton.mp hb] at e
    exact out (e ▸ ha)
  ce := fun k c' a h e => by
    have up : ∀ (k : Nat) (b : Addr), ρ[k]? = some b → (ρ ++ [p])[k]? = some b := fun k b z => by rw [List.getElem?_append_left (List.getElem?_eq_some_iff.mp z).1]; exact z
    by_cases q : k < m.length
    · rw [List.getElem?_append_left q] at h
      rw [List.getElem?_append_left (by rw [w.len]; exact q)] at e
      exact (w.ce k c' a h e).go (.refl T) up (fun _ z => z) (fun _ _ _ _ _ z => z) fun _ _ _ z => z
    · have hk := (List.getElem?_eq_some_iff.mp h).1
      rw [List.length_append, List.length_singleton] at hk
      have ek : k = m.length := by omega
      subst ek
      rw [List.getElem?_append_right (Nat.le_refl _), Nat.sub_self] at h
      rw [← w.len, List.getElem?_append_right (Nat.le_refl _), Nat.sub_self] at e
      cases h
      cases e
      exact hc
  lv := fun a ha => by
    rcases List.mem_append.mp ha with h | h
    · exact w.lv a h
    · rw [List.mem_singleton.mp h]
      exact hp
  tn := fun k c' a h g e => by
    by_cases q : k < m.length
    · rw [List.getElem?_append_left q] at h
      rw [List.getElem?_append_left (by rw [w.len]; exact q)] at e
      exact w.tn k c' a h g e
    · have hk := (List.getElem?_eq_some_iff.mp h).1
      rw [List.length_append, List.length_singleton] at hk
      have ek : k = m.length := by omega
      subst ek
      rw [← w.len, List.getElem?_append_right (Nat.le_refl _), Nat.sub_self] at e
      cases e
      exact tp
  dl := fun k l h => by
    by_cases q : k < m.length
    · rw [List.getElem?_append_left q] at h
      have z := w.dl k l h
      rw [List.getElem?_append_left (List.getElem?_eq_some_iff.mp z).1]
      exact z
    · have hk := (List.getElem?_eq_some_iff.mp h).1
      rw [List.length_append, List.length_singleton] at hk
      have ek : k = m.length := by omega
      subst ek
      rw [List.getElem?_append_right (Nat.le_refl _), Nat.sub_self] at h
      cases h
      exact absurd rfl (hd l)
  sT := w.sT
  tb := fun P hP => ⟨(w.tb P hP).1, fun z => by
    rcases List.mem_append.mp z with h | h
    · exact (w.tb P hP).2 h
    · rw [List.mem_singleton.mp h] at hP
      exact htb hP⟩
/-- a cell is written -/
theorem Wm.write (w : Wm K TB m H ρ T) {k : Nat} {c c' : CD} {o : HO} (hk : m[k]? = some c) (g : isGone c = false) (nh : c ≠ .held) (nd' : ∀ l, c' ≠ .deal l) (ha : ρ[k]? = some a) (hc : CellR K T ρ (upd H a o) a c') : Wm K TB (m.set k c') (upd H a o) ρ T where
  len := by rw [List.length_set]; exact w.len
  nd := w.nd
  ce := fun j c2 b h e => by
    have hkl := (List.getElem?_eq_some_iff.mp hk).1
    by_cases q : k = j
    · subst q
      rw [List.getElem?_set_self hkl] at h
      rw [ha] at e
      cases h
      cases e
      exact hc
    · rw [List.getElem?_set_ne q] at h
      have ne : b ≠ a := nd_ne w.nd e ha fun z => q z.symm
      refine (w.ce j c2 b h e).go (.refl T) (fun _ _ z => z) (fun o z => by rw [upd_ne ne]; exact z) (fun l b' hl eb o z => ?_) fun b c q z => by
        have n1 : b ≠ a := fun y => (w.ce k _ a hk ha).nc g nh c q (by rw [← y]; exact z)
        rw [upd_ne n1]; exact z
      subst hl
      have hl := w.dl j l h
      have : l ≠ k := fun z => by
        subst z
        rw [hk] at hl
        exact nh (Option.some.inj hl)
      rw [upd_ne (nd_ne w.nd eb ha this)]
      exact z
  lv := fun b hb z => by
    by_cases q : b = a
    · rw [q, upd_same] at z
      cases z
    · rw [upd_ne q] at z
      exact w.lv b hb z
  tn := fun j c2 b h g2 e => by
    by_cases q : k = j
    · subst q
      rw [ha] at e
      cases e
      exact w.tn k c a hk g ha
    · rw [List.getElem?_set_ne q] at h
      exact w.tn j c2 b h g2 e
  dl := fun j l h => by
    by_cases q : k = j
    · subst q
      rw [List.getElem?_set_self (List.getElem?_eq_some_iff.mp hk).1] at h
      exact absurd (Option.some.inj h) (nd' l)
    · rw [List.getElem?_set_ne q] at h
      have hl := w.dl j l h
      have : k ≠ l := fun z => by
        subst z
        rw [hk] at hl
        exact nh (Option.some.inj hl)
      rw [List.getElem?_set_ne this]
      exact hl
  sT := same_upd w.sT (w.tn k c a hk g ha)
  tb := fun P hP => ⟨by
    have ne : P ≠ a := fun z => (w.tb P hP).2 (z ▸ List.mem_of_getElem? ha)
    rw [upd_ne ne]
    exact (w.tb P hP).1, (w.tb P hP).2⟩
theorem Stp.write {o : HO} (ha : a ∈ ρ) (nc : ∀ b q, H a ≠ some (LamX.CodeO b q)) : Stp ρ T H ρ T (upd H a o) where
  pre := ⟨[], by rw [List.append_nil], fun _ h => absurd h List.not_mem_nil⟩
  tt := .refl T
  nw := fun b h => .inl h
  hh := fun b u nb h => by
    have ne : b ≠ a := fun z => nb (z ▸ ha)
    rw [upd_ne ne]
    exact h
  cd := fun b c q z => by
    have n1 : b ≠ a := fun y => nc c q (by rw [← y]; exact z)
    rw [upd_ne n1]; exact z
end
end Zd
end

section
set_option maxHeartbeats 1000000
/-! The second layer: results, freezing, judgements. -/
namespace Zd
open PySem PySem.Spec PyProof.Rows L2 Zc
/-! ### freezing a list that is a cell -/
def sub (k : Nat) (d : PyData) : AD → AD
  | .loc j => if j = k then .dat d else .loc j
  | x => x
def subC (k : Nat) (d : PyData) : CD → CD
  | .lsa as => .lsa (as.map (sub k d))
  | .ins C fs => .ins C (fs.map fun f => (f.1, sub k d f.2))
  | .dcK kvs => .dcK (kvs.map fun f => (f.1, sub k d f.2))
  | .dcT kvs => .dcT (kvs.map fun f => (f.1, sub k d f.2))
  | c => c
def SS.frz (S : SS) (k : Nat) (ds : List PyData) : SS := ⟨S.s.map (sub k (.list ds)), (S.m.map (subC k (.list ds))).set k .gone⟩
/-- as data; a list of one's own is frozen -/
def asD : RD → SS → (PyData → SS → Prop) → Prop
  | .ad (.dat d), S, k => k d S
  | .new (.lst ds), S, k => k (.list ds) S
  | .new (.dcK []), S, k => k (.dict []) S
  | .ad (.loc j), S, k => match S.m[j]? with
    | some (.lst ds) => k (.list ds) (S.frz j ds)
    | _ => False
  | _, _, _ => False
/-- as data, for now -/
def vwD : RD → SS → (PyData → Prop) → Prop
  | .ad (.dat d), _, k => k d
  | .new (.lst ds), _, k => k (.list ds)
  | .ad (.loc j), S, k => match S.m[j]? with
    | some (.lst ds) => k (.list ds)
    | _ => False
  | _, _, _ => False
def asDs : List RD → SS → (List PyData → SS → Prop) → Prop
  | [], S, k => k [] S
  | r :: rs, S, k => asD r S fun d S1 => asDs rs S1 fun ds S2 => k (d :: ds) S2
/-- a new thing as an argument, a name's value -/
def okNew : CD → Bool
  | .lst _ => true
  | .lsa _ => true
  | .dcK _ => true
  | .dcT _ => true
  | .ins _ _ => true
  | _ => false
def RR (K : PySem.W.Frag) (T : Hp) (ρ : List Addr) (H H0 : Hp) : RD → V → Prop
  | .ad a, v => AR K T ρ a v
  | .new c, v => ∃ p, v = .ref p ∧ H0 p = none ∧ H p ≠ none ∧ p ∉ ρ ∧ T p = none ∧ CellR K T ρ H p c ∧ okNew c = true
/-- the address of a new thing -/
def nwA : RD → V → Option Addr
  | .new _, .ref p => some p
  | _, _ => none
def RRs (K : PySem.W.Frag) (T : Hp) (ρ : List Addr) (H : Hp) : Hp → List RD → List V → Prop
  | _, [], vs => vs = []
  | H0, r :: rs, vs => ∃ v us Hm, vs = v :: us ∧ RR K T ρ H H0 r v ∧ (∀ b, Hm b = none → H0 b = none) ∧ (∀ p, nwA r v = some p → Hm p ≠ none) ∧ RRs K T ρ H Hm rs us
/-- more stands: what is new, or was a cell -/
structure Fz (H0 : Hp) (ρ : List Addr) (T T' : Hp) : Prop where
  tt : Same T T'
  nw : ∀ b, T' b ≠ none → T b ≠ none ∨ b ∈ ρ ∨ H0 b = none
section
variable {K : PySem.W.Frag} {TB : List Addr} {T T' H H' H0 T0 T1 T2 H1 H2 : Hp} {ρ ρ' ρ0 ρ1 ρ2 : List Addr} {S S' : SS} {m : List CD} {σ : L2.St} {p a b : Addr} {v : V} {x : AD} {c : CD} {r : RD}
theorem Fz.refl : Fz H0 ρ T T := ⟨.refl T, fun _ h => .inl h⟩
theorem Fz.trans (f : Fz H0 ρ T T1) (g : Fz H0 ρ T1 T2) : Fz H0 ρ T T2 := ⟨f.tt.trans g.tt, fun b h => (g.nw b h).elim (f.nw b) .inr⟩
theorem Stp.fz (s : Stp ρ0 T0 H0 ρ T H) (f : Fz H0 ρ T T') : Stp ρ0 T0 H0 ρ T' H where
  pre := s.pre
  tt := s.tt.trans f.tt
  nw := fun b h => by
    rcases f.nw b h with z | z | z
    · exact s.nw b z
    · obtain ⟨more, e, q⟩ := s.pre
      rw [e] at z
      rcases List.mem_append.mp z with z | z
      · exact .inr (.inr z)
      · exact .inr (.inl (q b z))
    · exact .inr (.inl z)
  hh := s.hh
  cd := s.cd
theorem Stp.up (s : Stp ρ T H ρ' T' H') : ∀ (k : Nat) (a : Addr), ρ[k]? = some a → ρ'[k]? = some a := fun _ _ h => s.at h
theorem RR.go (h : RR K T ρ H H0 r v) (s : Stp ρ T H ρ' T' H') : RR K T' ρ' H' H0 r v := by
  cases r with
  | ad a => exact AR.go h s.tt s.up
  | new c =>
    obtain ⟨p, e, n0, n1, out, tp, hc, ok⟩ := h
    obtain ⟨o, ho⟩ : ∃ o, H p = some o := by
      cases q : H p with
      | none => exact absurd q n1
      | some o => exact ⟨o, rfl⟩
    refine ⟨p, e, n0, by rw [s.hh p o out ho]; exact fun z => (by cases z), fun z => ?_, ?_, hc.go s.tt s.up (fun o z => s.hh p o out z) (fun l b e => by subst e; cases ok) s.cd, ok⟩
    · obtain ⟨more, em, hm⟩ := s.pre
      rw [em] at z
      rcases List.mem_append.mp z with z | z
      · exact out z
      · exact n1 (hm p z)
    · cases q : T' p with
      | none => rfl
      | some u =>
        rcases s.nw p (by rw [q]; intro z; cases z) with z | z | z
        · exact absurd tp z
        · exact absurd z n1
        · exact absurd z out
theorem RRs.go (s : Stp ρ T H ρ' T' H') : ∀ {rs : List RD} {H0 : Hp} {vs : List V}, RRs K T ρ H H0 rs vs → RRs K T' ρ' H' H0 rs vs
  | [], _, _, h => h
  | r :: rs, _, _, ⟨v, us, Hm, e, h, b1, b2, q⟩ => ⟨v, us, Hm, e, h.go s, b1, b2, RRs.go s q⟩
/-- more stands, but no new thing does -/
theorem RR.fz (h : RR K T ρ H H1 r v) (tt : Same T T') (nw : ∀ b, T' b ≠ none → T b ≠ none ∨ b ∈ ρ ∨ H1 b ≠ none) : RR K T' ρ H H1 r v := by
  cases r with
  | ad a => exact AR.go h tt fun _ _ z => z
  | new c =>
    obtain ⟨p, e, n0, n1, out, tp, hc, ok⟩ := h
    refine ⟨p, e, n0, n1, out, ?_, hc.go tt (fun _ _ z => z) (fun _ z => z) (fun _ _ _ _ _ z => z) (fun _ _ _ z => z), ok⟩
    cases q : T' p with
    | none => rfl
    | some u =>
      rcases nw p (by rw [q]; intro z; cases z) with z | z | z
      · exact absurd tp z
      · exact absurd z out
      · exact absurd n0 z
theorem RRs.fz (tt : Same T T') : ∀ {rs : List RD} {H1 : Hp} {vs : List V}, (∀ b, T' b ≠ none → T b ≠ none ∨ b ∈ ρ ∨ H1 b ≠ none) → RRs K T ρ H H1 rs vs → RRs K T' ρ H H1 rs vs
  | [], _, _, _, h => h
  | r :: rs, H1, _, nw, ⟨v, us, Hm, e, h, b1, b2, q⟩ => ⟨v, us, Hm, e, h.fz tt nw, b1, b2, RRs.fz tt (fun b hb => (nw b hb).imp id fun z => z.imp id fun z y => z (b1 b y)) q⟩
theorem RRs.len : ∀ {rs : List RD} {H0 : Hp} {vs : List V}, RRs K T ρ H H0 rs vs → vs.length = rs.length
  | [], _, _, h => by
    cases (show _ = _ from h)
    rfl
  | r :: rs, _, _, ⟨v, us, Hm, e, h, b1, b2, q⟩ => by rw [e, List.length_cons, List.length_cons, RRs.len q]
theorem sub_ar (hx : AR K T ρ x v) {k : Nat} {d : PyData} {a : Addr} (e : ρ[k]? = some a) (tt : Same T T') (hd : Dv K T' d (.ref a)) : AR K T' ρ (sub k d x) v := by
  cases x with
  | loc j =>
    obtain ⟨b, eb, rfl⟩ := hx
    show AR K T' ρ (if j = k then AD.dat d else AD.loc j) (.ref b)
    by_cases q : j = k
    · subst q
      rw [e] at eb
      cases eb
      rw [if_pos rfl]
      exact hd
    · rw [if_neg q]
      exact ⟨b, eb, rfl⟩
  | un => trivial
  | dat d => exact Dv.keep tt _ _ hx
  | val u => exact hx
theorem sub_ars {k : Nat} {d : PyData} {a : Addr} (e : ρ[k]? = some a) (tt : Same T T') (hd : Dv K T' d (.ref a)) : ∀ {as : List AD} {vs : List V}, ARs K T ρ as vs → ARs K T' ρ (as.map (sub k d)) vs
  | [], _, h => h
  | a :: as, _, ⟨v, us, q, h, r⟩ => ⟨v, us, q, sub_ar h e tt hd, sub_ars e tt hd r⟩
theorem sub_frs {k : Nat} {d : PyData} {a : Addr} (e : ρ[k]? = some a) (tt : Same T T') (hd : Dv K T' d (.ref a)) : ∀ {as : List (Str × AD)} {vs : List (Str × V)}, FRs K T ρ as vs → FRs K T' ρ (as.map fun f => (f.1, sub k d f.2)) vs
  | [], _, h => h
  | a :: as, _, ⟨v, us, q, h, r⟩ => ⟨v, us, q, sub_ar h e tt hd, sub_frs e tt hd r⟩
theorem sub_krs {k : Nat} {d : PyData} {a : Addr} (e : ρ[k]? = some a) (tt : Same T T') (hd : Dv K T' d (.ref a)) : ∀ {as : List (Key × AD)} {vs : List (Key × V)}, KRs K T ρ as vs → KRs K T' ρ (as.map fun f => (f.1, sub k d f.2)) vs
  | [], _, h => h
  | a :: as, _, ⟨v, us, q, h, r⟩ => ⟨v, us, q, sub_ar h e tt hd, sub_krs e tt hd r⟩
theorem sub_trs {k : Nat} {d : PyData} {a : Addr} (e : ρ[k]? = some a) (tt : Same T T') (hd : Dv K T' d (.ref a)) : ∀ {as : List (List Key × AD)} {vs : List (List Key × V)}, TRs K T ρ as vs → TRs K T' ρ (as.map fun f => (f.1, sub k d f.2)) vs
  | [], _, h => h
  | a :: as, _, ⟨v, us, q, h, r⟩ => ⟨v, us, q, sub_ar h e tt hd, sub_trs e tt hd r⟩
theorem sub_srs {k : Nat} {d : PyData} {a : Addr} (e : ρ[k]? = some a) (tt : Same T T') (hd : Dv K T' d (.ref a)) : ∀ {as : List AD} {σ : L2.St}, SRs K T ρ as σ → SRs K T' ρ (as.map (sub k d)) σ
  | [], _, h => h
  | x :: as, _, ⟨o, us, q, h, r⟩ => by
    refine ⟨o, us, q, ?_, sub_srs e tt hd r⟩
    cases x with
    | un => trivial
    | dat d' => obtain ⟨v, z, h⟩ := h; exact ⟨v, z, sub_ar (x := .dat d') h e tt hd⟩
    | loc j =>
      obtain ⟨v, z, h⟩ := h
      have h2 := sub_ar h e tt hd
      show SR K T' ρ (if j = k then AD.dat d else AD.loc j) o
      have h3 : AR K T' ρ (if j = k then AD.dat d else AD.loc j) v := h2
      by_cases y : j = k
      · rw [if_pos y] at h3 ⊢
        exact ⟨v, z, h3⟩
      · rw [if_neg y] at h3 ⊢
        exact ⟨v, z, h3⟩
    | val u => obtain ⟨v, z, h⟩ := h; exact ⟨v, z, sub_ar (x := .val u) h e tt hd⟩
theorem isGone_subC {k : Nat} {d : PyData} : isGone (subC k d c) = isGone c := by cases c <;> rfl
/-- a list of one's own stands from now on -/
theorem Wm.frz (w : Wm K TB m H ρ T) {k : Nat} {ds : List PyData} (hk : m[k]? = some (.lst ds)) : ∃ (a : Addr) (vs : List V), ρ[k]? = some a ∧ Same T (upd T a (.lst vs)) ∧ Dv K (upd T a (.lst vs)) (.list ds) (.ref a) ∧
    Wm K TB ((m.map (subC k (.list ds))).set k .gone) H ρ (upd T a (.lst vs)) ∧ Fz H0 ρ T (upd T a (.lst vs)) := by
  obtain ⟨a, ha, vs, hv, hd⟩ := w.cell hk
  have ta : T a = none := w.tn k _ a hk rfl ha
  have tt : Same T (upd T a (.lst vs)) := same_new ta
  have dp : Dv K (upd T a (.lst vs)) (.list ds) (.ref a) := ⟨_, vs, rfl, upd_same, DvA.keep tt _ _ hd⟩
  have hkl := (List.getElem?_eq_some_iff.mp hk).1
  refine ⟨a, vs, ha, tt, dp, ⟨by rw [List.length_set, List.length_map]; exact w.len, w.nd, fun j c b h e => ?_, w.lv, fun j c b h g e => ?_, fun j l h => ?_, fun b o h => ?_, w.tb⟩, tt, fun b h => ?_⟩
  · by_cases q : k = j
    · subst q
      rw [List.getElem?_set_self (by rw [List.length_map]; exact hkl)] at h
      cases h
      trivial
    · rw [List.getElem?_set_ne q, List.getElem?_map] at h
      cases e1 : m[j]? with
      | none => rw [e1] at h; cases h
      | some c0 =>
        rw [e1] at h
        cases h
        have h0 := w.ce j c0 b e1 e
        cases c0 with
        | gone => trivial
        | held => trivial
        | lst ds => obtain ⟨vs, z, r⟩ := h0; exact ⟨vs, z, DvA.keep tt _ _ r⟩
        | lsa as => obtain ⟨vs, z, r⟩ := h0; exact ⟨vs, z, sub_ars ha tt dp r⟩
        | ins C fs => obtain ⟨dx, fv, z, r⟩ := h0; exact ⟨dx, fv, z, sub_frs ha tt dp r⟩
        | deal l => exact h0
        | dcK kvs => obtain ⟨ks, z, r⟩ := h0; exact ⟨ks, z, sub_krs ha tt dp r⟩
        | dcT kvs => obtain ⟨ks, z, r⟩ := h0; exact ⟨ks, z, sub_trs ha tt dp r⟩
        | tab P q => exact h0
  · by_cases q : k = j
    · subst q
      rw [List.getElem?_set_self (by rw [List.length_map]; exact hkl)] at h
      cases h
      cases g
    · rw [List.getElem?_set_ne q, List.getElem?_map] at h
      cases e1 : m[j]? with
      | none => rw [e1] at h; cases h
      | some c0 =>
        rw [e1] at h
        cases h
        rw [isGone_subC] at g
        rw [upd_ne (nd_ne w.nd e ha fun z => q z.symm)]
        exact w.tn j c0 b e1 g e
  · by_cases q : k = j
    · subst q
      rw [List.getElem?_set_self (by rw [List.length_map]; exact hkl)] at h
      cases h
    · rw [List.getElem?_set_ne q, List.getElem?_map] at h
      cases e1 : m[j]? with
      | none => rw [e1] at h; cases h
      | some c0 =>
        rw [e1] at h
        have h' : subC k (.list ds) c0 = .deal l := Option.some.inj h
        have e0 : c0 = .deal l := by
          cases c0 <;> first | exact h' | cases h'
        subst e0
        have hl := w.dl j l e1
        have nl : k ≠ l := fun z => by
          subst z
          rw [hk] at hl
          cases hl
        rw [List.getElem?_set_ne nl, List.getElem?_map, hl]
        rfl
  · by_cases q : b = a
    · subst q
      rw [upd_same] at h
      cases h
      exact hv
    · rw [upd_ne q] at h
      exact w.sT _ _ h
  · by_cases q : b = a
    · exact .inr (.inl (q ▸ List.mem_of_getElem? ha))
    · rw [upd_ne q] at h
      exact .inl h
/-- a new thing stands from now on -/
theorem Wm.frzO (w : Wm K TB m H ρ T) {o : HO} (hp : H p = some o) (n0 : H0 p = none) (out : p ∉ ρ) (tp : T p = none) :
    Same T (upd T p o) ∧ Wm K TB m H ρ (upd T p o) ∧ Fz H0 ρ T (upd T p o) := by
  have tt : Same T (upd T p o) := same_new tp
  refine ⟨tt, ⟨w.len, w.nd, fun j c b h e => (w.ce j c b h e).go tt (fun _ _ z => z) (fun _ z => z) (fun _ _ _ _ _ z => z) fun _ _ _ z => z, w.lv, fun j c b h g e => ?_, w.dl, fun b o h => ?_, w.tb⟩, tt, fun b h => ?_⟩
  · have ne : b ≠ p := fun z => out (z ▸ List.mem_of_getElem? e)
    rw [upd_ne ne]
    exact w.tn j c b h g e
  · by_cases q : b = p
    · subst q
      rw [upd_same] at h
      cases h
      exact hp
    · rw [upd_ne q] at h
      exact w.sT _ _ h
  · by_cases q : b = p
    · exact .inr (.inr (q ▸ n0))
    · rw [upd_ne q] at h
      exact .inl h
/-- a new list stands from now on -/
theorem Wm.frzN (w : Wm K TB m H ρ T) {vs : List V} {ds : List PyData} (hp : H p = some (.lst vs)) (n0 : H0 p = none) (out : p ∉ ρ) (tp : T p = none) (hd : DvA K T ds vs) :
    Same T (upd T p (.lst vs)) ∧ Dv K (upd T p (.lst vs)) (.list ds) (.ref p) ∧ Wm K TB m H ρ (upd T p (.lst vs)) ∧ Fz H0 ρ T (upd T p (.lst vs)) := by
  have tt : Same T (upd T p (.lst vs)) := same_new tp
  refine ⟨tt, ⟨_, vs, rfl, upd_same, DvA.keep tt _ _ hd⟩, ⟨w.len, w.nd, fun j c b h e => (w.ce j c b h e).go tt (fun _ _ z => z) (fun _ z => z) (fun _ _ _ _ _ z => z) fun _ _ _ z => z, w.lv, fun j c b h g e => ?_, w.dl, fun b o h => ?_, w.tb⟩, tt, fun b h => ?_⟩
  · have ne : b ≠ p := fun z => out (z ▸ List.mem_of_getElem? e)
    rw [upd_ne ne]
    exact w.tn j c b h g e
  · by_cases q : b = p
    · subst q
      rw [upd_same] at h
      cases h
      exact hp
    · rw [upd_ne q] at h
      exact w.sT _ _ h
  · by_cases q : b = p
    · exact .inr (.inr (q ▸ n0))
    · rw [upd_ne q] at h
      exact .inl h
theorem asD_run (w : Wd K TB S σ H ρ T) (hr : RR K T ρ H H0 r v) {k : PyData → SS → Prop} (h : asD r S k) : ∃ d S' T', Wd K TB S' σ H ρ T' ∧ Fz H0 ρ T T' ∧ Dv K T' d v ∧ k d S' ∧
    ∀ b, T' b ≠ none → T b ≠ none ∨ b ∈ ρ ∨ nwA r v = some b := by
  cases r with
  | ad x =>
    cases x with
    | un => exact h.elim
    | val u => exact h.elim
    | dat d => exact ⟨d, S, T, w, .refl, hr, h, fun b z => .inl z⟩
    | loc j =>
      have h' : (match S.m[j]? with
        | some (.lst ds) => k (.list ds) (S.frz j ds)
        | _ => False) := h
      split at h'
      · rename_i ds hj
        obtain ⟨a, vs, ea, tt, dp, wm, fz⟩ := w.wm.frz (H0 := H0) hj
        obtain ⟨a', ea', rfl⟩ := hr
        rw [ea] at ea'
        cases ea'
        refine ⟨_, _, _, ⟨sub_srs ea tt dp w.sl, wm⟩, fz, dp, h', fun b z => ?_⟩
        by_cases q : b = a
        · exact .inr (.inl (q ▸ List.mem_of_getElem? ea))
        · rw [upd_ne q] at z
          exact .inl z
      · exact h'.elim
  | new c =>
    cases c with
    | lst ds =>
      obtain ⟨p, rfl, n0, n1, out, tp, ⟨vs, hp, hd⟩, ok⟩ := hr
      obtain ⟨tt, dp, wm, fz⟩ := w.wm.frzN (H0 := H0) hp n0 out tp hd
      refine ⟨_, S, _, ⟨w.sl.go tt fun _ _ z => z, wm⟩, fz, dp, h, fun b z => ?_⟩
      by_cases q : b = p
      · exact .inr (.inr (by rw [q]; rfl))
      · rw [upd_ne q] at z
        exact .inl z
    | dcK kvs =>
      cases kvs with
      | cons _ _ => exact h.elim
      | nil =>
        obtain ⟨p, rfl, n0, n1, out, tp, ⟨ks, hp, hd⟩, ok⟩ := hr
        cases (show ks = _ from hd)
        obtain ⟨tt, wm, fz⟩ := w.wm.frzO (H0 := H0) hp n0 out tp
        refine ⟨.dict [], S, _, ⟨w.sl.go tt fun _ _ z => z, wm⟩, fz, ⟨p, rfl, upd_same⟩, h, fun b z => ?_⟩
        by_cases q : b = p
        · exact .inr (.inr (by rw [q]; rfl))
        · rw [upd_ne q] at z
          exact .inl z
    | _ => exact h.elim
theorem asDs_run : ∀ {rs : List RD} {H0 T : Hp} {S : SS} {vs : List V} {k : List PyData → SS → Prop}, Wd K TB S σ H ρ T → RRs K T ρ H H0 rs vs → asDs rs S k → ∃ ds S' T', Wd K TB S' σ H ρ T' ∧ Fz H0 ρ T T' ∧ DvA K T' ds vs ∧ k ds S'
  | [], H0, T, S, _, k, w, rfl, h => ⟨[], S, T, w, .refl, rfl, h⟩
  | r :: rs, H0, T, S, _, k, w, ⟨v, us, Hm, e, hr, b1, b2, q⟩, h => by
    subst e
    obtain ⟨d, S1, T1, w1, f1, d1, h1, nw⟩ := asD_run w hr (h : asD r S _)
    have q1 : RRs K T1 ρ H Hm rs us := RRs.fz f1.tt (fun b z => (nw b z).imp id fun z => z.imp id fun z => b2 b z) q
    obtain ⟨ds, S2, T2, w2, f2, d2, h2⟩ := asDs_run w1 q1 h1
    exact ⟨d :: ds, S2, T2, w2, f1.trans ⟨f2.tt, fun b z => (f2.nw b z).imp id fun z => z.imp id (b1 b)⟩, ⟨v, us, rfl, Dv.keep f2.tt _ _ d1, d2⟩, h2⟩
/-- the view -/
def Vw (K : PySem.W.Frag) (T H : Hp) (v : V) (d : PyData) : Prop := Dv K T d v ∨ ∃ a vs ds, v = .ref a ∧ d = .list ds ∧ H a = some (.lst vs) ∧ DvA K T ds vs
theorem Vw.dp {d : PyData} (h : Vw K T H v d) (s : Same T H) (pl : plainD d = true) : Dp K H v d := by
  rcases h with h | ⟨a, vs, ds, rfl, rfl, e, q⟩
  · exact h.dpH s pl
  · exact .lst (.inl (.inl e)) (DpAll.keep (DvA.dp _ _ pl q) s)
theorem Vw.lst {ds : List PyData} (h : Vw K T H v (.list ds)) (s : Same T H) : ∃ a vs, v = .ref a ∧ H a = some (.lst vs) ∧ DvA K T ds vs := by
  rcases h with h | ⟨a, vs, ds', rfl, e, e2, q⟩
  · obtain ⟨a, vs, rfl, e, q⟩ := h
    exact ⟨a, vs, rfl, s _ _ e, q⟩
  · cases e
    exact ⟨a, vs, rfl, e2, q⟩
theorem Vw.tup {ds : List PyData} (h : Vw K T H v (.tuple ds)) (s : Same T H) : ∃ a vs, v = .ref a ∧ SqT K H a vs ∧ DvA K T ds vs := by
  rcases h with h | ⟨a, vs, ds', rfl, e, e2, q⟩
  · obtain ⟨a, vs, rfl, e, q⟩ := h
    exact ⟨a, vs, rfl, Same.seqT s e, q⟩
  · cases e
theorem Vw.int {i : Int} (h : Vw K T H v (.int i)) : v = .int i := by
  rcases h with h | ⟨a, vs, ds', rfl, e, e2, q⟩
  · exact h
  · cases e
theorem Vw.str {x : Str} (h : Vw K T H v (.str x)) : v = .str x := by
  rcases h with h | ⟨a, vs, ds', rfl, e, e2, q⟩
  · exact h
  · cases e
theorem Vw.bl {x : Bool} (h : Vw K T H v (.bool x)) : v = .bl x := by
  rcases h with h | ⟨a, vs, ds', rfl, e, e2, q⟩
  · exact h
  · cases e
theorem vwD_run (w : Wd K TB S σ H ρ T) (hr : RR K T ρ H H0 r v) {k : PyData → Prop} (h : vwD r S k) : ∃ d, Vw K T H v d ∧ k d := by
  cases r with
  | ad x =>
    cases x with
    | un => exact h.elim
    | val u => exact h.elim
    | dat d => exact ⟨d, .inl hr, h⟩
    | loc j =>
      have h' : (match S.m[j]? with
        | some (.lst ds) => k (.list ds)
        | _ => False) := h
      split at h'
      · rename_i ds hj
        obtain ⟨a, ea, vs, hv, hd⟩ := w.wm.cell hj
        obtain ⟨a', ea', rfl⟩ := hr
        rw [ea] at ea'
        cases ea'
        exact ⟨_, .inr ⟨a, vs, ds, rfl, rfl, hv, hd⟩, h'⟩
      · exact h'.elim
  | new c =>
    cases c with
    | lst ds =>
      obtain ⟨p, rfl, n0, n1, out, tp, ⟨vs, hp, hd⟩, ok⟩ := hr
      exact ⟨_, .inr ⟨p, vs, ds, rfl, rfl, hp, hd⟩, h⟩
    | _ => exact h.elim
end
end Zd
end

section
set_option maxHeartbeats 1000000
/-! The second layer: judgements, expressions. -/
namespace Zd
open PySem PySem.Spec PyProof.Rows L2 Zc
/-- an exception of one's own: with a field "at", or bare -/
inductive XD where
  | at (C : Addr) (d : PyData)
  | bare (C : Addr)
structure Rx (K : PySem.W.Frag) (E : XK) (Ex : XD → Prop) (ρ : List Addr) (T H : Hp) : Prop where
  field : ∀ (C : Addr) (d : PyData) (H' : Hp) (ρ' : List Addr) (T' : Hp) (dx : Addr) (v : V), Stp ρ T H ρ' T' H' → (∀ a ∈ ρ', H' a ≠ none) → Same T' H' → H dx = none → H' dx = some (.xd [("at", v)]) → Dv K T' d v → Ex (.at C d) → E (.ref C) (some dx) H'
  plain : ∀ (C : Addr) (H' : Hp) (ρ' : List Addr) (T' : Hp), Stp ρ T H ρ' T' H' → (∀ a ∈ ρ', H' a ≠ none) → Same T' H' → Ex (.bare C) → E (.ref C) none H'
theorem Rx.go {K : PySem.W.Frag} {E : XK} {Ex : XD → Prop} {ρ ρ1 : List Addr} {T H T1 H1 : Hp} (h : Rx K E Ex ρ T H) (s : Stp ρ T H ρ1 T1 H1) (lv : ∀ a ∈ ρ1, H1 a ≠ none) : Rx K E Ex ρ1 T1 H1 where
  field := fun C d H' ρ' T' dx v t l' sT n e q x => h.field C d H' ρ' T' dx v (s.trans t lv) l' sT (s.ne lv n) e q x
  plain := fun C H' ρ' T' t l' sT x => h.plain C H' ρ' T' (s.trans t lv) l' sT x

abbrev WE := SS → (RD → SS → Prop) → Prop
abbrev WT := SS → (Bool → SS → Prop) → Prop
abbrev WA := SS → (List RD → SS → Prop) → Prop
class DEc (K : PySem.W.Frag) (TB : List Addr) (E : XK) (Ex : XD → Prop) (te : TE) (we : outParam WE) : Prop where
  run : ∀ (S : SS) (σ : L2.St) (H : Hp) (ρ : List Addr) (T : Hp) (Q : VK) (k : RD → SS → Prop), Wd K TB S σ H ρ T → Rx K E Ex ρ T H → we S k →
    (∀ r S' H' ρ' T' v, Wd K TB S' σ H' ρ' T' → Stp ρ T H ρ' T' H' → RR K T' ρ' H' H r v → k r S' → Q v H') → te σ H Q
class DTc (K : PySem.W.Frag) (TB : List Addr) (E : XK) (Ex : XD → Prop) (tt : TT) (wt : outParam WT) : Prop where
  run : ∀ (S : SS) (σ : L2.St) (H : Hp) (ρ : List Addr) (T : Hp) (Q : Bool → Hp → Prop) (k : Bool → SS → Prop), Wd K TB S σ H ρ T → Rx K E Ex ρ T H → wt S k →
    (∀ b S' H' ρ' T', Wd K TB S' σ H' ρ' T' → Stp ρ T H ρ' T' H' → k b S' → Q b H') → tt σ H Q
class DAc (K : PySem.W.Frag) (TB : List Addr) (E : XK) (Ex : XD → Prop) (ta : TA) (wa : outParam WA) : Prop where
  run : ∀ (S : SS) (σ : L2.St) (H : Hp) (ρ : List Addr) (T : Hp) (Q : List V → Hp → Prop) (k : List RD → SS → Prop), Wd K TB S σ H ρ T → Rx K E Ex ρ T H → wa S k →
    (∀ rs S' H' ρ' T' vs, Wd K TB S' σ H' ρ' T' → Stp ρ T H ρ' T' H' → RRs K T' ρ' H' H rs vs → k rs S' → Q vs H') → ta σ H Q
/-- the end of an operator -/
def Fin (K : PySem.W.Frag) (TB : List Addr) (σ : L2.St) (ρ0 : List Addr) (T0 H0 : Hp) (Q : VK) (k : RD → SS → Prop) : Prop :=
  ∀ r S' H' ρ' T' z, Wd K TB S' σ H' ρ' T' → Stp ρ0 T0 H0 ρ' T' H' → RR K T' ρ' H' H0 r z → k r S' → Q z H'
/-- an operator, by values -/
class OpL (K : PySem.W.Frag) (TB : List Addr) (r : R2) (wr : outParam (RD → RD → SS → (RD → SS → Prop) → Prop)) : Prop where
  run : ∀ (S : SS) (σ : L2.St) (ρ0 : List Addr) (T0 H0 H : Hp) (ρ : List Addr) (T : Hp) (x y : RD) (v u : V) (Q : VK) (k : RD → SS → Prop), Wd K TB S σ H ρ T → Stp ρ0 T0 H0 ρ T H → RR K T ρ H H0 x v → RR K T ρ H H0 y u → wr x y S k →
    Fin K TB σ ρ0 T0 H0 Q k → r v u H Q
/-- a built-in's call, by values -/
class CbL (K : PySem.W.Frag) (TB : List Addr) (r : List V → Hp → VK → Prop) (wr : outParam (List RD → SS → (RD → SS → Prop) → Prop)) : Prop where
  run : ∀ (S : SS) (σ : L2.St) (ρ0 : List Addr) (T0 H0 H : Hp) (ρ : List Addr) (T : Hp) (xs : List RD) (vs : List V) (Q : VK) (k : RD → SS → Prop), Wd K TB S σ H ρ T → Stp ρ0 T0 H0 ρ T H → RRs K T ρ H H0 xs vs → wr xs S k →
    Fin K TB σ ρ0 T0 H0 Q k → r vs H Q
/-- a built-in type's method, by values -/
class MtL (K : PySem.W.Frag) (TB : List Addr) (r : V → List V → Hp → VK → Prop) (wr : outParam (RD → List RD → SS → (RD → SS → Prop) → Prop)) : Prop where
  run : ∀ (S : SS) (σ : L2.St) (ρ0 : List Addr) (T0 H0 H : Hp) (ρ : List Addr) (T : Hp) (x : RD) (v : V) (xs : List RD) (vs : List V) (Q : VK) (k : RD → SS → Prop), Wd K TB S σ H ρ T → Stp ρ0 T0 H0 ρ T H → RR K T ρ H H0 x v → RRs K T ρ H H0 xs vs → wr x xs S k →
    Fin K TB σ ρ0 T0 H0 Q k → r v vs H Q

section
variable {K : PySem.W.Frag} {TB : List Addr} {E : XK} {Ex : XD → Prop} {T T' H H' H0 T0 T1 T2 H1 H2 : Hp} {ρ ρ' ρ0 ρ1 ρ2 : List Addr} {S S' : SS} {m : List CD} {σ : L2.St} {p a b : Addr} {v : V} {x : AD} {c : CD} {r : RD} {te ta tb : TE} {we wa wb : WE} {t : TA} {w : WA} {i j : Nat}
theorem RR.older (h : RR K T ρ H H1 r v) (b : ∀ b, H1 b = none → H0 b = none) : RR K T ρ H H0 r v := by
  cases r with
  | ad a => exact h
  | new c =>
    obtain ⟨p, e, n0, q⟩ := h
    exact ⟨p, e, b p n0, q⟩
theorem RRs.older (b : ∀ b, H1 b = none → H0 b = none) : ∀ {rs : List RD} {vs : List V}, RRs K T ρ H H1 rs vs → RRs K T ρ H H0 rs vs
  | [], _, h => h
  | r :: rs, _, ⟨v, us, Hm, e, h, b1, b2, q⟩ => ⟨v, us, Hm, e, h.older b, fun x z => b x (b1 x z), b2, q⟩
theorem Wd.lv (w : Wd K TB S σ H ρ T) : ∀ a ∈ ρ, H a ≠ none := w.wm.lv
theorem SRs.get : ∀ {as : List AD} {σ : L2.St} {i : Nat} {a : AD}, SRs K T ρ as σ → as[i]? = some a → a ≠ .un → ∃ v, σ[i]? = some (some v) ∧ AR K T ρ a v
  | [], _, i, a, h, e, _ => by cases e
  | x :: as, _, 0, a, ⟨o, us, q, h, r⟩, e, nu => by
    cases e
    subst q
    cases x with
    | un => exact absurd rfl nu
    | dat d => obtain ⟨v, z, h⟩ := h; exact ⟨v, by rw [z]; rfl, h⟩
    | loc j => obtain ⟨v, z, h⟩ := h; exact ⟨v, by rw [z]; rfl, h⟩
    | val u => obtain ⟨v, z, h⟩ := h; exact ⟨v, by rw [z]; rfl, h⟩
  | x :: as, _, i + 1, a, ⟨o, us, q, h, r⟩, e, nu => by
    subst q
    exact SRs.get (i := i) r e nu
theorem SRs.len : ∀ {as : List AD} {σ : L2.St}, SRs K T ρ as σ → σ.length = as.length
  | [], _, h => by cases (show _ = _ from h); rfl
  | x :: as, _, ⟨o, us, q, h, r⟩ => by rw [q, List.length_cons, List.length_cons, SRs.len r]
theorem AR.sr (h : AR K T ρ x v) : SR K T ρ x (some v) := by
  cases x with
  | un => trivial
  | dat d => exact ⟨v, rfl, h⟩
  | loc j => exact ⟨v, rfl, h⟩
  | val u => exact ⟨v, rfl, h⟩
theorem SRs.set : ∀ {as : List AD} {σ : L2.St} {i : Nat} {a : AD} {o : Option V}, SRs K T ρ as σ → SR K T ρ a o → SRs K T ρ (as.set i a) (σ.set i o)
  | [], _, i, a, o, h, _ => by cases (show _ = _ from h); rfl
  | x :: as, _, 0, a, o, ⟨o', us, q, h, r⟩, g => by subst q; exact ⟨o, us, rfl, g, r⟩
  | x :: as, _, i + 1, a, o, ⟨o', us, q, h, r⟩, g => by subst q; exact ⟨o', us.set i o, rfl, h, SRs.set r g⟩

/-! ### names, constants -/
def wVar (i : Nat) : WE := fun S k => match S.s[i]? with
  | some (.dat d) => k (.ad (.dat d)) S
  | some (.loc j) => k (.ad (.loc j)) S
  | some (.val v) => k (.ad (.val v)) S
  | _ => False
instance : DEc K TB E Ex (tVar i) (wVar i) where
  run := fun S σ H ρ T Q k w _ h q => by
    have h' : (match S.s[i]? with
      | some (.dat d) => k (.ad (.dat d)) S
      | some (.loc j) => k (.ad (.loc j)) S
      | some (.val v) => k (.ad (.val v)) S
      | _ => False) := h
    split at h'
    · rename_i d e
      obtain ⟨v, ev, r⟩ := w.sl.get e (fun z => by cases z)
      exact ⟨v, ev, q (.ad (.dat d)) _ _ _ _ _ w .refl r h'⟩
    · rename_i j e
      obtain ⟨v, ev, r⟩ := w.sl.get e (fun z => by cases z)
      exact ⟨v, ev, q (.ad (.loc j)) _ _ _ _ _ w .refl r h'⟩
    · rename_i u e
      obtain ⟨v, ev, r⟩ := w.sl.get e (fun z => by cases z)
      exact ⟨v, ev, q (.ad (.val u)) _ _ _ _ _ w .refl r h'⟩
    · exact h'.elim
/-- a constant -/
def aOf : V → AD
  | .non => .dat .none
  | .bl b => .dat (.bool b)
  | .int i => .dat (.int i)
  | .str x => .dat (.str x)
  | v => .val v
theorem aOf_r : AR K T ρ (aOf v) v := by cases v <;> rfl
def wC (v : V) : WE := fun S k => k (.ad (aOf v)) S
instance : DEc K TB E Ex (tC v) (wC v) where
  run := fun S σ H ρ T Q k w _ h q => q (.ad (aOf v)) _ _ _ _ _ w .refl aOf_r h
/-! ### arguments, displays -/
def wNil : WA := fun S k => k [] S
def wCons (we : WE) (w : WA) : WA := fun S k => we S fun r S1 => w S1 fun rs S2 => k (r :: rs) S2
instance : DAc K TB E Ex tNil wNil where
  run := fun S σ H ρ T Q k w _ h q => q [] _ _ _ _ _ w .refl rfl h
instance [hE : DEc K TB E Ex te we] [hA : DAc K TB E Ex t w] : DAc K TB E Ex (tCons te t) (wCons we w) where
  run := fun S σ H ρ T Q k wd rx h q => by
    refine hE.run S σ H ρ T _ _ wd rx h fun r S1 H1 ρ1 T1 v w1 s1 r1 h1 => ?_
    refine hA.run S1 σ H1 ρ1 T1 _ _ w1 (rx.go s1 w1.lv) h1 fun rs S2 H2 ρ2 T2 vs w2 s2 r2 h2 => ?_
    refine q (r :: rs) _ _ _ _ _ w2 (s1.trans s2 w1.lv) ⟨v, vs, H1, rfl, r1.go s2, fun b z => s1.ne w1.lv z, fun p z => ?_, r2⟩ h2
    cases r with
    | ad a => cases z
    | new c =>
      obtain ⟨p', e, _, n1, _⟩ := r1
      subst e
      cases z
      exact n1
/-- a tuple that stands -/
theorem tup_new (w : Wd K TB S σ H ρ T) {ds : List PyData} {vs : List V} (hd : DvA K T ds vs) (np : H p = none) :
    Wd K TB S σ (upd H p (.tup vs)) ρ (upd T p (.tup vs)) ∧ Stp ρ T H ρ (upd T p (.tup vs)) (upd H p (.tup vs)) ∧ Dv K (upd T p (.tup vs)) (.tuple ds) (.ref p) := by
  obtain ⟨a, b⟩ := w.put np (.tup vs)
  exact ⟨a, b, p, vs, rfl, .inl (.inl upd_same), DvA.keep b.tt _ _ hd⟩
/-- a list that no name holds yet -/
theorem lst_new (w : Wd K TB S σ H ρ T) {ds : List PyData} {vs : List V} (hd : DvA K T ds vs) (np : H p = none) (b : ∀ b, H b = none → H0 b = none) :
    Wd K TB S σ (upd H p (.lst vs)) ρ T ∧ Stp ρ T H ρ T (upd H p (.lst vs)) ∧ RR K T ρ (upd H p (.lst vs)) H0 (.new (.lst ds)) (.ref p) := by
  obtain ⟨c, s⟩ := w.by np (.lst vs)
  exact ⟨c, s, p, rfl, b p np, by rw [upd_same]; exact (fun z => nomatch z), w.wm.out np, w.wm.sT.free np, ⟨vs, upd_same, hd⟩, rfl⟩
def wTup (w : WA) : WE := fun S k => w S fun rs S1 => asDs rs S1 fun ds S2 => ds.length ≤ 1000000 ∧ k (.ad (.dat (.tuple ds))) S2
theorem size_ok {n : Nat} (h : n ≤ 1000000) : n ≤ sizeLine := Nat.le_trans h (by decide)
theorem size_lt {n : Nat} (h : n < 1000000) : n < sizeLine := Nat.lt_of_lt_of_le h (by decide)
instance [hA : DAc K TB E Ex t w] : DEc K TB E Ex (tTup t) (wTup w) where
  run := fun S σ H ρ T Q k wd rx h q => by
    refine hA.run S σ H ρ T _ _ wd rx h fun rs S1 H1 ρ1 T1 vs w1 s1 r1 h1 => ?_
    obtain ⟨ds, S2, T2, w2, f2, d2, hz, h2⟩ := asDs_run w1 r1 h1
    refine ⟨by rw [d2.len]; exact size_ok hz, fun p np => ?_⟩
    obtain ⟨w3, s3, d3⟩ := tup_new w2 d2 np
    exact q (.ad (.dat (.tuple ds))) _ _ _ _ _ w3 ((s1.fz f2).trans s3 w2.lv) d3 h2
def wLst (w : WA) : WE := fun S k => w S fun rs S1 => asDs rs S1 fun ds S2 => ds.length ≤ 1000000 ∧ k (.new (.lst ds)) S2
instance [hA : DAc K TB E Ex t w] : DEc K TB E Ex (tLst t) (wLst w) where
  run := fun S σ H ρ T Q k wd rx h q => by
    refine hA.run S σ H ρ T _ _ wd rx h fun rs S1 H1 ρ1 T1 vs w1 s1 r1 h1 => ?_
    obtain ⟨ds, S2, T2, w2, f2, d2, hz, h2⟩ := asDs_run w1 r1 h1
    refine ⟨by rw [d2.len]; exact size_ok hz, fun p np => ?_⟩
    have s12 := s1.fz f2
    obtain ⟨w3, s3, r3⟩ := lst_new w2 d2 np (fun b z => s12.ne w2.lv z)
    exact q _ _ _ _ _ _ w3 (s12.trans s3 w2.lv) r3 h2
/-! ### operators, calls of what is built in -/
def wOp (wr : RD → RD → SS → (RD → SS → Prop) → Prop) (wa wb : WE) : WE := fun S k => wa S fun x S1 => wb S1 fun y S2 => wr x y S2 k
instance {r : R2} {wr : RD → RD → SS → (RD → SS → Prop) → Prop} [hO : OpL K TB r wr] [hA : DEc K TB E Ex ta wa] [hB : DEc K TB E Ex tb wb] : DEc K TB E Ex (tOp r ta tb) (wOp wr wa wb) where
  run := fun S σ H ρ T Q k wd rx h q => by
    refine hA.run S σ H ρ T _ _ wd rx h fun x S1 H1 ρ1 T1 v w1 s1 r1 h1 => ?_
    refine hB.run S1 σ H1 ρ1 T1 _ _ w1 (rx.go s1 w1.lv) h1 fun y S2 H2 ρ2 T2 u w2 s2 r2 h2 => ?_
    exact hO.run S2 σ ρ T H H2 ρ2 T2 x y v u Q k w2 (s1.trans s2 w1.lv) (r1.go s2) (r2.older fun b z => s1.ne w1.lv z) h2 q
def wCB (wr : List RD → SS → (RD → SS → Prop) → Prop) (w : WA) : WE := fun S k => w S fun xs S1 => wr xs S1 k
instance {r : List V → Hp → VK → Prop} {wr : List RD → SS → (RD → SS → Prop) → Prop} [hO : CbL K TB r wr] [hA : DAc K TB E Ex t w] : DEc K TB E Ex (tCB r t) (wCB wr w) where
  run := fun S σ H ρ T Q k wd rx h q => by
    refine hA.run S σ H ρ T _ _ wd rx h fun xs S1 H1 ρ1 T1 vs w1 s1 r1 h1 => ?_
    exact hO.run S1 σ ρ T H H1 ρ1 T1 xs vs Q k w1 s1 r1 h1 q
/-- of this built-in type -/
def tyOk (ty : String) (x : RD) (S : SS) : Prop := match x with
  | .ad (.dat (.str _)) => ty = "str"
  | .ad (.dat (.list _)) => ty = "list"
  | .new (.lst _) => ty = "list"
  | .new (.lsa _) => ty = "list"
  | .ad (.loc j) => match S.m[j]? with
    | some (.lst _) => ty = "list"
    | some (.lsa _) => ty = "list"
    | some (.dcK _) => ty = "dict"
    | _ => False
  | _ => False
theorem tyOk_run {ty : String} {x : RD} (w : Wd K TB S σ H ρ T) (hr : RR K T ρ H H0 x v) (h : tyOk ty x S) : tyV K ty v H := by
  have sT := w.wm.sT
  unfold tyOk at h
  split at h
  · cases (show v = _ from hr); exact h
  · obtain ⟨a, xs, rfl, e, _⟩ := hr; exact .inl ⟨h, xs, .inl (.inl (sT _ _ e))⟩
  · obtain ⟨p, rfl, _, _, _, _, ⟨vs, e, _⟩, _⟩ := hr; exact .inl ⟨h, vs, .inl (.inl e)⟩
  · obtain ⟨p, rfl, _, _, _, _, ⟨vs, e, _⟩, _⟩ := hr; exact .inl ⟨h, vs, .inl (.inl e)⟩
  · rename_i j
    obtain ⟨a, ea, rfl⟩ := hr
    split at h
    · rename_i ds e; obtain ⟨a', ea', vs, ev, _⟩ := w.wm.cell e; rw [ea] at ea'; cases ea'; exact .inl ⟨h, vs, .inl (.inl ev)⟩
    · rename_i ds e; obtain ⟨a', ea', vs, ev, _⟩ := w.wm.cell e; rw [ea] at ea'; cases ea'; exact .inl ⟨h, vs, .inl (.inl ev)⟩
    · rename_i ds e; obtain ⟨a', ea', vs, ev, _⟩ := w.wm.cell e; rw [ea] at ea'; cases ea'; exact .inr (.inr (.inl ⟨h, .inl ⟨vs, ev⟩⟩))
    · exact h.elim
  · exact h.elim
def wBM (ty : String) (wr : RD → List RD → SS → (RD → SS → Prop) → Prop) (we : WE) (w : WA) : WE := fun S k => we S fun x S1 => tyOk ty x S1 ∧ w S1 fun xs S2 => wr x xs S2 k
instance {ty : String} {r : V → List V → Hp → VK → Prop} {wr : RD → List RD → SS → (RD → SS → Prop) → Prop} [hO : MtL K TB r wr] [hE : DEc K TB E Ex te we] [hA : DAc K TB E Ex t w] : DEc K TB E Ex (tBM K ty r te t) (wBM ty wr we w) where
  run := fun S σ H ρ T Q k wd rx h q => by
    refine hE.run S σ H ρ T _ _ wd rx h fun x S1 H1 ρ1 T1 v w1 s1 r1 h1 => ⟨tyOk_run w1 r1 h1.1, ?_⟩
    refine hA.run S1 σ H1 ρ1 T1 _ _ w1 (rx.go s1 w1.lv) h1.2 fun xs S2 H2 ρ2 T2 vs w2 s2 r2 h2 => ?_
    exact hO.run S2 σ ρ T H H2 ρ2 T2 x v xs vs Q k w2 (s1.trans s2 w1.lv) (r1.go s2) (r2.older fun b z => s1.ne w1.lv z) h2 q
def wBM0 (ty : String) (wr : RD → List RD → SS → (RD → SS → Prop) → Prop) (we : WE) : WE := fun S k => we S fun x S1 => tyOk ty x S1 ∧ wr x [] S1 k
instance {ty : String} {r : V → List V → Hp → VK → Prop} {wr : RD → List RD → SS → (RD → SS → Prop) → Prop} [hO : MtL K TB r wr] [hE : DEc K TB E Ex te we] : DEc K TB E Ex (tBM0 K ty r te) (wBM0 ty wr we) where
  run := fun S σ H ρ T Q k wd rx h q => by
    refine hE.run S σ H ρ T _ _ wd rx h fun x S1 H1 ρ1 T1 v w1 s1 r1 h1 => ⟨tyOk_run w1 r1 h1.1, ?_⟩
    exact hO.run S1 σ ρ T H H1 ρ1 T1 x v [] [] Q k w1 s1 r1 rfl h1.2 q
end
end Zd
end

section
set_option maxHeartbeats 2000000
/-! repr of a truth; catA where the written part is named -/
namespace Zc
open PySem PySem.Spec PyProof.Rows L2
def blS (b : Bool) : Str := if b then "True" else "False"
theorem call_repr_bl {X : Cx} : CallR X (.builtin "repr") (fun xs H Q => ∃ b, xs = [.bl b] ∧ Q (.str (blS b)) H) := by
  intro pins s σ H xs us Q I r h
  obtain ⟨b, rfl, q⟩ := h
  obtain ⟨u, rfl, rfl⟩ := vals1 r
  exact PySem.P.repr_of_bool ⟨.str _, H, I.tok _, ⟨_, rfl⟩, q⟩
theorem op_catAK {X : Cx} (K : PySem.W.Frag) (h : X.K = K) : OpR X (binaryOp .Add) (rCatA K) := h ▸ op_catA
end Zc
end

section
set_option maxHeartbeats 4000000
/-! tuple * int, the int 0 or more -/
namespace Zc
open PySem PySem.Spec PyProof.Rows L2
theorem mul_zero (l : Addr) (items : Array Value) (n : Nat) (dd : Option Addr) (sl : Array (Option Value)) (u : Tok) (ne : items.isEmpty = false) :
    Meets (Builtin.«tuple.__mul__» ⟨[.ref l, .int 0 u], []⟩) (fun _ R s => s.heap.get? l = some { cls := .type "tuple", dict := dd, data := .seq items n, slots := sl } ∧
      R (.ok (.ret (Value.ref s.heap.objs.size))) { s with heap := s.heap.push { cls := Value.type "tuple", data := Data.seq #[] }, toks := s.toks }) :=
  .of_wp fun prog w A R s h => by
    obtain ⟨hp, g, d, tk, os⟩ := s
    obtain ⟨hl, h⟩ := h
    have f1 := AutoSeq1.idx_int
    wp_walk using wpAny_loadPart' hl
    repeat (first
      | (refine wpAny_ite_false (decide_eq_false (by rw [ne]; decide)) ?_; wp_walk using wpAny_loadPart' hl)
      | (refine wpAny_ite_false (by decide) ?_; wp_walk using wpAny_loadPart' hl)
      | (refine wpAny_ite_true (by simp) ?_; wp_walk using wpAny_loadPart' hl))
    exact ⟨_, rfl, h⟩
def rRepZ (K : PySem.W.Frag) : R2 := fun x y H Q => ∃ l k xs, x = .ref l ∧ y = .int k ∧ SqT K H l xs ∧ xs ≠ [] ∧ 0 ≤ k ∧ k ≤ 1000 ∧ xs.length ≤ 1000 ∧ (k = 0 → ∀ p, H p = none → Q (.ref p) (upd H p (.tup []))) ∧
  (k = 1 → Q (.ref l) H) ∧ (2 ≤ k → ∀ p, H p = none → Q (.ref p) (upd H p (.tup (List.replicate k.toNat xs).flatten)))
theorem op_repZ {X : Cx} : OpR X (binaryOp .Mult) (rRepZ X.K) := by
  intro pins s σ H x y v u Q I rx ry h
  obtain ⟨l, k, xs, rfl, rfl, hT, hne, h1, h2, hz, q0, q1, q2⟩ := h
  by_cases e : k = 0
  · subst e
    cases rx
    obtain ⟨t, rfl⟩ := ry
    obtain ⟨its, r, ⟨⟨cls, dd, data, sl⟩, ho, hc, n, hd⟩, hs⟩ := I.tuple hT
    simp only at hc hd
    subst hc hd
    have hle : its.length = xs.length := r.length.symm
    have hi : its.toArray.isEmpty = false := by
      cases its with
      | nil => exact absurd (List.eq_nil_of_length_eq_zero hle.symm) hne
      | cons a b => rfl
    refine wpAny_binaryOp_repeat_ref (T := "tuple") (U := "int") (by decide) ⟨_, ho, rfl⟩ (fun s' => typeIs_int s' 0 t) noFill_tuple_mul F.fills_int_mul F.slot_int_rmul repeat_tuple F.slot_int_index.lookup
      (call_meets F.slot_int_rmul (typeIs_int s 0 t) F.entry_int_rmul (F.args_int_rmul_2 _ _) (int_rmul_tuple 0 t l its.toArray n dd sl)
        ⟨ho, rfl, ⟨_, ho, rfl⟩, call_meets F.slot_tuple_mul ⟨_, ho, rfl⟩ F.entry_tuple_mul (F.args_tuple_mul_2 _ _) (mul_zero l its.toArray n dd sl t hi) ⟨ho, ?_⟩⟩)
    refine ⟨.ref s.heap.objs.size, _, I.laid (t' := s.toks) (o := .tup []) (fun b ob q => Heap.get?_push_of_some _ q) (Nat.le_refl _) ?_, rfl, q0 rfl _ (I.hok.fresh (Nat.le_refl _))⟩
    exact ⟨Nat.zero_le _, [], .nil, IsTup.new _ _⟩
  · exact op_repA pins s σ H _ _ v u Q I rx ry ⟨l, k, xs, rfl, rfl, hT, hne, by omega, h2, hz, q1, fun h => q2 (by omega)⟩
end Zc
end

section
set_option maxHeartbeats 2000000
/-! t[::-1] of a tuple -/
namespace Zc
open PySem PySem.Spec PyProof.Rows L2 HT
theorem fm_congr {α β : Type} {f g : α → Option β} : ∀ (l : List α), (∀ k ∈ l, f k = g k) → l.filterMap f = l.filterMap g
  | [], _ => rfl
  | a :: r, h => by
    have ih := fm_congr r fun k hk => h k (List.mem_cons_of_mem _ hk)
    rw [List.filterMap_cons, List.filterMap_cons, h a List.mem_cons_self, ih]
theorem rev_pick (xs : Array Value) : ((List.range xs.size).filterMap fun (m : Nat) => xs[((xs.size : Int) - 1 + (m : Int) * (-1)).toNat]?).toArray = xs.toList.reverse.toArray := by
  rw [← PySem.W.krv_pick]
  unfold slicePick
  rw [PySem.W.krv_bounds]
  show _ = ((sliceRange ((xs.size : Int) - 1) (-1) (-1)).filterMap (xs[·]?)).toArray
  rw [PySem.W.krv_sliceRange, List.filterMap_map]
  congr 1
  refine fm_congr _ fun k hk => ?_
  have := List.mem_range.mp hk
  show xs[((xs.size : Int) - 1 + (k : Int) * (-1)).toNat]? = xs[xs.size - 1 - k]?
  congr 1
  omega
section
variable {prog : Program} {w : World} {A : Around} {E : Value → Shared → Prop} {s : Shared}
theorem places_back (n : Nat) : Builtin.Slice.sliceAdjust none none (-1) (n : Int) = ((n : Int) - 1, -1) ∧ Builtin.Slice.slicePlaces ((n : Int) - 1) (-1) (-1) = n := by
  constructor
  · simp [Builtin.Slice.sliceAdjust]
  · simp [Builtin.Slice.slicePlaces]
    try omega
theorem tuple_back {t sl : Addr} {items : Array Value} {vl vu vs : Value} {Q : Value → Shared → Prop} (ht : IsTup s.heap t items) (hs : s.heap.IsSliceOf sl vl vu vs) (pl : IsPart vl none) (pu : IsPart vu none) (ps : IsPart vs (some (-1)))
    (h : Q (.ref s.heap.objs.size) { s with heap := s.heap.push { cls := .type "tuple", data := .seq items.toList.reverse.toArray } }) (hsz : items.size ≤ sizeLine) : wpAny (model prog w) A (getItem (.ref t) (.ref sl)) Q E s := by
  have fit : sizeOk (.seq items.toList.reverse.toArray) := by
    show items.toList.reverse.toArray.size ≤ sizeLine
    rw [List.size_toArray, List.length_reverse, Array.length_toList]
    exact hsz
  obtain ⟨os, hos, hcs, hds⟩ := id hs
  have hTs : s.TypeIs (.ref sl) "slice" := ⟨os, hos, hcs⟩
  unfold getItem
  try with_reducible refine wpAny_holding ?_
  first | refine wpAny_bind (wpAny_pure ?_) | skip
  refine wpAny_bind (wpAny_sequenceKey ht.typeIs (by decide) ?_)
  refine wpAny_bind (wpAny_callSpecial?_slot (name := Str.ofString "__getitem__") ht.typeIs PyProof.Rows.slot_tuple_getitem (wpAny_call_entry PyProof.Rows.slot_tuple_getitem ht.typeIs entry_tuple_getitem ?_ (args_tuple_getitem _ _)))
  refine wpAny_bind (m := Builtin.Tuple.tupleItemsOf (.ref t)) (tupleItemsOf_ ht ?_)
  refine wpAny_bind (wpAny_typeOf hTs ?_)
  rw [if_pos (by decide)]
  refine wpAny_bind ?_
  unfold Builtin.Slice.sliceApplied Builtin.Slice.sliceFields
  refine wpAny_bind (wpAny_bind (wpAny_field hos hds (x := vl) rfl (wpAny_bind (wpAny_field hos hds (x := vu) rfl (wpAny_bind (wpAny_field hos hds (x := vs) rfl (wpAny_pure ?_)))))))
  refine wpAny_bind (slicePart_ ps ?_)
  refine wp_if_neg (by decide) ?_
  refine wpAny_bind (slicePart_ pl (wpAny_bind (slicePart_ pu (wpAny_bind (wpAny_pure ?_)))))
  dsimp only
  obtain ⟨b1, b2⟩ := places_back items.size
  rw [show (some (-1 : Int)).getD 1 = -1 from rfl, b1]
  dsimp only
  rw [b2]
  refine wpAny_pure ?_
  dsimp only
  refine wp_if_neg (by simp) ?_
  rw [rev_pick]
  first
    | exact wpAny_bind (m := Builtin.Tuple.tupleExact _) (wpAny_newObj_type (wpAny_pure ⟨_, rfl, wpAny_pure h⟩) fit)
    | exact wpAny_bind (wpAny_bind (m := Builtin.Tuple.tupleExact _) (wpAny_newObj_type (wpAny_pure ⟨_, rfl, wpAny_pure h⟩) fit))
end
/-- t[::-1] -/
def tRevT (K : PySem.W.Frag) (te : TE) : TE := fun σ H Q => te σ H fun x H1 => ∃ a xs, x = .ref a ∧ SqT K H1 a xs ∧ ∀ p, H1 p = none → Q (.ref p) (upd H1 p (.tup xs.reverse))
theorem pe_revT {X : Cx} {te : TE} {e : Expr} {k : Nat} {p1 p2 p3 pos : Pos} (he : PE X e te) : PE X (.Subscript e (.Slice none none (some (.UnaryOp .USub (.Constant (.int 1) k p1) p2)) p3) pos) (tRevT X.K te) := by
  constructor
  intro pins s σ H Q I h
  apply Subscript_ (thn (he.run pins s σ H _ I h) ?_)
  rintro v s1 ⟨x, H1, I1, r1, a, xs, rfl, hx, q⟩
  cases r1
  have back : PO X (some (.UnaryOp .USub (.Constant (.int 1) k p1) p2)) (tPart (tUn (rU fun i => .int (-i)) (tC (.int 1)))) := po_some (pe_un un_neg pe_int)
  apply wpAny_Slice (thn (po_none.run pins s1 σ H1 (fun o G => o = none ∧ G = H1) I1 ⟨rfl, rfl⟩) ?_)
  rintro vl s2 ⟨_, _, I2, pl, rfl, rfl⟩
  apply thn (po_none.run pins s2 σ _ (fun o G => o = none ∧ G = _) I2 ⟨rfl, rfl⟩) ?_
  rintro vu s3 ⟨_, _, I3, pu, rfl, rfl⟩
  apply thn (back.run pins s3 σ _ (fun o G => o = some (-1) ∧ G = _) I3 ⟨1, rfl, -1, rfl, rfl, rfl⟩) ?_
  rintro vs s4 ⟨_, _, I4, ps, rfl, rfl⟩
  have I5 := I4.kept (h' := s4.heap.push { cls := .type "slice", data := .fields #[vl, vu, vs] }) (t' := s4.toks) fun b ob e => Heap.get?_push_of_some _ e
  obtain ⟨its, r, ht, hz⟩ := I5.tuple hx
  have lr := r.length
  refine tail_any (ops := [.ref a, .ref s4.heap.objs.size]) ht.typeIs PyProof.Rows.slot_tuple_getitem.lookup ?_ (by with_unfolding_all rfl)
  refine tuple_back ht (Heap.IsSliceOf.new _ vl vu vs) pl pu ps ?_ (by rw [List.size_toArray]; omega)
  refine ⟨.ref _, _, I5.laid (t' := s4.toks) (o := .tup xs.reverse) (fun b ob e => Heap.get?_push_of_some _ e) (Nat.le_refl _) ?_, rfl, q _ (I5.hok.fresh (Nat.le_refl _))⟩
  exact ⟨by rw [List.length_reverse]; exact hz, _, r.reverse, IsTup.new _ _⟩
end Zc
end

section
set_option maxHeartbeats 1000000
/-! Rules whatever the operands are; the written part named. -/
namespace Zd
open PySem PySem.Spec PyProof.Rows L2 Zc
section
variable {X : Cx} (K : PySem.W.Frag)
theorem op_or {f : Value → Value → Sem Value} {r1 r2 : R2} (h1 : OpR X f r1) (h2 : OpR X f r2) : OpR X f (fun x y H Q => r1 x y H Q ∨ r2 x y H Q) := fun pins s σ H x y v u Q I rx ry h =>
  h.elim (h1 pins s σ H x y v u Q I rx ry) (h2 pins s σ H x y v u Q I rx ry)
theorem cr_or {f : Value} {r1 r2 : List V → Hp → VK → Prop} (h1 : CallR X f r1) (h2 : CallR X f r2) : CallR X f (fun x H Q => r1 x H Q ∨ r2 x H Q) := fun pins s σ H xs us Q I r h =>
  h.elim (h1 pins s σ H xs us Q I r) (h2 pins s σ H xs us Q I r)
theorem sl_or {r1 r2 : V → Option Int → Option Int → Hp → VK → Prop} (h1 : SlR X r1) (h2 : SlR X r2) : SlR X (fun x l h H Q => r1 x l h H Q ∨ r2 x l h H Q) := fun pins s σ H x v vl vu lo hi sl Q I rx hs pl pu h =>
  h.elim (h1 pins s σ H x v vl vu lo hi sl Q I rx hs pl pu) (h2 pins s σ H x v vl vu lo hi sl Q I rx hs pl pu)
def zStrCat : R2 := fun x y H Q => ∃ i j, x = V.str i ∧ y = V.str j ∧ i.length + j.length ≤ sizeLine ∧ Q (V.str (i ++ j)) H
def zInt (C : Int → Int → Prop) (g : Int → Int → Int) : R2 := fun x y H Q => ∃ i j, x = V.int i ∧ y = V.int j ∧ C i j ∧ Q (V.int (g i j)) H
def zCmp (g : Int → Int → Bool) : R2 := fun x y H Q => ∃ i j, x = V.int i ∧ y = V.int j ∧ Q (V.bl (g i j)) H
def zAdd : R2 := fun x y H Q => zInt (fun _ _ => True) (fun i j => i + j) x y H Q ∨ zStrCat x y H Q ∨ rCat x y H Q ∨ rCatA K x y H Q
theorem zop_add (h : X.K = K) : OpR X (binaryOp .Add) (zAdd K) := by
  subst h
  refine op_or (fun pins s σ H x y v u Q I rx ry ⟨i, j, e1, e2, _, q⟩ => op_add pins s σ H x y v u Q I rx ry ⟨i, j, e1, e2, q⟩) (op_or op_add_str (op_or op_cat op_catA))
abbrev zSub : R2 := zInt (fun _ _ => True) (fun i j => i - j)
theorem zop_sub : OpR X (binaryOp .Sub) zSub := fun pins s σ H x y v u Q I rx ry ⟨i, j, e1, e2, _, q⟩ => op_sub pins s σ H x y v u Q I rx ry ⟨i, j, e1, e2, q⟩
def zMul : R2 := fun x y H Q => zInt CMulW (fun i j => i * j) x y H Q ∨ rRep x y H Q ∨ rRepZ K x y H Q
theorem zop_mul (h : X.K = K) : OpR X (binaryOp .Mult) (zMul K) := by
  subst h
  exact op_or op_mulW (op_or op_rep op_repZ)
abbrev zMod : R2 := zInt (fun _ j => 0 < j) (fun i j => i % j)
theorem zop_mod : OpR X (binaryOp .Mod) zMod := op_mod
abbrev zFdiv : R2 := zInt CDivW (fun i j => i / j)
theorem zop_fdiv : OpR X (binaryOp .FloorDiv) zFdiv := op_fdivW
abbrev zPow : R2 := zInt CPow (fun i j => i ^ j.toNat)
theorem zop_pow : OpR X (binaryOp .Pow) zPow := op_pow
abbrev zShl : R2 := zInt CPow (fun i j => i * 2 ^ j.toNat)
theorem zop_shl : OpR X (binaryOp .LShift) zShl := op_shl
abbrev zShr : R2 := zInt (fun _ j => 0 ≤ j) (fun i j => i / 2 ^ j.toNat)
theorem zop_shr : OpR X (binaryOp .RShift) zShr := op_shr
theorem zop_and : OpR X (binaryOp .BitAnd) (zInt (fun _ _ => True) Builtin.bitAnd) := fun pins s σ H x y v u Q I rx ry ⟨i, j, e1, e2, _, q⟩ => op_and pins s σ H x y v u Q I rx ry ⟨i, j, e1, e2, q⟩
theorem zop_bor : OpR X (binaryOp .BitOr) (zInt (fun _ _ => True) Builtin.bitOr) := fun pins s σ H x y v u Q I rx ry ⟨i, j, e1, e2, _, q⟩ => L2.op_or pins s σ H x y v u Q I rx ry ⟨i, j, e1, e2, q⟩
theorem zop_xor : OpR X (binaryOp .BitXor) (zInt (fun _ _ => True) Builtin.bitXor) := fun pins s σ H x y v u Q I rx ry ⟨i, j, e1, e2, _, q⟩ => op_xor pins s σ H x y v u Q I rx ry ⟨i, j, e1, e2, q⟩
theorem zop_lt : OpR X (compareOp .Lt) (zCmp fun i j => decide (i < j)) := op_lt
theorem zop_le : OpR X (compareOp .LtE) (zCmp fun i j => decide (i ≤ j)) := op_le
theorem zop_gt : OpR X (compareOp .Gt) (zCmp fun i j => decide (j < i)) := op_gt
theorem zop_ge : OpR X (compareOp .GtE) (zCmp fun i j => decide (j ≤ i)) := op_ge
def zEq : R2 := fun x y H Q => rEq x y H Q ∨ rEqD K x y H Q
def zNe : R2 := fun x y H Q => rNe x y H Q ∨ rNeD K x y H Q
theorem zop_eq (h : X.K = K) (hu : X.A.units + 64 < cLine) : OpR X (compareOp .Eq) (zEq K) := by
  subst h
  exact op_or op_eq (op_eqD hu)
theorem zop_ne (h : X.K = K) (hu : X.A.units + 64 < cLine) : OpR X (compareOp .NotEq) (zNe K) := by
  subst h
  exact op_or op_ne (op_neD hu)
def zIsN : R2 := fun x y H Q => y = V.non ∧ Q (.bl (decide (x = .non))) H
def zIsB : R2 := fun x y H Q => ∃ a b, x = V.bl a ∧ y = V.bl b ∧ Q (.bl (decide (a = b))) H
def zIsnN : R2 := fun x y H Q => y = V.non ∧ Q (.bl (!decide (x = .non))) H
def zIsnB : R2 := fun x y H Q => ∃ a b, x = V.bl a ∧ y = V.bl b ∧ Q (.bl (!decide (a = b))) H
def zIs : R2 := fun x y H Q => zIsN x y H Q ∨ zIsB x y H Q
def zIsn : R2 := fun x y H Q => zIsnN x y H Q ∨ zIsnB x y H Q
theorem zop_is : OpR X (compareOp .Is) zIs := op_or op_isN op_is_bl
theorem zop_isnot : OpR X (compareOp .IsNot) zIsn := op_or op_notN op_isnot_bl
def zInS : R2 := fun x y H Q => ∃ (c : Nat) (z : Str), x = V.str ⟨#[c]⟩ ∧ y = V.str z ∧ Q (.bl (decide (c ∈ z.cps.toList))) H
def zNiS : R2 := fun x y H Q => ∃ (c : Nat) (z : Str), x = V.str ⟨#[c]⟩ ∧ y = V.str z ∧ Q (.bl (!decide (c ∈ z.cps.toList))) H
def zIn : R2 := fun x y H Q => rIn K false x y H Q ∨ rInD K x y H Q ∨ zInS x y H Q
def zNi : R2 := fun x y H Q => rIn K true x y H Q ∨ rNotInD K x y H Q ∨ zNiS x y H Q
theorem zop_in (h : X.K = K) (hu : X.A.units + 65 < cLine) : OpR X (compareOp .In) (zIn K) := by
  subst h
  exact op_or op_in_seq (op_or (op_inD hu) op_in_sign)
theorem zop_ni (h : X.K = K) (hu : X.A.units + 65 < cLine) : OpR X (compareOp .NotIn) (zNi K) := by
  subst h
  exact op_or op_notIn_seq (op_or (op_notInD hu) op_notIn_sign)
theorem zix (h : X.K = K) : IxR X (rIx K) := h ▸ ix_seq
def zSl : V → Option Int → Option Int → Hp → VK → Prop := fun x l u H Q => rSlL K x l u H Q ∨ rSlA K x l u H Q ∨ rSlS x l u H Q
theorem zsl (h : X.K = K) : SlR X (zSl K) := by
  subst h
  exact sl_or sl_list (sl_or sl_tupA sl_str)
def zLenQ : List V → Hp → VK → Prop := fun xs H Q => ∃ p ys, xs = [V.ref p] ∧ (SqL K H p ys ∨ SqT K H p ys) ∧ Q (V.int ys.length) H
def zLenS : List V → Hp → VK → Prop := fun xs H Q => ∃ z, xs = [V.str z] ∧ z.length ≤ sizeLine ∧ Q (V.int z.length) H
def zLen : List V → Hp → VK → Prop := fun xs H Q => zLenQ K xs H Q ∨ zLenS xs H Q
theorem zcr_len (h : X.K = K) : CallR X (.builtin "len") (zLen K) := by
  subst h
  exact cr_or call_len_seq call_len_str
def zTupOf : List V → Hp → VK → Prop := fun xs H Q => ∃ p ys, xs = [V.ref p] ∧ ((SqL K H p ys ∧ ∀ l, H l = none → Q (V.ref l) (upd H l (.tup ys))) ∨ (SqT K H p ys ∧ Q (V.ref p) H))
theorem zcr_tuple (h : X.K = K) : CallR X (.type "tuple") (zTupOf K) := by
  subst h
  exact call_tuple_of
def zListOf : List V → Hp → VK → Prop := fun xs H Q => ∃ p ys, xs = [V.ref p] ∧ (SqL K H p ys ∨ SqT K H p ys) ∧ ∀ l, H l = none → Q (V.ref l) (upd H l (.lst ys))
theorem zcr_list (h : X.K = K) : CallR X (.type "list") (zListOf K) := by
  subst h
  exact call_list_of
def zIntOf : List V → Hp → VK → Prop := fun xs H Q => (∃ i, xs = [V.int i] ∧ Q (V.int i) H) ∨ ∃ k, xs = [V.bl k] ∧ Q (V.int (if k then 1 else 0)) H
theorem zcr_int : CallR X (.type "int") zIntOf := call_int1
def zAbs : List V → Hp → VK → Prop := fun xs H Q => ∃ i, xs = [V.int i] ∧ Q (V.int (if i < 0 then -i else i)) H
theorem zcr_abs : CallR X (.builtin "abs") zAbs := call_abs
def zMin2 : List V → Hp → VK → Prop := fun xs H Q => ∃ i j, xs = [V.int i, V.int j] ∧ Q (V.int (if j < i then j else i)) H
def zMax2 : List V → Hp → VK → Prop := fun xs H Q => ∃ i j, xs = [V.int i, V.int j] ∧ Q (V.int (if j > i then j else i)) H
theorem zcr_min (hc : X.calm = true) : CallR X (.builtin "min") zMin2 := call_min2 hc
theorem zcr_max (hc : X.calm = true) : CallR X (.builtin "max") zMax2 := call_max2 hc
theorem zcr_isiT (h : X.K = K) : CallR X (.builtin "isinstance") (rIsiT K) := h ▸ call_isiT
theorem zcr_isi (h : X.K = K) : CallR X (.builtin "isinstance") (rIsi K) := h ▸ call_isi
theorem zcr_sum (h : X.K = K) (hc : X.calm = true) : CallR X (.builtin "sum") (rSum K) := h ▸ cr_sum hc
theorem zcr_sorted (h : X.K = K) : CallR X (.builtin "sorted") (rSortedI K) := h ▸ cr_sortedI
def zStrI : List V → Hp → VK → Prop := fun xs H Q => ∃ i, xs = [V.int i] ∧ i.natAbs.log2 < 1920 ∧ Q (V.str (toString i)) H
theorem zcr_str : CallR X (.type "str") zStrI := call_str_int
def zBool : List V → Hp → VK → Prop := fun xs H Q => (∃ i, xs = [V.int i] ∧ Q (V.bl (i != 0)) H) ∨ ∃ k, xs = [V.bl k] ∧ Q (V.bl k) H
theorem zcr_bool : CallR X (.type "bool") zBool := call_bool1
def zReprD : List V → Hp → VK → Prop := fun xs H Q => ∃ v d, xs = [v] ∧ isDisplay d = true ∧ Dp K H v d ∧ d.showable = true ∧ d.hasDict = false ∧ d.depth < 40 ∧ d.shown.length ≤ sizeLine ∧ Q (.str d.shown) H
def zReprB : List V → Hp → VK → Prop := fun xs H Q => ∃ b, xs = [V.bl b] ∧ Q (.str (blS b)) H
def zRepr : List V → Hp → VK → Prop := fun xs H Q => zReprD K xs H Q ∨ zReprB xs H Q
theorem zcr_repr (h : X.K = K) (hg : X.A.guards = some []) (hu : X.A.units + 64 < cLine) : CallR X (.builtin "repr") (zRepr K) := by
  subst h
  exact cr_or (call_repr_D hg hu) call_repr_bl
/-- tests, fields, methods, targets, walks, the written part named -/
def zTru (ta : TE) : TT := fun σ H Q => ta σ H fun x H' => ∃ k, TruV K x H' k ∧ Q k H'
theorem zpt_truth {a : Expr} {ta : TE} (h : X.K = K) (ha : PE X a ta) (he : ∀ whole, isTrue a X.env whole = (do let v ← whole; standAt a.pos; holding [v] (truthy v))) : PT X a (zTru K ta) := by
  subst h
  exact pt_truth ha he
theorem zpe_fld {e : Expr} {f : Str} {pos : Pos} {ta : TE} (h : X.K = K) (he : PE X e ta) (hb : attributeBase e f X.env (eval e X.env) = eval e X.env) : PE X (.Attribute e f pos) (tFld K ta f) := h ▸ pe_fld he hb
theorem zps_fld {o value : Expr} {f : Str} {pos pos' : Pos} {ta tv : TE} (h : X.K = K) (ha : PE X o ta) (hv : PE X value tv) (hs : swapsWith value (some (.Attribute o f pos')) pos.line X.env = pure false) : PS X (.Assign [.Attribute o f pos'] value pos) (sFld K ta tv f) := h ▸ ps_fld ha hv hs
theorem zps_fldaug {o value : Expr} {f : Str} {pos tpos : Pos} {op : Operator} {ta tv : TE} {rd : V → V → Hp → VK → Prop} (h : X.K = K) (ha : PE X o ta) (hv : PE X value tv) (hop : InOp X op rd) : PS X (.AugAssign (.Attribute o f tpos) op value pos) (sFldAug K ta tv rd f) := h ▸ ps_fldaug ha hv hop
theorem zpi_list {tg e : Expr} {tl : TE} (h : X.K = K) (hp : PI X tg e (iList X.K tl)) : PI X tg e (iList K tl) := h ▸ hp
theorem zpi_tup {tg e : Expr} {tl : TE} (h : X.K = K) (hp : PI X tg e (iTup X.K tl)) : PI X tg e (iTup K tl) := h ▸ hp
/-- a name that is to be data from now on -/
def gNameF (i : Nat) : TG := gName i
end
end Zd
end

section
set_option maxHeartbeats 1000000
/-! The second layer: operators, tests, built-ins. -/
namespace Zd
open PySem PySem.Spec PyProof.Rows L2 Zc
section
variable {K : PySem.W.Frag} {TB : List Addr} {E : XK} {Ex : XD → Prop} {T T' H H' H0 : Hp} {ρ ρ' : List Addr} {S S' : SS} {σ : L2.St} {p a b : Addr} {v u : V} {x y r : RD} {te ta tb tc : TE} {we wa wb wc : WE} {t : TA} {w : WA} {i j : Nat} {Q : VK} {k : RD → SS → Prop}
/-- an operator on views -/
def w2 (f : PyData → PyData → (RD → Prop) → Prop) : RD → RD → SS → (RD → SS → Prop) → Prop := fun x y S k => vwD x S fun d => vwD y S fun e => f d e fun r => k r S
section
variable {ρ0 : List Addr} {T0 : Hp} (q : Fin K TB σ ρ0 T0 H0 Q k) (hw : Wd K TB S σ H ρ T) (s : Stp ρ0 T0 H0 ρ T H)
include q hw s
theorem Fin.dat {d : PyData} (h : Dv K T d v) (hk : k (.ad (.dat d)) S) : Q v H := q (.ad (.dat d)) S H ρ T v hw s h hk
theorem Fin.int {i : Int} (hk : k (.ad (.dat (.int i))) S) : Q (.int i) H := Fin.dat q hw s (d := .int i) rfl hk
theorem Fin.bl {i : Bool} (hk : k (.ad (.dat (.bool i))) S) : Q (.bl i) H := Fin.dat q hw s (d := .bool i) rfl hk
theorem Fin.str {i : Str} (hk : k (.ad (.dat (.str i))) S) : Q (.str i) H := Fin.dat q hw s (d := .str i) rfl hk
theorem Fin.non (hk : k (.ad (.dat .none)) S) : Q .non H := Fin.dat q hw s (d := .none) rfl hk
theorem Fin.tup {ds : List PyData} {vs : List V} (h : DvA K T ds vs) (np : H p = none) (hk : k (.ad (.dat (.tuple ds))) S) : Q (.ref p) (upd H p (.tup vs)) := by
  obtain ⟨w3, s3, d3⟩ := tup_new hw h np
  exact q (.ad (.dat (.tuple ds))) _ _ _ _ _ w3 (s.trans s3 hw.lv) d3 hk
theorem Fin.lst {ds : List PyData} {vs : List V} (h : DvA K T ds vs) (np : H p = none) (hk : k (.new (.lst ds)) S) : Q (.ref p) (upd H p (.lst vs)) := by
  obtain ⟨w3, s3, r3⟩ := lst_new hw h np (fun b z => s.ne hw.lv z)
  exact q _ _ _ _ _ _ w3 (s.trans s3 hw.lv) r3 hk
end
class OpV (K : PySem.W.Frag) (r : R2) (f : outParam (PyData → PyData → (RD → Prop) → Prop)) : Prop where
  run : ∀ (TB : List Addr) (S : SS) (σ : L2.St) (ρ0 : List Addr) (T0 H0 H : Hp) (ρ : List Addr) (T : Hp) (v u : V) (d e : PyData) (Q : VK) (k : RD → SS → Prop), Wd K TB S σ H ρ T → Stp ρ0 T0 H0 ρ T H → Vw K T H v d → Vw K T H u e → f d e (fun r => k r S) → Fin K TB σ ρ0 T0 H0 Q k → r v u H Q
instance {r : R2} {f : PyData → PyData → (RD → Prop) → Prop} [hV : OpV K r f] : OpL K TB r (w2 f) where
  run := fun S σ ρ0 T0 H0 H ρ T x y v u Q k w s rx ry h q => by
    obtain ⟨d, hd, h⟩ := vwD_run w rx h
    obtain ⟨e, he, h⟩ := vwD_run w ry h
    exact hV.run TB S σ ρ0 T0 H0 H ρ T v u d e Q k w s hd he h q
def fInt (C : Int → Int → Prop) (g : Int → Int → Int) : PyData → PyData → (RD → Prop) → Prop
  | .int i, .int j, k => C i j ∧ k (.ad (.dat (.int (g i j))))
  | _, _, _ => False
def fAdd : PyData → PyData → (RD → Prop) → Prop
  | .int i, .int j, k => k (.ad (.dat (.int (i + j))))
  | .str a, .str b, k => a.length + b.length ≤ 1000000 ∧ k (.ad (.dat (.str (a ++ b))))
  | .list a, .list b, k => a.length + b.length ≤ 1000000 ∧ k (.new (.lst (a ++ b)))
  | .tuple a, .tuple b, k => a.length + b.length ≤ 1000000 ∧ k (.ad (.dat (.tuple (a ++ b))))
  | _, _, _ => False
def fMul : PyData → PyData → (RD → Prop) → Prop
  | .int i, .int j, k => CMulW i j ∧ k (.ad (.dat (.int (i * j))))
  | .list a, .int j, k => a.length * j.toNat ≤ 1000000 ∧ j ≤ 1000000 ∧ -1000000 ≤ j ∧ k (.new (.lst (List.replicate j.toNat a).flatten))
  | .tuple a, .int j, k => a ≠ [] ∧ a.length ≤ 1000 ∧ j ≤ 1000 ∧ 0 ≤ j ∧ k (.ad (.dat (.tuple (List.replicate j.toNat a).flatten)))
  | _, _, _ => False
def fCmp (g : Int → Int → Bool) : PyData → PyData → (RD → Prop) → Prop
  | .int i, .int j, k => k (.ad (.dat (.bool (g i j))))
  | _, _, _ => False
instance {C : Int → Int → Prop} {g : Int → Int → Int} : OpV K (zInt C g) (fInt C g) where
  run := fun TB S σ ρ0 T0 H0 H ρ T v u d e Q k w s hd he h q => by
    cases d <;> cases e <;> first | exact h.elim | skip
    exact ⟨_, _, hd.int, he.int, h.1, q.int w s h.2⟩
instance {g : Int → Int → Bool} : OpV K (zCmp g) (fCmp g) where
  run := fun TB S σ ρ0 T0 H0 H ρ T v u d e Q k w s hd he h q => by
    cases d <;> cases e <;> first | exact h.elim | skip
    exact ⟨_, _, hd.int, he.int, q.bl w s h⟩
instance : OpV K (zAdd K) fAdd where
  run := fun TB S σ ρ0 T0 H0 H ρ T v u d e Q k w s hd he h q => by
    have sT := w.wm.sT
    cases d <;> cases e <;> first | exact h.elim | skip
    · exact .inl ⟨_, _, hd.int, he.int, trivial, q.int w s h⟩
    · exact .inr (.inl ⟨_, _, hd.str, he.str, size_ok h.1, q.str w s h.2⟩)
    · obtain ⟨a1, xs, rfl, h1, d1⟩ := hd.lst sT
      obtain ⟨a2, ys, rfl, h2, d2⟩ := he.lst sT
      exact .inr (.inr (.inl ⟨a1, a2, xs, ys, rfl, rfl, h1, h2, by rw [d1.len, d2.len]; exact size_ok h.1, fun p np => q.lst w s (d1.app d2) np h.2⟩))
    · obtain ⟨a1, xs, rfl, h1, d1⟩ := hd.tup sT
      obtain ⟨a2, ys, rfl, h2, d2⟩ := he.tup sT
      have hd' : Dv K T (.tuple _) (.ref a1) := hd.elim id fun z => by obtain ⟨_, _, _, _, z, _⟩ := z; cases z
      have he' : Dv K T (.tuple _) (.ref a2) := he.elim id fun z => by obtain ⟨_, _, _, _, z, _⟩ := z; cases z
      refine .inr (.inr (.inr ⟨a1, a2, xs, ys, rfl, rfl, h1, h2, by rw [d1.len, d2.len]; exact size_ok h.1, fun z => ?_, fun _ z => ?_, fun _ _ p np => q.tup w s (d1.app d2) np h.2⟩))
      · have l := d1.len
        rw [z] at l
        have e0 := List.eq_nil_of_length_eq_zero l.symm
        subst e0
        exact q.dat w s he' h.2
      · have l := d2.len
        rw [z] at l
        have e0 := List.eq_nil_of_length_eq_zero l.symm
        subst e0
        have h2 := h.2
        rw [List.append_nil] at h2
        exact q.dat w s hd' h2
instance : OpV K (zMul K) fMul where
  run := fun TB S σ ρ0 T0 H0 H ρ T v u d e Q k w s hd he h q => by
    have sT := w.wm.sT
    cases d <;> cases e <;> first | exact h.elim | skip
    · exact .inl ⟨_, _, hd.int, he.int, h.1, q.int w s h.2⟩
    · obtain ⟨a1, xs, rfl, h1, d1⟩ := hd.lst sT
      obtain ⟨z1, z2, z3, hk⟩ := h
      exact .inr (.inl ⟨a1, _, xs, rfl, he.int, h1, by omega, by omega, by rw [d1.len]; exact size_ok z1, fun p np => q.lst w s (d1.rep _) np hk⟩)
    · obtain ⟨a1, xs, rfl, h1, d1⟩ := hd.tup sT
      obtain ⟨z0, z1, z2, z3, hk⟩ := h
      have hd' : Dv K T (.tuple _) (.ref a1) := hd.elim id fun z => by obtain ⟨_, _, _, _, z, _⟩ := z; cases z
      have l := d1.len
      refine .inr (.inr ⟨a1, _, xs, rfl, he.int, h1, fun z => z0 (List.eq_nil_of_length_eq_zero (by rw [← l, z]; rfl)), z3, z2, by omega, fun z p np => ?_, fun z => ?_, fun _ p np => ?_⟩)
      · subst z
        exact q.tup w s (DvA.rep d1 0) np hk
      · subst z
        have : List.replicate (1 : Int).toNat ‹List PyData› = [‹List PyData›] := rfl
        rw [this, List.flatten_cons, List.flatten_nil, List.append_nil] at hk
        exact q.dat w s hd' hk
      · exact q.tup w s (d1.rep _) np hk
/-- == -/
def eqOk (d e : PyData) : Prop := plainD d = true ∧ plainD e = true ∧ d.depth ≤ 64 ∧ e.depth ≤ 64
def scD : PyData → PyData → Bool
  | .int _, .int _ => true
  | .str _, .str _ => true
  | .bool _, .bool _ => true
  | .none, .none => true
  | .none, .int _ => true
  | .none, .str _ => true
  | .none, .bool _ => true
  | .int _, .none => true
  | .str _, .none => true
  | .bool _, .none => true
  | .int _, .str _ => true
  | .str _, .int _ => true
  | _, _ => false
def fEq (neg : Bool) : PyData → PyData → (RD → Prop) → Prop := fun d e k => (scD d e = true ∨ eqOk d e) ∧ k (.ad (.dat (.bool (if neg then !PyData.eqv d e else PyData.eqv d e))))
theorem sc_vw {d e : PyData} (h : scD d e = true) (hd : Vw K T H v d) (he : Vw K T H u e) : scal v u = true ∧ decide (v = u) = PyData.eqv d e := by
  have nn : ∀ {v}, Vw K T H v .none → v = .non := fun h => h.elim id fun ⟨_, _, _, _, z, _⟩ => by cases z
  cases d <;> cases e <;> first | (cases h) | skip
  · rw [nn hd, nn he]; exact ⟨rfl, rfl⟩
  · rw [nn hd, he.bl]; exact ⟨rfl, rfl⟩
  · rw [nn hd, he.int]; exact ⟨rfl, rfl⟩
  · rw [nn hd, he.str]; exact ⟨rfl, rfl⟩
  · rw [hd.bl, nn he]; exact ⟨rfl, rfl⟩
  · rename_i a b; rw [hd.bl, he.bl]; exact ⟨rfl, by cases a <;> cases b <;> rfl⟩
  · rw [hd.int, nn he]; exact ⟨rfl, rfl⟩
  · rename_i a b
    rw [hd.int, he.int]
    exact ⟨rfl, by rw [dec_int]; rfl⟩
  · rw [hd.int, he.str]; exact ⟨rfl, rfl⟩
  · rw [hd.str, nn he]; exact ⟨rfl, rfl⟩
  · rw [hd.str, he.int]; exact ⟨rfl, rfl⟩
  · rename_i a b
    rw [hd.str, he.str]
    refine ⟨rfl, ?_⟩
    show decide (V.str a = V.str b) = (a == b)
    rw [Bool.eq_iff_iff, decide_eq_true_iff, beq_iff_eq]
    exact ⟨fun z => by cases z; rfl, fun z => by rw [z]⟩
instance : OpV K (zEq K) (fEq false) where
  run := fun TB S σ ρ0 T0 H0 H ρ T v u d e Q k w s hd he h q => by
    obtain ⟨h1, hk⟩ := h
    rcases h1 with h1 | ⟨p1, p2, p3, p4⟩
    · obtain ⟨z1, z2⟩ := sc_vw h1 hd he
      exact .inl ⟨z1, by rw [z2]; exact q.bl w s hk⟩
    · exact .inr (eq_ans (hd.dp w.wm.sT p1) (he.dp w.wm.sT p2) p1 p2 p3 p4 (q.bl w s hk))
instance : OpV K (zNe K) (fEq true) where
  run := fun TB S σ ρ0 T0 H0 H ρ T v u d e Q k w s hd he h q => by
    obtain ⟨h1, hk⟩ := h
    rcases h1 with h1 | ⟨p1, p2, p3, p4⟩
    · obtain ⟨z1, z2⟩ := sc_vw h1 hd he
      exact .inl ⟨z1, by rw [z2]; exact q.bl w s hk⟩
    · exact .inr (ne_ans (hd.dp w.wm.sT p1) (he.dp w.wm.sT p2) p1 p2 p3 p4 (q.bl w s hk))
/-- is None, is True; not so -/
def isNonD : PyData → Bool
  | .none => true
  | _ => false
def wIs (neg : Bool) : RD → RD → SS → (RD → SS → Prop) → Prop := fun x y S k => match x, y with
  | .ad (.dat d), .ad (.dat .none) => k (.ad (.dat (.bool (if neg then !isNonD d else isNonD d)))) S
  | .ad (.dat (.bool a)), .ad (.dat (.bool b)) => k (.ad (.dat (.bool (if neg then !decide (a = b) else decide (a = b))))) S
  | .ad (.loc j), .ad (.dat .none) => k (.ad (.dat (.bool neg))) S
  | .new _, .ad (.dat .none) => k (.ad (.dat (.bool neg))) S
  | _, _ => False
theorem isNon_dec {d : PyData} (h : Dv K T d v) : decide (v = .non) = isNonD d := by
  cases d with
  | none => cases h; rfl
  | bool _ => cases h; rfl
  | int _ => cases h; rfl
  | str _ => cases h; rfl
  | list _ => obtain ⟨a, xs, rfl, _⟩ := h; rfl
  | tuple _ => obtain ⟨a, xs, rfl, _⟩ := h; rfl
  | dict ks =>
    cases ks with
    | nil => obtain ⟨a, rfl, _⟩ := h; rfl
    | cons _ _ => exact h.elim
instance : OpL K TB zIs (wIs false) where
  run := fun S σ ρ0 T0 H0 H ρ T x y v u Q k w s rx ry h q => by
    unfold wIs at h
    have fin : Fin K TB σ ρ0 T0 H0 Q k := q
    split at h
    · cases (show u = _ from ry)
      exact .inl ⟨rfl, by rw [isNon_dec rx]; exact fin.bl w s h⟩
    · exact .inr ⟨_, _, rx, ry, fin.bl w s h⟩
    · cases (show u = _ from ry)
      obtain ⟨a, _, rfl⟩ := rx
      exact .inl ⟨rfl, fin.bl w s h⟩
    · cases (show u = _ from ry)
      obtain ⟨a, rfl, _⟩ := rx
      exact .inl ⟨rfl, fin.bl w s h⟩
    · exact h.elim
instance : OpL K TB zIsn (wIs true) where
  run := fun S σ ρ0 T0 H0 H ρ T x y v u Q k w s rx ry h q => by
    unfold wIs at h
    have fin : Fin K TB σ ρ0 T0 H0 Q k := q
    split at h
    · cases (show u = _ from ry)
      exact .inl ⟨rfl, by rw [isNon_dec rx]; exact fin.bl w s h⟩
    · exact .inr ⟨_, _, rx, ry, fin.bl w s h⟩
    · cases (show u = _ from ry)
      obtain ⟨a, _, rfl⟩ := rx
      exact .inl ⟨rfl, fin.bl w s h⟩
    · cases (show u = _ from ry)
      obtain ⟨a, rfl, _⟩ := rx
      exact .inl ⟨rfl, fin.bl w s h⟩
    · exact h.elim
/-- in -/
def flatD : PyData → Bool
  | .none => true
  | .bool _ => true
  | .int _ => true
  | .str _ => true
  | _ => false
def inD (d : PyData) (ds : List PyData) : Bool := ds.any fun z => PyData.eqv z d
def fIn (neg : Bool) : PyData → PyData → (RD → Prop) → Prop
  | d, .list ds, k => ((flatD d = true ∧ ds.all flatD = true) ∨ (plainD d = true ∧ plainAll ds = true ∧ d.depth ≤ 64 ∧ (PyData.list ds).depth ≤ 64)) ∧ k (.ad (.dat (.bool (if neg then !inD d ds else inD d ds))))
  | d, .tuple ds, k => (flatD d = true ∧ ds.all flatD = true) ∧ k (.ad (.dat (.bool (if neg then !inD d ds else inD d ds))))
  | .str ⟨cs⟩, .str z, k => match cs.toList with
    | [c] => k (.ad (.dat (.bool (if neg then !decide (c ∈ z.cps.toList) else decide (c ∈ z.cps.toList)))))
    | _ => False
  | _, _, _ => False
theorem flat_v {d : PyData} (h : Dv K T d v) (f : flatD d = true) : flatV v = true := by
  cases d <;> first | (cases f; done) | (cases h; rfl)
theorem flat_vs : ∀ {ds : List PyData} {vs : List V}, DvA K T ds vs → ds.all flatD = true → vs.all flatV = true
  | [], _, h, _ => by cases (show _ = _ from h); rfl
  | d :: ds, _, ⟨v, vs, e, h, r⟩, f => by
    subst e
    rw [List.all_cons, Bool.and_eq_true] at f
    rw [List.all_cons, flat_v h f.1, flat_vs r f.2]
    rfl
theorem eqV_eqv {d e : PyData} (h : Dv K T d v) (g : Dv K T e u) (f1 : flatD d = true) (f2 : flatD e = true) : eqV v u = PyData.eqv d e := by
  cases d <;> cases e <;> first | (cases f1; done) | (cases f2; done) | (cases h; cases g; rfl)
theorem inV_inD {d : PyData} (h : Dv K T d v) (f : flatD d = true) : ∀ {ds : List PyData} {vs : List V}, DvA K T ds vs → ds.all flatD = true → inV v vs = inD d ds
  | [], _, h, _ => by cases (show _ = _ from h); rfl
  | e :: ds, _, ⟨u, vs, q, g, r⟩, fs => by
    subst q
    rw [List.all_cons, Bool.and_eq_true] at fs
    have ih := inV_inD h f r fs.2
    unfold inV inD at ih ⊢
    rw [List.any_cons, List.any_cons, ih, eqV_eqv g h fs.1 f]
theorem fIn_run {neg : Bool} {d e : PyData} (w : Wd K TB S σ H ρ T) (hd : Vw K T H v d) (he : Vw K T H u e) {kk : RD → Prop} (h : fIn neg d e kk) :
    (rIn K neg v u H fun z H' => ∃ b, z = .bl b ∧ H' = H ∧ kk (.ad (.dat (.bool b)))) ∨
    (∃ ds, e = .list ds ∧ Dp K H v d ∧ Dp K H u (.list ds) ∧ SeqAt.shaped d = true ∧ SeqAt.shaped (.list ds) = true ∧ kk (.ad (.dat (.bool (if neg then !inD d ds else inD d ds))))) ∨
    (∃ (c : Nat) (z : Str), v = .str ⟨#[c]⟩ ∧ u = .str z ∧ kk (.ad (.dat (.bool (if neg then !decide (c ∈ z.cps.toList) else decide (c ∈ z.cps.toList)))))) := by
  have sT := w.wm.sT
  have flat : ∀ {ds : List PyData} {a : Addr} {xs : List V}, (flatD d = true ∧ ds.all flatD = true) → u = .ref a → (SqL K H a xs ∨ SqT K H a xs) → DvA K T ds xs → kk (.ad (.dat (.bool (if neg then !inD d ds else inD d ds)))) →
      rIn K neg v u H fun z H' => ∃ b, z = .bl b ∧ H' = H ∧ kk (.ad (.dat (.bool b))) := fun {ds a xs} hf eu hs hxs hk => by
    have hd' : Dv K T d v := hd.elim id fun ⟨_, _, _, _, z, _⟩ => by subst z; cases hf.1
    exact ⟨a, xs, eu, hs, flat_v hd' hf.1, flat_vs hxs hf.2, _, rfl, rfl, by rw [inV_inD hd' hf.1 hxs hf.2]; exact hk⟩
  cases e with
  | list ds =>
    obtain ⟨h1, hk⟩ := h
    obtain ⟨a, xs, rfl, e1, d1⟩ := he.lst sT
    rcases h1 with h1 | ⟨p1, p2, p3, p4⟩
    · exact .inl (flat h1 rfl (.inl (.inl (.inl e1))) d1 hk)
    · exact .inr (.inl ⟨ds, rfl, hd.dp sT p1, he.dp sT p2, plain_shaped p1 p3, plain_shaped (d := .list ds) p2 p4, hk⟩)
  | tuple ds =>
    obtain ⟨h1, hk⟩ := h
    obtain ⟨a, xs, rfl, e1, d1⟩ := he.tup sT
    exact .inl (flat h1 rfl (.inr e1) d1 hk)
  | str z =>
    cases d with
    | str y =>
      obtain ⟨cs⟩ := y
      have h' : (match cs.toList with
        | [c] => kk (.ad (.dat (.bool (if neg then !decide (c ∈ z.cps.toList) else decide (c ∈ z.cps.toList)))))
        | _ => False) := h
      split at h'
      · rename_i c e1
        have e2 : cs = #[c] := by rw [← Array.toArray_toList (xs := cs), e1]
        subst e2
        exact .inr (.inr ⟨c, z, hd.str, he.str, h'⟩)
      · exact h'.elim
    | _ => exact h.elim
  | _ => cases d <;> exact h.elim
theorem rIn_mono {neg : Bool} {Q Q' : VK} (h : rIn K neg v u H Q) (m : ∀ z H', Q z H' → Q' z H') : rIn K neg v u H Q' := by
  obtain ⟨p, xs, a, b, c, d, q⟩ := h
  exact ⟨p, xs, a, b, c, d, m _ _ q⟩
instance : OpV K (zIn K) (fIn false) where
  run := fun TB S σ ρ0 T0 H0 H ρ T v u d e Q k w s hd he h q => by
    rcases fIn_run w hd he h with h | ⟨ds, rfl, h1, h2, h3, h4, hk⟩ | ⟨c, z, h1, h2, hk⟩
    · exact .inl (rIn_mono h fun z H' ⟨b, e1, e2, hk⟩ => by subst e1 e2; exact q.bl w s hk)
    · exact .inr (.inl ⟨d, ds, h1, h2, h3, h4, q.bl w s hk⟩)
    · exact .inr (.inr ⟨c, z, h1, h2, q.bl w s hk⟩)
instance : OpV K (zNi K) (fIn true) where
  run := fun TB S σ ρ0 T0 H0 H ρ T v u d e Q k w s hd he h q => by
    rcases fIn_run w hd he h with h | ⟨ds, rfl, h1, h2, h3, h4, hk⟩ | ⟨c, z, h1, h2, hk⟩
    · exact .inl (rIn_mono h fun z H' ⟨b, e1, e2, hk⟩ => by subst e1 e2; exact q.bl w s hk)
    · exact .inr (.inl ⟨d, ds, h1, h2, h3, h4, q.bl w s hk⟩)
    · exact .inr (.inr ⟨c, z, h1, h2, q.bl w s hk⟩)
/-- xs[i] -/
def fIx : PyData → PyData → (RD → Prop) → Prop
  | .list ds, .int i, k => ∃ d, atI ds i = some d ∧ k (.ad (.dat d))
  | .tuple ds, .int i, k => ∃ d, atI ds i = some d ∧ k (.ad (.dat d))
  | .str z, .int i, k => z.length ≤ 1000000 ∧ ∃ c, atI z.cps.toList i = some c ∧ k (.ad (.dat (.str ⟨#[c]⟩)))
  | _, _, _ => False
theorem at_dv {ds : List PyData} {vs : List V} (h : DvA K T ds vs) {i : Int} {d : PyData} (e : atI ds i = some d) : ∃ v, atI vs i = some v ∧ Dv K T d v := by
  unfold atI at e ⊢
  rw [h.len]
  cases q : ixN ds.length i with
  | none => rw [q] at e; cases e
  | some j =>
    rw [q] at e
    obtain ⟨v, e1, e2⟩ := h.at (show ds[j]? = some d from e)
    exact ⟨v, e1, e2⟩
instance : OpV K (rIx K) fIx where
  run := fun TB S σ ρ0 T0 H0 H ρ T v u d e Q k w s hd he h q => by
    have sT := w.wm.sT
    cases d <;> cases e <;> first | exact h.elim | skip
    · obtain ⟨hl, c, hc, hk⟩ := h
      exact .inr (.inr ⟨_, _, c, hd.str, he.int, size_ok hl, hc, q.str w s hk⟩)
    · obtain ⟨a1, xs, rfl, h1, d1⟩ := hd.lst sT
      obtain ⟨d, hd, hk⟩ := h
      obtain ⟨v, e1, e2⟩ := at_dv d1 hd
      exact .inl ⟨a1, xs, _, v, rfl, he.int, .inl (.inl h1), e1, q.dat w s e2 hk⟩
    · obtain ⟨a1, xs, rfl, h1, d1⟩ := hd.tup sT
      obtain ⟨d, hd, hk⟩ := h
      obtain ⟨v, e1, e2⟩ := at_dv d1 hd
      exact .inr (.inl ⟨a1, xs, _, v, rfl, he.int, h1, e1, q.dat w s e2 hk⟩)
/-! ### calls of one value -/
def w1 (f : PyData → (RD → Prop) → Prop) : List RD → SS → (RD → SS → Prop) → Prop := fun xs S k => match xs with
  | [x] => vwD x S fun d => f d fun r => k r S
  | _ => False
class CbV (K : PySem.W.Frag) (r : List V → Hp → VK → Prop) (f : outParam (PyData → (RD → Prop) → Prop)) : Prop where
  run : ∀ (TB : List Addr) (S : SS) (σ : L2.St) (ρ0 : List Addr) (T0 H0 H : Hp) (ρ : List Addr) (T : Hp) (v : V) (d : PyData) (Q : VK) (k : RD → SS → Prop), Wd K TB S σ H ρ T → Stp ρ0 T0 H0 ρ T H → Vw K T H v d → f d (fun r => k r S) → Fin K TB σ ρ0 T0 H0 Q k → r [v] H Q
instance {r : List V → Hp → VK → Prop} {f : PyData → (RD → Prop) → Prop} [hV : CbV K r f] : CbL K TB r (w1 f) where
  run := fun S σ ρ0 T0 H0 H ρ T xs vs Q k w s rx h q => by
    unfold w1 at h
    split at h
    · rename_i x
      obtain ⟨v, us, Hm, e, hr, b1, b2, e2⟩ := rx
      cases (show us = _ from e2)
      subst e
      obtain ⟨d, hd, h⟩ := vwD_run w hr h
      exact hV.run TB S σ ρ0 T0 H0 H ρ T v d Q k w s hd h q
    · exact h.elim
def fLen : PyData → (RD → Prop) → Prop
  | .list ds, k => k (.ad (.dat (.int ds.length)))
  | .tuple ds, k => k (.ad (.dat (.int ds.length)))
  | .str z, k => z.length ≤ 1000000 ∧ k (.ad (.dat (.int z.length)))
  | _, _ => False
instance : CbV K (zLen K) fLen where
  run := fun TB S σ ρ0 T0 H0 H ρ T v d Q k w s hd h q => by
    have sT := w.wm.sT
    cases d <;> first | exact h.elim | skip
    · exact .inr ⟨_, by rw [hd.str], size_ok h.1, q.int w s h.2⟩
    · obtain ⟨a1, xs, rfl, h1, d1⟩ := hd.lst sT
      exact .inl ⟨a1, xs, rfl, .inl (.inl (.inl h1)), by rw [d1.len]; exact q.int w s h⟩
    · obtain ⟨a1, xs, rfl, h1, d1⟩ := hd.tup sT
      exact .inl ⟨a1, xs, rfl, .inr h1, by rw [d1.len]; exact q.int w s h⟩
def fTupOf : PyData → (RD → Prop) → Prop
  | .list ds, k => k (.ad (.dat (.tuple ds)))
  | .tuple ds, k => k (.ad (.dat (.tuple ds)))
  | _, _ => False
instance : CbV K (zTupOf K) fTupOf where
  run := fun TB S σ ρ0 T0 H0 H ρ T v d Q k w s hd h q => by
    have sT := w.wm.sT
    cases d <;> first | exact h.elim | skip
    · obtain ⟨a1, xs, rfl, h1, d1⟩ := hd.lst sT
      exact ⟨a1, xs, rfl, .inl ⟨.inl (.inl h1), fun p np => q.tup w s d1 np h⟩⟩
    · have hd' : Dv K T (.tuple _) v := hd.elim id fun ⟨_, _, _, _, z, _⟩ => by cases z
      obtain ⟨a1, xs, rfl, h1, d1⟩ := hd.tup sT
      exact ⟨a1, xs, rfl, .inr ⟨h1, q.dat w s hd' h⟩⟩
def fListOf : PyData → (RD → Prop) → Prop
  | .list ds, k => k (.new (.lst ds))
  | .tuple ds, k => k (.new (.lst ds))
  | _, _ => False
instance : CbV K (zListOf K) fListOf where
  run := fun TB S σ ρ0 T0 H0 H ρ T v d Q k w s hd h q => by
    have sT := w.wm.sT
    cases d <;> first | exact h.elim | skip
    · obtain ⟨a1, xs, rfl, h1, d1⟩ := hd.lst sT
      exact ⟨a1, xs, rfl, .inl (.inl (.inl h1)), fun p np => q.lst w s d1 np h⟩
    · obtain ⟨a1, xs, rfl, h1, d1⟩ := hd.tup sT
      exact ⟨a1, xs, rfl, .inr h1, fun p np => q.lst w s d1 np h⟩
def fIntOf : PyData → (RD → Prop) → Prop
  | .int i, k => k (.ad (.dat (.int i)))
  | .bool b, k => k (.ad (.dat (.int (if b then 1 else 0))))
  | _, _ => False
instance : CbV K zIntOf fIntOf where
  run := fun TB S σ ρ0 T0 H0 H ρ T v d Q k w s hd h q => by
    cases d <;> first | exact h.elim | skip
    · exact .inr ⟨_, by rw [hd.bl], q.int w s h⟩
    · exact .inl ⟨_, by rw [hd.int], q.int w s h⟩
def fAbs : PyData → (RD → Prop) → Prop
  | .int i, k => k (.ad (.dat (.int (if i < 0 then -i else i))))
  | _, _ => False
instance : CbV K zAbs fAbs where
  run := fun TB S σ ρ0 T0 H0 H ρ T v d Q k w s hd h q => by
    cases d <;> first | exact h.elim | skip
    exact ⟨_, by rw [hd.int], q.int w s h⟩
def fStrI : PyData → (RD → Prop) → Prop
  | .int i, k => i.natAbs < 2 ^ 64 ∧ k (.ad (.dat (.str (toString i))))
  | _, _ => False
theorem log_ok {i : Int} (h : i.natAbs < 2 ^ 64) : i.natAbs.log2 < 1920 := by
  have := PySem.Flt.log2_lt_of (by decide) h
  omega
instance : CbV K zStrI fStrI where
  run := fun TB S σ ρ0 T0 H0 H ρ T v d Q k w s hd h q => by
    cases d with
    | int i =>
      obtain ⟨h1, h2⟩ := h
      exact ⟨i, by rw [hd.int], log_ok h1, q.str w s h2⟩
    | _ => exact h.elim
def fBool : PyData → (RD → Prop) → Prop
  | .int i, k => k (.ad (.dat (.bool (i != 0))))
  | .bool b, k => k (.ad (.dat (.bool b)))
  | _, _ => False
instance : CbV K zBool fBool where
  run := fun TB S σ ρ0 T0 H0 H ρ T v d Q k w s hd h q => by
    cases d <;> first | exact h.elim | skip
    · exact .inr ⟨_, by rw [hd.bl], q.bl w s h⟩
    · exact .inl ⟨_, by rw [hd.int], q.bl w s h⟩
/-- repr -/
def reprOk (d : PyData) : Prop := isDisplay d = true ∧ plainD d = true ∧ d.depth < 40 ∧ bulk d ≤ 10000000
def fRepr : PyData → (RD → Prop) → Prop
  | .bool b, k => k (.ad (.dat (.str (blS b))))
  | d, k => reprOk d ∧ k (.ad (.dat (.str d.shown)))
instance : CbV K (zRepr K) fRepr where
  run := fun TB S σ ρ0 T0 H0 H ρ T v d Q k w s hd h q => by
    have big : ∀ {e}, Vw K T H v e → reprOk e → k (.ad (.dat (.str e.shown))) S → zRepr K [v] H Q := fun {e} hd ⟨h1, h2, h3, h4⟩ hk =>
      .inl (repr_ans (hd.dp w.wm.sT h2) h1 h2 h3 (Nat.le_trans h4 (by decide)) (q.str w s hk))
    cases d with
    | bool b => exact .inr ⟨_, by rw [hd.bl], q.str w s h⟩
    | _ => exact big hd h.1 h.2
/-- the sum of ints, sorted ints -/
def intsOf : List PyData → Option (List Int)
  | [] => some []
  | .int i :: ds => (intsOf ds).map (i :: ·)
  | _ => none
theorem intsOf_eq : ∀ {ds : List PyData} {ns : List Int}, intsOf ds = some ns → ds = ns.map PyData.int
  | [], ns, h => by cases h; rfl
  | .int i :: ds, ns, h => by
    have h' : (intsOf ds).map (i :: ·) = some ns := h
    cases e : intsOf ds with
    | none => rw [e] at h'; cases h'
    | some ms =>
      rw [e] at h'
      cases h'
      rw [intsOf_eq e]
      rfl
  | .none :: ds, ns, h => by cases h
  | .bool _ :: ds, ns, h => by cases h
  | .str _ :: ds, ns, h => by cases h
  | .list _ :: ds, ns, h => by cases h
  | .tuple _ :: ds, ns, h => by cases h
  | .dict _ :: ds, ns, h => by cases h
theorem intsOf_map : ∀ ns : List Int, intsOf (ns.map PyData.int) = some ns
  | [] => rfl
  | n :: r => by show (intsOf (r.map PyData.int)).map (n :: ·) = _; rw [intsOf_map r]; rfl
def fSum : PyData → (RD → Prop) → Prop
  | .list ds, k => ∃ ns, intsOf ds = some ns ∧ k (.ad (.dat (.int ns.sum)))
  | _, _ => False
instance : CbV K (rSum K) fSum where
  run := fun TB S σ ρ0 T0 H0 H ρ T v d Q k w s hd h q => by
    cases d <;> first | exact h.elim | skip
    obtain ⟨ns, e, hk⟩ := h
    obtain ⟨a1, xs, rfl, h1, d1⟩ := hd.lst w.wm.sT
    rw [intsOf_eq e] at d1
    rw [d1.of_ints] at h1
    exact ⟨a1, ns, rfl, .inl (.inl h1), q.int w s hk⟩
/-! ### calls of two ints -/
def w2I (g : Int → Int → Int) : List RD → SS → (RD → SS → Prop) → Prop := fun xs S k => match xs with
  | [.ad (.dat (.int i)), .ad (.dat (.int j))] => k (.ad (.dat (.int (g i j)))) S
  | _ => False
theorem two_run {i j : Int} {vs : List V} (h : RRs K T ρ H H0 [.ad (.dat (.int i)), .ad (.dat (.int j))] vs) : vs = [.int i, .int j] := by
  obtain ⟨v, us, Hm, e, hr, _, _, v2, us2, Hm2, e2, hr2, _, _, e3⟩ := h
  cases (show us2 = _ from e3)
  have r1 : v = .int i := hr
  have r2 : v2 = .int j := hr2
  rw [e, e2, r1, r2]
instance : CbL K TB zMin2 (w2I fun i j => if j < i then j else i) where
  run := fun S σ ρ0 T0 H0 H ρ T xs vs Q k w s rx h q => by
    unfold w2I at h
    split at h
    · exact ⟨_, _, two_run rx, Fin.int q w s h⟩
    · exact h.elim
instance : CbL K TB zMax2 (w2I fun i j => if j > i then j else i) where
  run := fun S σ ρ0 T0 H0 H ρ T xs vs Q k w s rx h q => by
    unfold w2I at h
    split at h
    · exact ⟨_, _, two_run rx, Fin.int q w s h⟩
    · exact h.elim
/-! ### isinstance -/
def wIsi : List RD → SS → (RD → SS → Prop) → Prop := fun xs S k => match xs with
  | [x, .ad (.val (.ty n))] => vwD x S fun d =>
    (n = "int" ∧ k (.ad (.dat (.bool (isIntD d || isBoolD d)))) S) ∨ (n = "bool" ∧ k (.ad (.dat (.bool (isBoolD d)))) S) ∨ (n = "tuple" ∧ k (.ad (.dat (.bool (isTupD d)))) S) ∨
    (n = "list" ∧ k (.ad (.dat (.bool (isLstD d)))) S) ∨ (n = "str" ∧ k (.ad (.dat (.bool (isStrD d)))) S)
  | _ => False
theorem Vw.ask {d : PyData} (h : Vw K T H v d) (s : Same T H) :
    ∃ t, TyX K H v t ∧ PySem.W.kitOne K t (.type "int") = some (isIntD d || isBoolD d) ∧ PySem.W.kitOne K t (.type "bool") = some (isBoolD d) ∧
      PySem.W.kitOne K t (.type "tuple") = some (isTupD d) ∧ PySem.W.kitOne K t (.type "list") = some (isLstD d) ∧ PySem.W.kitOne K t (.type "str") = some (isStrD d) := by
  have lst : ∀ {a : Addr} {xs : List V}, H a = some (.lst xs) → ∃ t, TyX K H (.ref a) t ∧ PySem.W.kitOne K t (.type "int") = some false ∧ PySem.W.kitOne K t (.type "bool") = some false ∧
      PySem.W.kitOne K t (.type "tuple") = some false ∧ PySem.W.kitOne K t (.type "list") = some true ∧ PySem.W.kitOne K t (.type "str") = some false := fun e =>
    ⟨_, .base (.lst e), kit_ty (r := false) (by decide +kernel), kit_ty (r := false) (by decide +kernel), kit_ty (r := false) (by decide +kernel), kit_ty (r := true) (by decide +kernel), kit_ty (r := false) (by decide +kernel)⟩
  rcases h with h | ⟨a, vs, ds, rfl, rfl, e, _⟩
  · cases d with
    | none => cases h; exact ⟨_, .base .non, kit_ty (r := false) (by decide +kernel), kit_ty (r := false) (by decide +kernel), kit_ty (r := false) (by decide +kernel), kit_ty (r := false) (by decide +kernel), kit_ty (r := false) (by decide +kernel)⟩
    | bool b => cases h; exact ⟨_, .base (.bl b), kit_ty (r := true) (by decide +kernel), kit_ty (r := true) (by decide +kernel), kit_ty (r := false) (by decide +kernel), kit_ty (r := false) (by decide +kernel), kit_ty (r := false) (by decide +kernel)⟩
    | int i => cases h; exact ⟨_, .base (.int i), kit_ty (r := true) (by decide +kernel), kit_ty (r := false) (by decide +kernel), kit_ty (r := false) (by decide +kernel), kit_ty (r := false) (by decide +kernel), kit_ty (r := false) (by decide +kernel)⟩
    | str x => cases h; exact ⟨_, .base (.str x), kit_ty (r := false) (by decide +kernel), kit_ty (r := false) (by decide +kernel), kit_ty (r := false) (by decide +kernel), kit_ty (r := false) (by decide +kernel), kit_ty (r := true) (by decide +kernel)⟩
    | list ds =>
      obtain ⟨a, xs, rfl, e, _⟩ := h
      exact lst (s _ _ e)
    | tuple ds =>
      obtain ⟨a, xs, rfl, e, _⟩ := h
      have base : ∃ t, TyX K H (.ref a) t ∧ t = .type "tuple" := by
        rcases Same.seqT s e with (e | ⟨o, e⟩) | ⟨o, its, n, e, c, _⟩
        · exact ⟨_, .base (.tup e), rfl⟩
        · exact ⟨_, .fTuple e, rfl⟩
        · exact ⟨_, .kTuple e c, rfl⟩
      obtain ⟨t, ht, rfl⟩ := base
      exact ⟨_, ht, kit_ty (r := false) (by decide +kernel), kit_ty (r := false) (by decide +kernel), kit_ty (r := true) (by decide +kernel), kit_ty (r := false) (by decide +kernel), kit_ty (r := false) (by decide +kernel)⟩
    | dict ks =>
      cases ks with
      | cons _ _ => exact h.elim
      | nil =>
        obtain ⟨a, rfl, e⟩ := h
        exact ⟨_, .base (.dK (s _ _ e)), kit_ty (r := false) (by decide +kernel), kit_ty (r := false) (by decide +kernel), kit_ty (r := false) (by decide +kernel), kit_ty (r := false) (by decide +kernel), kit_ty (r := false) (by decide +kernel)⟩
  · exact lst e
instance : CbL K TB (rIsi K) wIsi where
  run := fun S σ ρ0 T0 H0 H ρ T xs vs Q k w s rx h q => by
    have fin : Fin K TB σ ρ0 T0 H0 Q k := q
    unfold wIsi at h
    split at h
    · rename_i x n
      obtain ⟨v, us, Hm, e, hr, _, _, v2, us2, Hm2, e2, hr2, _, _, e3⟩ := rx
      cases (show us2 = _ from e3)
      cases (show v2 = _ from hr2)
      subst e e2
      obtain ⟨d, hd, h⟩ := vwD_run w hr h
      obtain ⟨t, ty, h1, h2, h3, h4, h5⟩ := hd.ask w.wm.sT
      rcases h with ⟨rfl, hk⟩ | ⟨rfl, hk⟩ | ⟨rfl, hk⟩ | ⟨rfl, hk⟩ | ⟨rfl, hk⟩
      · exact ⟨v, _, t, _, _, rfl, .ty _, ty, h1, fin.bl w s hk⟩
      · exact ⟨v, _, t, _, _, rfl, .ty _, ty, h2, fin.bl w s hk⟩
      · exact ⟨v, _, t, _, _, rfl, .ty _, ty, h3, fin.bl w s hk⟩
      · exact ⟨v, _, t, _, _, rfl, .ty _, ty, h4, fin.bl w s hk⟩
      · exact ⟨v, _, t, _, _, rfl, .ty _, ty, h5, fin.bl w s hk⟩
    · exact h.elim
/-- isinstance(x, (list, tuple)) -/
def wIsLT (we : WE) : WE := fun S k => we S fun r S1 => vwD r S1 fun d => k (.ad (.dat (.bool (isLstD d || isTupD d)))) S1
theorem kit_lt {d : PyData} (h : Vw K T H v d) (s : Same T H) : ∃ t, TyX K H v t ∧ PySem.W.kitAny K t [.type "list", .type "tuple"] = some (isLstD d || isTupD d) := by
  obtain ⟨t, ty, _, _, h3, h4, _⟩ := h.ask s
  refine ⟨t, ty, kitAny_cons h4 (fun e => kitAny_cons h3 (fun e2 => ?_) (fun e2 => ?_)) (fun e => ?_)⟩
  · rw [e, e2]; rfl
  · rw [e2, Bool.or_true]
  · rw [e]; rfl
instance [hE : DEc K TB E Ex te we] : DEc K TB E Ex (tCB (rIsiT K) (tCons te (tCons (tTup (tCons (tC (.ty "list")) (tCons (tC (.ty "tuple")) tNil))) tNil))) (wIsLT we) where
  run := fun S σ H ρ T Q k w rx h q => by
    refine hE.run S σ H ρ T _ _ w rx h fun r S1 H1 ρ1 T1 v w1 s1 r1 h1 => ?_
    obtain ⟨d, hd, hk⟩ := vwD_run w1 r1 h1
    refine ⟨(show (2 : Nat) ≤ sizeLine by decide), fun p np => ?_⟩
    obtain ⟨w2, s2⟩ := w1.by np (.tup [.ty "list", .ty "tuple"])
    have hd2 : Vw K T1 (upd H1 p (.tup [.ty "list", .ty "tuple"])) v d := by
      rcases hd with hd | ⟨a, vs, ds, e1, e2, e3, e4⟩
      · exact .inl hd
      · exact .inr ⟨a, vs, ds, e1, e2, by rw [upd_ne (ne_of_none e3 np)]; exact e3, e4⟩
    obtain ⟨t, ty, ka⟩ := kit_lt hd2 w2.wm.sT
    exact ⟨v, p, _, t, _, _, rfl, upd_same, .cons (.ty _) (.cons (.ty _) .nil), ty, ka, q (.ad (.dat (.bool (isLstD d || isTupD d)))) _ _ _ _ _ w2 (s1.trans s2 w1.lv) rfl hk⟩
end
end Zd
end

section
set_option maxHeartbeats 1000000
/-! The second layer: tests, slices, lists' methods. -/
namespace Zd
open PySem PySem.Spec PyProof.Rows L2 Zc
section
variable {K : PySem.W.Frag} {TB : List Addr} {E : XK} {Ex : XD → Prop} {T T' H H' H0 : Hp} {ρ ρ' : List Addr} {S S' : SS} {σ : L2.St} {p a b : Addr} {v u : V} {x y r : RD} {te ta tb tc : TE} {we wa wb wc : WE} {t : TA} {w : WA} {i j : Nat} {Q : VK} {k : RD → SS → Prop} {tt tt' : TT} {wt wt' : WT}
/-- a truth -/
def asB (r : RD) (k : Bool → Prop) : Prop := match r with
  | .ad (.dat (.bool b)) => k b
  | _ => False
theorem asB_run {k : Bool → Prop} (hr : RR K T ρ H H0 r v) (h : asB r k) : ∃ b, v = .bl b ∧ r = .ad (.dat (.bool b)) ∧ k b := by
  unfold asB at h
  split at h
  · exact ⟨_, hr, rfl, h⟩
  · exact h.elim
def wTest (we : WE) : WT := fun S k => we S fun r S1 => asB r fun b => k b S1
instance [hE : DEc K TB E Ex te we] : DTc K TB E Ex (tTest te) (wTest we) where
  run := fun S σ H ρ T Q k w rx h q => hE.run S σ H ρ T _ _ w rx h fun r S1 H1 ρ1 T1 v w1 s1 r1 h1 => by
    obtain ⟨b, rfl, _, hk⟩ := asB_run r1 h1
    exact ⟨b, rfl, q _ _ _ _ _ w1 s1 hk⟩
instance [hE : DEc K TB E Ex te we] : DTc K TB E Ex (tB te) (wTest we) where
  run := fun S σ H ρ T Q k w rx h q => hE.run S σ H ρ T _ _ w rx h fun r S1 H1 ρ1 T1 v w1 s1 r1 h1 => by
    obtain ⟨b, rfl, _, hk⟩ := asB_run r1 h1
    exact ⟨b, rfl, q _ _ _ _ _ w1 s1 hk⟩
def truD : PyData → (Bool → Prop) → Prop
  | .none, k => k false
  | .bool b, k => k b
  | .int i, k => k (i != 0)
  | .str z, k => z.length ≤ 1000000 ∧ k ((z.length : Int) != 0)
  | .list ds, k => k (!ds.isEmpty)
  | .tuple ds, k => k (!ds.isEmpty)
  | .dict _, _ => False
theorem truD_run {d : PyData} {k : Bool → Prop} (w : Wd K TB S σ H ρ T) (hd : Vw K T H v d) (h : truD d k) : ∃ b, TruV K v H b ∧ k b := by
  have sT := w.wm.sT
  have nn : ∀ {v}, Vw K T H v .none → v = .non := fun h => h.elim id fun ⟨_, _, _, _, z, _⟩ => by cases z
  cases d with
  | none => rw [nn hd]; exact ⟨_, rfl, h⟩
  | bool b => rw [hd.bl]; exact ⟨_, rfl, h⟩
  | int i => rw [hd.int]; exact ⟨_, rfl, h⟩
  | str z => rw [hd.str]; exact ⟨_, ⟨size_ok h.1, rfl⟩, h.2⟩
  | list ds =>
    obtain ⟨a, xs, rfl, e, d1⟩ := hd.lst sT
    refine ⟨_, .inl ⟨xs, .inl (.inl e), rfl⟩, ?_⟩
    have h' : k (!ds.isEmpty) := h
    have l := d1.len
    have : xs.isEmpty = ds.isEmpty := by cases xs <;> cases ds <;> first | rfl | cases l
    rw [this]
    exact h'
  | tuple ds =>
    obtain ⟨a, xs, rfl, e, d1⟩ := hd.tup sT
    refine ⟨_, .inr (.inl ⟨xs, e, rfl⟩), ?_⟩
    have h' : k (!ds.isEmpty) := h
    have l := d1.len
    have : xs.isEmpty = ds.isEmpty := by cases xs <;> cases ds <;> first | rfl | cases l
    rw [this]
    exact h'
  | dict _ => exact h.elim
def wTru (we : WE) : WT := fun S k => we S fun r S1 => vwD r S1 fun d => truD d fun b => k b S1
instance [hE : DEc K TB E Ex te we] : DTc K TB E Ex (zTru K te) (wTru we) where
  run := fun S σ H ρ T Q k w rx h q => hE.run S σ H ρ T _ _ w rx h fun r S1 H1 ρ1 T1 v w1 s1 r1 h1 => by
    obtain ⟨d, hd, h1⟩ := vwD_run w1 r1 h1
    obtain ⟨b, hb, hk⟩ := truD_run w1 hd h1
    exact ⟨b, hb, q _ _ _ _ _ w1 s1 hk⟩
def wAnd (w1 w2 : WT) : WT := fun S k => w1 S fun b S1 => if b = true then w2 S1 k else k false S1
def wOr (w1 w2 : WT) : WT := fun S k => w1 S fun b S1 => if b = true then k true S1 else w2 S1 k
def wNot (w1 : WT) : WT := fun S k => w1 S fun b S1 => k (!b) S1
instance [h1 : DTc K TB E Ex tt wt] [h2 : DTc K TB E Ex tt' wt'] : DTc K TB E Ex (tAnd tt tt') (wAnd wt wt') where
  run := fun S σ H ρ T Q k w rx h q => h1.run S σ H ρ T _ _ w rx h fun b S1 H1 ρ1 T1 w1 s1 g => by
    cases b with
    | true =>
      rw [if_pos rfl] at g ⊢
      exact h2.run S1 σ H1 ρ1 T1 _ _ w1 (rx.go s1 w1.lv) g fun b S2 H2 ρ2 T2 w2 s2 g => q _ _ _ _ _ w2 (s1.trans s2 w1.lv) g
    | false =>
      rw [if_neg Bool.false_ne_true] at g ⊢
      exact q _ _ _ _ _ w1 s1 g
instance [h1 : DTc K TB E Ex tt wt] [h2 : DTc K TB E Ex tt' wt'] : DTc K TB E Ex (tOr tt tt') (wOr wt wt') where
  run := fun S σ H ρ T Q k w rx h q => h1.run S σ H ρ T _ _ w rx h fun b S1 H1 ρ1 T1 w1 s1 g => by
    cases b with
    | true =>
      rw [if_pos rfl] at g ⊢
      exact q _ _ _ _ _ w1 s1 g
    | false =>
      rw [if_neg Bool.false_ne_true] at g ⊢
      exact h2.run S1 σ H1 ρ1 T1 _ _ w1 (rx.go s1 w1.lv) g fun b S2 H2 ρ2 T2 w2 s2 g => q _ _ _ _ _ w2 (s1.trans s2 w1.lv) g
instance [h1 : DTc K TB E Ex tt wt] : DTc K TB E Ex (tNot tt) (wNot wt) where
  run := fun S σ H ρ T Q k w rx h q => h1.run S σ H ρ T _ _ w rx h fun b S1 H1 ρ1 T1 w1 s1 g => q _ _ _ _ _ w1 s1 g
def wAndV (wa wb : WE) : WE := fun S k => wa S fun r S1 => asB r fun b => if b = true then wb S1 k else k (.ad (.dat (.bool false))) S1
def wOrV (wa wb : WE) : WE := fun S k => wa S fun r S1 => asB r fun b => if b = true then k (.ad (.dat (.bool true))) S1 else wb S1 k
def wNotV (wa : WE) : WE := fun S k => wa S fun r S1 => asB r fun b => k (.ad (.dat (.bool (!b)))) S1
instance [hA : DEc K TB E Ex ta wa] [hB : DEc K TB E Ex tb wb] : DEc K TB E Ex (tAndV ta tb) (wAndV wa wb) where
  run := fun S σ H ρ T Q k w rx h q => hA.run S σ H ρ T _ _ w rx h fun r S1 H1 ρ1 T1 v w1 s1 r1 h1 => by
    obtain ⟨b, rfl, _, hk⟩ := asB_run r1 h1
    refine ⟨b, rfl, ?_⟩
    cases b with
    | true =>
      rw [if_pos rfl] at hk ⊢
      exact hB.run S1 σ H1 ρ1 T1 _ _ w1 (rx.go s1 w1.lv) hk fun r S2 H2 ρ2 T2 v w2 s2 r2 g => q _ _ _ _ _ _ w2 (s1.trans s2 w1.lv) (r2.older fun b z => s1.ne w1.lv z) g
    | false =>
      rw [if_neg Bool.false_ne_true] at hk ⊢
      exact q (.ad (.dat (.bool false))) _ _ _ _ _ w1 s1 rfl hk
instance [hA : DEc K TB E Ex ta wa] [hB : DEc K TB E Ex tb wb] : DEc K TB E Ex (tOrV ta tb) (wOrV wa wb) where
  run := fun S σ H ρ T Q k w rx h q => hA.run S σ H ρ T _ _ w rx h fun r S1 H1 ρ1 T1 v w1 s1 r1 h1 => by
    obtain ⟨b, rfl, _, hk⟩ := asB_run r1 h1
    refine ⟨b, rfl, ?_⟩
    cases b with
    | true =>
      rw [if_pos rfl] at hk ⊢
      exact q (.ad (.dat (.bool true))) _ _ _ _ _ w1 s1 rfl hk
    | false =>
      rw [if_neg Bool.false_ne_true] at hk ⊢
      exact hB.run S1 σ H1 ρ1 T1 _ _ w1 (rx.go s1 w1.lv) hk fun r S2 H2 ρ2 T2 v w2 s2 r2 g => q _ _ _ _ _ _ w2 (s1.trans s2 w1.lv) (r2.older fun b z => s1.ne w1.lv z) g
instance [hA : DEc K TB E Ex ta wa] : DEc K TB E Ex (tNotV ta) (wNotV wa) where
  run := fun S σ H ρ T Q k w rx h q => hA.run S σ H ρ T _ _ w rx h fun r S1 H1 ρ1 T1 v w1 s1 r1 h1 => by
    obtain ⟨b, rfl, _, hk⟩ := asB_run r1 h1
    exact ⟨b, rfl, q (.ad (.dat (.bool (!b)))) _ _ _ _ _ w1 s1 rfl hk⟩
def wIf (wt : WT) (wa wb : WE) : WE := fun S k => wt S fun b S1 => if b = true then wa S1 k else wb S1 k
instance [hT : DTc K TB E Ex tt wt] [hA : DEc K TB E Ex ta wa] [hB : DEc K TB E Ex tb wb] : DEc K TB E Ex (tIf tt ta tb) (wIf wt wa wb) where
  run := fun S σ H ρ T Q k w rx h q => hT.run S σ H ρ T _ _ w rx h fun b S1 H1 ρ1 T1 w1 s1 g => by
    cases b with
    | true =>
      rw [if_pos rfl] at g ⊢
      exact hA.run S1 σ H1 ρ1 T1 _ _ w1 (rx.go s1 w1.lv) g fun r S2 H2 ρ2 T2 v w2 s2 r2 g => q _ _ _ _ _ _ w2 (s1.trans s2 w1.lv) (r2.older fun b z => s1.ne w1.lv z) g
    | false =>
      rw [if_neg Bool.false_ne_true] at g ⊢
      exact hB.run S1 σ H1 ρ1 T1 _ _ w1 (rx.go s1 w1.lv) g fun r S2 H2 ρ2 T2 v w2 s2 r2 g => q _ _ _ _ _ _ w2 (s1.trans s2 w1.lv) (r2.older fun b z => s1.ne w1.lv z) g
def wChain (wr wr' : RD → RD → SS → (RD → SS → Prop) → Prop) (wa wb wc : WE) : WE := fun S k => wa S fun x S1 => wb S1 fun y S2 => match x, y with
  | .ad (.dat d), .ad (.dat e) => wr (.ad (.dat d)) (.ad (.dat e)) S2 fun z S3 => asB z fun b => if b = true then wc S3 fun u S4 => wr' (.ad (.dat e)) u S4 k else k (.ad (.dat (.bool false))) S3
  | _, _ => False
instance {r r' : R2} {wr wr' : RD → RD → SS → (RD → SS → Prop) → Prop} [hO : OpL K TB r wr] [hO' : OpL K TB r' wr'] [hA : DEc K TB E Ex ta wa] [hB : DEc K TB E Ex tb wb] [hC : DEc K TB E Ex tc wc] : DEc K TB E Ex (tChain r r' ta tb tc) (wChain wr wr' wa wb wc) where
  run := fun S σ H ρ T Q k wd rx h q => by
    refine hA.run S σ H ρ T _ _ wd rx h fun x S1 H1 ρ1 T1 v w1 s1 r1 h1 => ?_
    refine hB.run S1 σ H1 ρ1 T1 _ _ w1 (rx.go s1 w1.lv) h1 fun y S2 H2 ρ2 T2 u w2 s2 r2 h2 => ?_
    have s12 := s1.trans s2 w1.lv
    split at h2
    · rename_i d e
      have rd := r1.go s2
      refine hO.run S2 σ ρ2 T2 H2 H2 ρ2 T2 (.ad (.dat d)) (.ad (.dat e)) v u _ _ w2 .refl rd r2 h2 fun r S3 H3 ρ3 T3 z w3 s3 r3 h3 => ?_
      have s13 := s12.trans s3 w2.lv
      obtain ⟨b, rfl, _, hk⟩ := asB_run r3 h3
      refine ⟨b, rfl, ?_⟩
      cases b with
      | true =>
        rw [if_pos rfl] at hk ⊢
        refine hC.run S3 σ H3 ρ3 T3 _ _ w3 (rx.go s13 w3.lv) hk fun z S4 H4 ρ4 T4 v4 w4 s4 r4 h4 => ?_
        have re : RR K T4 ρ4 H4 H (.ad (.dat e)) u := RR.go (RR.go (H0 := H) r2 s3) s4
        exact hO'.run S4 σ ρ T H H4 ρ4 T4 (.ad (.dat e)) z u v4 Q k w4 (s13.trans s4 w3.lv) re (r4.older fun b z => s13.ne w3.lv z) h4 q
      | false =>
        rw [if_neg Bool.false_ne_true] at hk ⊢
        exact q (.ad (.dat (.bool false))) _ _ _ _ _ w3 s13 rfl hk
    · exact h2.elim
/-! ### slices -/
abbrev WO := SS → (Option Int → SS → Prop) → Prop
class DOc (K : PySem.W.Frag) (TB : List Addr) (E : XK) (Ex : XD → Prop) (to : TO) (wo : outParam WO) : Prop where
  run : ∀ (S : SS) (σ : L2.St) (H : Hp) (ρ : List Addr) (T : Hp) (Q : Option Int → Hp → Prop) (k : Option Int → SS → Prop), Wd K TB S σ H ρ T → Rx K E Ex ρ T H → wo S k →
    (∀ b S' H' ρ' T', Wd K TB S' σ H' ρ' T' → Stp ρ T H ρ' T' H' → k b S' → Q b H') → to σ H Q
def wNoPart : WO := fun S k => k none S
def asI (r : RD) (k : Int → Prop) : Prop := match r with
  | .ad (.dat (.int i)) => k i
  | _ => False
theorem asI_run {k : Int → Prop} (hr : RR K T ρ H H0 r v) (h : asI r k) : ∃ b, v = .int b ∧ k b := by
  unfold asI at h
  split at h
  · exact ⟨_, hr, h⟩
  · exact h.elim
def wPart (we : WE) : WO := fun S k => we S fun r S1 => asI r fun i => k (some i) S1
instance : DOc K TB E Ex tNoPart wNoPart where
  run := fun S σ H ρ T Q k w rx h q => q _ _ _ _ _ w .refl h
instance [hE : DEc K TB E Ex te we] : DOc K TB E Ex (tPart te) (wPart we) where
  run := fun S σ H ρ T Q k w rx h q => hE.run S σ H ρ T _ _ w rx h fun r S1 H1 ρ1 T1 v w1 s1 r1 h1 => by
    obtain ⟨b, rfl, hk⟩ := asI_run r1 h1
    exact ⟨b, rfl, q _ _ _ _ _ w1 s1 hk⟩
def cutD (xs : List PyData) (lo hi : Option Int) : List PyData := (xs.drop (HT.sIx xs.length 0 lo)).take (HT.sIx xs.length xs.length hi - HT.sIx xs.length 0 lo)
theorem DvA.cut {ds : List PyData} {vs : List V} (h : DvA K T ds vs) (lo hi : Option Int) : DvA K T (cutD ds lo hi) (cutV vs lo hi) := by
  unfold cutD cutV
  rw [h.len]
  exact (h.drop _).take _
def fSl (d : PyData) (lo hi : Option Int) (k : RD → Prop) : Prop := match d with
  | .list ds => k (.new (.lst (cutD ds lo hi)))
  | .tuple ds => k (.ad (.dat (.tuple (cutD ds lo hi))))
  | .str z => z.length ≤ 1000000 ∧ k (.ad (.dat (.str (cutS z lo hi))))
  | _ => False
theorem cutD_all {xs : List PyData} {lo hi : Option Int} (h : HT.sIx xs.length 0 lo = 0 ∧ HT.sIx xs.length xs.length hi = xs.length) : cutD xs lo hi = xs := by
  unfold cutD
  rw [h.1, h.2, List.drop_zero, Nat.sub_zero, List.take_length]
theorem cutD_take (xs : List PyData) (i : Nat) (h : i ≤ xs.length) : cutD xs none (some (i : Int)) = xs.take i := by
  unfold cutD
  rw [HT.sIx_nat, HT.sIx_none, List.drop_zero, Nat.sub_zero, Nat.min_eq_left h]
theorem cutD_drop (xs : List PyData) (i : Nat) (h : i ≤ xs.length) : cutD xs (some (i : Int)) none = xs.drop i := by
  unfold cutD
  rw [HT.sIx_nat, HT.sIx_none, Nat.min_eq_left h, List.take_of_length_le (by rw [List.length_drop]; exact Nat.le_refl _)]
def wSl (we : WE) (wl wh : WO) : WE := fun S k => we S fun x S1 => wl S1 fun l S2 => wh S2 fun u S3 => vwD x S3 fun d => fSl d l u fun r => k r S3
instance {tl th : TO} {wl wh : WO} [hE : DEc K TB E Ex te we] [hl : DOc K TB E Ex tl wl] [hh : DOc K TB E Ex th wh] : DEc K TB E Ex (tSl (zSl K) te tl th) (wSl we wl wh) where
  run := fun S σ H ρ T Q k wd rx h q => by
    refine hE.run S σ H ρ T _ _ wd rx h fun x S1 H1 ρ1 T1 v w1 s1 r1 h1 => ?_
    refine hl.run S1 σ H1 ρ1 T1 _ _ w1 (rx.go s1 w1.lv) h1 fun l S2 H2 ρ2 T2 w2 s2 h2 => ?_
    have s12 := s1.trans s2 w1.lv
    refine hh.run S2 σ H2 ρ2 T2 _ _ w2 (rx.go s12 w2.lv) h2 fun u S3 H3 ρ3 T3 w3 s3 h3 => ?_
    have s13 := s12.trans s3 w2.lv
    obtain ⟨d, hd, h4⟩ := vwD_run w3 ((r1.go s2).go s3) h3
    have fin : Fin K TB σ ρ T H Q k := q
    have sT := w3.wm.sT
    cases d <;> first | exact h4.elim | skip
    · exact .inr (.inr ⟨_, hd.str, size_ok h4.1, fin.str w3 s13 h4.2⟩)
    · obtain ⟨a, xs, rfl, e, d1⟩ := hd.lst sT
      exact .inl ⟨a, xs, rfl, .inl (.inl e), fun p np => fin.lst w3 s13 (d1.cut l u) np h4⟩
    · rename_i ds
      have hd' : Dv K T3 (.tuple _) v := hd.elim id fun ⟨_, _, _, _, z, _⟩ => by cases z
      obtain ⟨a, xs, rfl, e, d1⟩ := hd.tup sT
      refine .inr (.inl ⟨a, xs, rfl, e, fun z => ?_, fun _ p np => fin.tup w3 s13 (d1.cut l u) np h4⟩)
      rw [d1.len] at z
      have h5 : k (.ad (.dat (.tuple (cutD ds l u)))) S3 := h4
      rw [cutD_all z] at h5
      exact fin.dat w3 s13 hd' h5
/-- [::-1] -/
def wRevT (we : WE) : WE := fun S k => we S fun r S1 => vwD r S1 fun d => match d with
  | .tuple ds => k (.ad (.dat (.tuple ds.reverse))) S1
  | _ => False
def wRevL (we : WE) : WE := fun S k => we S fun r S1 => vwD r S1 fun d => match d with
  | .list ds => k (.new (.lst ds.reverse)) S1
  | _ => False
instance [hE : DEc K TB E Ex te we] : DEc K TB E Ex (tRevT K te) (wRevT we) where
  run := fun S σ H ρ T Q k w rx h q => hE.run S σ H ρ T _ _ w rx h fun r S1 H1 ρ1 T1 v w1 s1 r1 h1 => by
    obtain ⟨d, hd, h2⟩ := vwD_run w1 r1 h1
    have fin : Fin K TB σ ρ T H Q k := q
    cases d <;> first | exact h2.elim | skip
    obtain ⟨a, xs, rfl, e, d1⟩ := hd.tup w1.wm.sT
    exact ⟨a, xs, rfl, e, fun p np => fin.tup w1 s1 d1.rev np h2⟩
instance [hE : DEc K TB E Ex te we] : DEc K TB E Ex (tRevL K te) (wRevL we) where
  run := fun S σ H ρ T Q k w rx h q => hE.run S σ H ρ T _ _ w rx h fun r S1 H1 ρ1 T1 v w1 s1 r1 h1 => by
    obtain ⟨d, hd, h2⟩ := vwD_run w1 r1 h1
    have fin : Fin K TB σ ρ T H Q k := q
    cases d <;> first | exact h2.elim | skip
    obtain ⟨a, xs, rfl, e, d1⟩ := hd.lst w1.wm.sT
    exact ⟨a, xs, rfl, .inl (.inl e), fun p np => fin.lst w1 s1 d1.rev np h2⟩
/-! ### unary operators -/
def zU (g : Int → Int) : V → Hp → VK → Prop := fun x H Q => ∃ i, x = V.int i ∧ Q (V.int (g i)) H
theorem zun_neg {X : Cx} : UnR X (unaryOp .USub) (zU fun i => -i) := un_neg
def wUn (g : Int → Int) (we : WE) : WE := fun S k => we S fun r S1 => asI r fun i => k (.ad (.dat (.int (g i)))) S1
instance {g : Int → Int} [hE : DEc K TB E Ex te we] : DEc K TB E Ex (tUn (zU g) te) (wUn g we) where
  run := fun S σ H ρ T Q k w rx h q => hE.run S σ H ρ T _ _ w rx h fun r S1 H1 ρ1 T1 v w1 s1 r1 h1 => by
    obtain ⟨b, rfl, hk⟩ := asI_run r1 h1
    exact ⟨b, rfl, q (.ad (.dat (.int (g b)))) _ _ _ _ _ w1 s1 rfl hk⟩
/-! ### list(range(..)), sorted -/
abbrev TRg := L2.St → Hp → (Int → Int → Hp → Prop) → Prop
def rgD (a b : Int) : List PyData := (List.range (b - a).toNat).map fun i => PyData.int (a + (i : Nat))
theorem rg_dv {a b : Int} : DvA K T (rgD a b) (rgV a b) := by
  have e1 : rgD a b = ((List.range (b - a).toNat).map fun (i : Nat) => a + (i : Int)).map PyData.int := by rw [List.map_map]; rfl
  have e2 : rgV a b = ((List.range (b - a).toNat).map fun (i : Nat) => a + (i : Int)).map V.int := by rw [List.map_map]; rfl
  rw [e1, e2]
  exact DvA.ints _
def wLstRg1 (we : WE) : WE := fun S k => we S fun r S1 => asI r fun n => 0 ≤ n ∧ n ≤ 1000000 ∧ k (.new (.lst (rgD 0 n))) S1
instance [hE : DEc K TB E Ex te we] : DEc K TB E Ex (tLstRg (tRg1 te)) (wLstRg1 we) where
  run := fun S σ H ρ T Q k w rx h q => hE.run S σ H ρ T _ _ w rx h fun r S1 H1 ρ1 T1 v w1 s1 r1 h1 => by
    obtain ⟨n, rfl, n0, n1, hk⟩ := asI_run r1 h1
    have fin : Fin K TB σ ρ T H Q k := q
    exact ⟨n, rfl, ⟨by omega, by omega, by omega, by omega, by omega⟩, fun p np => fin.lst w1 s1 rg_dv np hk⟩
def wLstRg2 (wa wb : WE) : WE := fun S k => wa S fun x S1 => wb S1 fun y S2 => asI x fun i => asI y fun j => (-1000000 ≤ i ∧ i ≤ 1000000 ∧ -1000000 ≤ j ∧ j ≤ 1000000) ∧ k (.new (.lst (rgD i j))) S2
instance [hA : DEc K TB E Ex ta wa] [hB : DEc K TB E Ex tb wb] : DEc K TB E Ex (tLstRg (tRg2 ta tb)) (wLstRg2 wa wb) where
  run := fun S σ H ρ T Q k w rx h q => by
    refine hA.run S σ H ρ T _ _ w rx h fun x S1 H1 ρ1 T1 v w1 s1 r1 h1 => ?_
    refine hB.run S1 σ H1 ρ1 T1 _ _ w1 (rx.go s1 w1.lv) h1 fun y S2 H2 ρ2 T2 u w2 s2 r2 h2 => ?_
    have s12 := s1.trans s2 w1.lv
    obtain ⟨i, rfl, h3⟩ := asI_run r1 h2
    obtain ⟨j, rfl, ⟨n1, n2, n3, n4⟩, hk⟩ := asI_run r2 h3
    have fin : Fin K TB σ ρ T H Q k := q
    exact ⟨i, j, rfl, rfl, ⟨by omega, by omega, by omega, by omega, by omega⟩, fun p np => fin.lst w2 s12 rg_dv np hk⟩
def fSort : PyData → (RD → Prop) → Prop
  | .list ds, k => ∃ ns, intsOf ds = some ns ∧ ∀ ns' : List Int, ns'.Perm ns → ns'.Pairwise (· ≤ ·) → k (.new (.lst (ns'.map PyData.int)))
  | _, _ => False
instance : CbV K (rSortedI K) fSort where
  run := fun TB S σ ρ0 T0 H0 H ρ T v d Q k w s hd h q => by
    cases d <;> first | exact h.elim | skip
    obtain ⟨ns, e, hk⟩ := h
    obtain ⟨a1, xs, rfl, h1, d1⟩ := hd.lst w.wm.sT
    rw [intsOf_eq e] at d1
    rw [d1.of_ints] at h1
    exact ⟨a1, ns, rfl, .inl (.inl h1), fun ns' p hp hs np => q.lst w s (DvA.ints ns') np (hk ns' hp hs)⟩
/-! ### lists' methods -/
theorem Fin.cell {ρ0 : List Addr} {T0 : Hp} (q : Fin K TB σ ρ0 T0 H0 Q k) (w : Wd K TB S σ H ρ T) (s : Stp ρ0 T0 H0 ρ T H) {j : Nat} {c c' : CD} {o : HO} {d : PyData} (hj : S.m[j]? = some c) (g : isGone c = false) (nh : c ≠ .held) (nd : ∀ l, c' ≠ .deal l) (ha : ρ[j]? = some a) (hc : CellR K T ρ (upd H a o) a c') (hv : Dv K T d v) (hk : k (.ad (.dat d)) ⟨S.s, S.m.set j c'⟩) : Q v (upd H a o) :=
  q (.ad (.dat d)) ⟨S.s, S.m.set j c'⟩ _ _ _ _ ⟨w.sl, w.wm.write hj g nh nd ha hc⟩ (s.trans (.write (List.mem_of_getElem? ha) ((w.wm.ce _ _ _ hj ha).nc g nh)) w.lv) hv hk
theorem lst_nh {ds : List PyData} : CD.lst ds ≠ .held := fun z => nomatch z
theorem lst_nd {ds : List PyData} : ∀ l, CD.lst ds ≠ .deal l := fun l z => nomatch z
/-- append -/
def wAppend : RD → List RD → SS → (RD → SS → Prop) → Prop := fun x xs S k => match x, xs with
  | .ad (.loc j), [r] => asD r S fun d S1 => match S1.m[j]? with
    | some (.lst ds) => ds.length < 1000000 ∧ k (.ad (.dat .none)) ⟨S1.s, S1.m.set j (.lst (ds ++ [d]))⟩
    | _ => False
  | _, _ => False
theorem one_run {r : RD} {vs : List V} (h : RRs K T ρ H H0 [r] vs) : ∃ u, vs = [u] ∧ RR K T ρ H H0 r u := by
  obtain ⟨u, us, Hm, e, hr, b1, b2, e2⟩ := h
  cases (show us = _ from e2)
  exact ⟨u, e, hr⟩
theorem lst_cell (w : Wd K TB S σ H ρ T) {j : Nat} {ds : List PyData} (hj : S.m[j]? = some (.lst ds)) (ea : ρ[j]? = some a) : ∃ ys, H a = some (.lst ys) ∧ DvA K T ds ys := by
  obtain ⟨a', ea', ys, ey, hy⟩ := w.wm.cell hj
  rw [ea] at ea'
  cases ea'
  exact ⟨ys, ey, hy⟩
instance : MtL K TB rAppend wAppend where
  run := fun S σ ρ0 T0 H0 H ρ T x v xs vs Q k w s rx rxs h q => by
    unfold wAppend at h
    split at h
    · rename_i j r
      obtain ⟨a, ea, rfl⟩ := rx
      obtain ⟨u, rfl, hr⟩ := one_run rxs
      obtain ⟨d, S1, T1, w1, f1, d1, h1, _⟩ := asD_run w hr h
      split at h1
      · rename_i ds hj
        obtain ⟨ys, ey, hy⟩ := lst_cell w1 hj ea
        exact ⟨a, ys, u, rfl, rfl, ey, by rw [hy.len]; exact size_lt h1.1, q.cell w1 (s.fz f1) (d := .none) hj rfl lst_nh lst_nd ea (by exact ⟨_, upd_same, hy.snoc d1⟩) rfl h1.2⟩
      · exact h1.elim
    · exact h.elim
/-- pop() -/
def wPop : RD → List RD → SS → (RD → SS → Prop) → Prop := fun x xs S k => match x, xs with
  | .ad (.loc j), [] => match S.m[j]? with
    | some (.lst ds) => ∃ d, ds[ds.length - 1]? = some d ∧ k (.ad (.dat d)) ⟨S.s, S.m.set j (.lst ds.dropLast)⟩
    | _ => False
  | _, _ => False
instance : MtL K TB rPop wPop where
  run := fun S σ ρ0 T0 H0 H ρ T x v xs vs Q k w s rx rxs h q => by
    unfold wPop at h
    split at h
    · rename_i j
      obtain ⟨a, ea, rfl⟩ := rx
      cases (show vs = _ from rxs)
      split at h
      · rename_i ds hj
        obtain ⟨ys, ey, hy⟩ := lst_cell w hj ea
        obtain ⟨d, hd, hk⟩ := h
        obtain ⟨y, ey2, hd2⟩ := hy.at hd
        exact ⟨a, ys, y, rfl, rfl, ey, by rw [hy.len]; exact ey2, q.cell w s hj rfl lst_nh lst_nd ea (by exact ⟨_, upd_same, hy.dropLast⟩) hd2 hk⟩
      · exact h.elim
    · exact h.elim
theorem DvA.erase : ∀ {ds : List PyData} {vs : List V} (n : Nat), DvA K T ds vs → DvA K T (ds.eraseIdx n) (vs.eraseIdx n)
  | [], _, n, h => by cases (show _ = _ from h); rfl
  | d :: ds, _, 0, ⟨v, vs, q, h, r⟩ => by cases q; exact r
  | d :: ds, _, n + 1, ⟨v, vs, q, h, r⟩ => by cases q; exact ⟨v, vs.eraseIdx n, rfl, h, DvA.erase n r⟩
/-- pop(i) -/
def wPopAt : RD → List RD → SS → (RD → SS → Prop) → Prop := fun x xs S k => match x, xs with
  | .ad (.loc j), [.ad (.dat (.int i))] => match S.m[j]? with
    | some (.lst ds) => ∃ n d, ixN ds.length i = some n ∧ ds[n]? = some d ∧ ds.length < 1000000 ∧ k (.ad (.dat d)) ⟨S.s, S.m.set j (.lst (ds.eraseIdx n))⟩
    | _ => False
  | _, _ => False
instance : MtL K TB rPopAt wPopAt where
  run := fun S σ ρ0 T0 H0 H ρ T x v xs vs Q k w s rx rxs h q => by
    unfold wPopAt at h
    split at h
    · rename_i j i
      obtain ⟨a, ea, rfl⟩ := rx
      obtain ⟨u, rfl, hr⟩ := one_run rxs
      cases (show u = _ from hr)
      split at h
      · rename_i ds hj
        obtain ⟨ys, ey, hy⟩ := lst_cell w hj ea
        obtain ⟨n, d, hn, hd, hs, hk⟩ := h
        obtain ⟨y, ey2, hd2⟩ := hy.at hd
        obtain ⟨e1, e2, e3, e4⟩ := ixN_seq hn
        exact ⟨a, ys, i, n, y, rfl, rfl, ey, by omega, by omega, by rw [hy.len]; exact e1, ey2, q.cell w s hj rfl lst_nh lst_nd ea (by exact ⟨_, upd_same, hy.erase n⟩) hd2 hk⟩
      · exact h.elim
    · exact h.elim
/-- extend by a new list -/
def wExtend : RD → List RD → SS → (RD → SS → Prop) → Prop := fun x xs S k => match x, xs with
  | .ad (.loc j), [r] => vwD r S fun d => match d, S.m[j]? with
    | .list es, some (.lst ds) => ds.length + es.length ≤ 1000000 ∧ k (.ad (.dat .none)) ⟨S.s, S.m.set j (.lst (ds ++ es))⟩
    | _, _ => False
  | _, _ => False
instance : MtL K TB rExtend wExtend where
  run := fun S σ ρ0 T0 H0 H ρ T x v xs vs Q k w s rx rxs h q => by
    unfold wExtend at h
    split at h
    · rename_i j r
      obtain ⟨a, ea, rfl⟩ := rx
      obtain ⟨u, rfl, hr⟩ := one_run rxs
      obtain ⟨d, hd, h⟩ := vwD_run w hr h
      split at h
      · rename_i d' c' es ds hj
        obtain ⟨ys, ey, hy⟩ := lst_cell w hj ea
        obtain ⟨b, zs, rfl, eb, hz⟩ := hd.lst w.wm.sT
        have big := size_ok h.1
        refine ⟨a, b, ys, zs, rfl, rfl, ey, eb, by rw [hy.len, hz.len]; exact big, ?_⟩
        exact q.cell w s (d := .none) hj rfl lst_nh lst_nd ea (by exact ⟨_, upd_same, hy.app hz⟩) rfl h.2
      · exact h.elim
    · exact h.elim
end
end Zd
end

section
set_option maxHeartbeats 1000000
/-! The second layer: targets, statements, what is forgotten, loops. -/
namespace Zd
open PySem PySem.Spec PyProof.Rows L2 Zc
/-! ### what may be forgotten -/
def okA (n : Nat) : AD → Bool
  | .loc k => decide (k < n)
  | _ => true
def okC (n : Nat) : CD → Bool
  | .lsa as => as.all (okA n)
  | .ins _ fs => fs.all fun f => okA n f.2
  | .dcK kvs => kvs.all fun f => okA n f.2
  | .dcT kvs => kvs.all fun f => okA n f.2
  | .deal l => decide (l < n)
  | _ => true
def okS (n : Nat) (S : SS) : Bool := S.s.all (okA n) && S.m.all (okC n)
def unAll : List Nat → List AD → List AD
  | [], s => s
  | i :: is, s => (unAll is s).set i .un
inductive Wk (n0 : Nat) : SS → SS → Prop
  | refl (S : SS) : Wk n0 S S
  | trans {S1 S2 S3 : SS} : Wk n0 S1 S2 → Wk n0 S2 S3 → Wk n0 S1 S3
  | un (us : List Nat) (S : SS) : Wk n0 S ⟨unAll us S.s, S.m⟩
  | cut (n : Nat) (S : SS) : n0 ≤ n → okS n ⟨S.s, S.m.take n⟩ = true → Wk n0 S ⟨S.s, S.m.take n⟩
  | frz (j : Nat) (ds : List PyData) (S : SS) : n0 ≤ j → S.m[j]? = some (.lst ds) → Wk n0 S (S.frz j ds)
  | lsD (j : Nat) (ds : List PyData) (S : SS) : n0 ≤ j → S.m[j]? = some (.lsa (ds.map AD.dat)) → Wk n0 S ⟨S.s, S.m.set j (.lst ds)⟩
section
variable {K : PySem.W.Frag} {TB : List Addr} {E : XK} {Ex : XD → Prop} {T T' T0 H H' H0 : Hp} {ρ ρ' ρ0 : List Addr} {S S' : SS} {σ : L2.St} {a b : Addr} {v u : V} {x : AD} {r : RD} {n : Nat}
theorem AR.cut (h : AR K T ρ x v) (ok : okA n x = true) : AR K T (ρ.take n) x v := by
  cases x with
  | loc k =>
    obtain ⟨a, e, rfl⟩ := h
    exact ⟨a, by rw [List.getElem?_take_of_lt (of_decide_eq_true ok)]; exact e, rfl⟩
  | un => trivial
  | dat d => exact h
  | val u => exact h
theorem ARs.cut : ∀ {as : List AD} {vs : List V}, ARs K T ρ as vs → as.all (okA n) = true → ARs K T (ρ.take n) as vs
  | [], _, h, _ => h
  | a :: as, _, ⟨v, us, e, h, r⟩, ok => by
    rw [List.all_cons, Bool.and_eq_true] at ok
    exact ⟨v, us, e, h.cut ok.1, ARs.cut r ok.2⟩
theorem FRs.cut : ∀ {as : List (Str × AD)} {vs : List (Str × V)}, FRs K T ρ as vs → (as.all fun f => okA n f.2) = true → FRs K T (ρ.take n) as vs
  | [], _, h, _ => h
  | a :: as, _, ⟨v, us, e, h, r⟩, ok => by
    rw [List.all_cons, Bool.and_eq_true] at ok
    exact ⟨v, us, e, h.cut ok.1, FRs.cut r ok.2⟩
theorem KRs.cut : ∀ {as : List (Key × AD)} {vs : List (Key × V)}, KRs K T ρ as vs → (as.all fun f => okA n f.2) = true → KRs K T (ρ.take n) as vs
  | [], _, h, _ => h
  | a :: as, _, ⟨v, us, e, h, r⟩, ok => by
    rw [List.all_cons, Bool.and_eq_true] at ok
    exact ⟨v, us, e, h.cut ok.1, KRs.cut r ok.2⟩
theorem TRs.cut : ∀ {as : List (List Key × AD)} {vs : List (List Key × V)}, TRs K T ρ as vs → (as.all fun f => okA n f.2) = true → TRs K T (ρ.take n) as vs
  | [], _, h, _ => h
  | a :: as, _, ⟨v, us, e, h, r⟩, ok => by
    rw [List.all_cons, Bool.and_eq_true] at ok
    exact ⟨v, us, e, h.cut ok.1, TRs.cut r ok.2⟩
theorem SRs.cut : ∀ {as : List AD} {σ : L2.St}, SRs K T ρ as σ → as.all (okA n) = true → SRs K T (ρ.take n) as σ
  | [], _, h, _ => h
  | x :: as, _, ⟨o, us, e, h, r⟩, ok => by
    rw [List.all_cons, Bool.and_eq_true] at ok
    refine ⟨o, us, e, ?_, SRs.cut r ok.2⟩
    cases x with
    | un => trivial
    | dat d => obtain ⟨v, e, h⟩ := h; exact ⟨v, e, AR.cut (x := .dat d) h ok.1⟩
    | loc k => obtain ⟨v, e, h⟩ := h; exact ⟨v, e, AR.cut (x := .loc k) h ok.1⟩
    | val u => obtain ⟨v, e, h⟩ := h; exact ⟨v, e, AR.cut (x := .val u) (ρ := ρ) h ok.1⟩
theorem CellR.cut {c : CD} (h : CellR K T ρ H a c) (ok : okC n c = true) : CellR K T (ρ.take n) H a c := by
  cases c with
  | gone => trivial
  | held => trivial
  | lst ds => exact h
  | lsa as => obtain ⟨vs, e, r⟩ := h; exact ⟨vs, e, r.cut ok⟩
  | ins C fs => obtain ⟨dx, fv, e, r⟩ := h; exact ⟨dx, fv, e, r.cut ok⟩
  | deal l => obtain ⟨b, e, r⟩ := h; exact ⟨b, by rw [List.getElem?_take_of_lt (of_decide_eq_true ok)]; exact e, r⟩
  | dcK kvs => obtain ⟨ks, e, r⟩ := h; exact ⟨ks, e, r.cut ok⟩
  | dcT kvs => obtain ⟨ks, e, r⟩ := h; exact ⟨ks, e, r.cut ok⟩
  | tab P q => exact h
theorem Wd.cut (w : Wd K TB S σ H ρ T) (ok : okS n ⟨S.s, S.m.take n⟩ = true) : Wd K TB ⟨S.s, S.m.take n⟩ σ H (ρ.take n) T := by
  unfold okS at ok
  rw [Bool.and_eq_true] at ok
  have down : ∀ {k : Nat} {c : CD}, (S.m.take n)[k]? = some c → S.m[k]? = some c ∧ k < n := fun {k c} h => by
    have hk := (List.getElem?_eq_some_iff.mp h).1
    rw [List.length_take] at hk
    have : k < n := by omega
    rw [List.getElem?_take_of_lt this] at h
    exact ⟨h, this⟩
  have downρ : ∀ {k : Nat} {c : Addr}, (ρ.take n)[k]? = some c → ρ[k]? = some c := fun {k c} h => by
    have hk := (List.getElem?_eq_some_iff.mp h).1
    rw [List.length_take] at hk
    have : k < n := by omega
    rw [List.getElem?_take_of_lt this] at h
    exact h
  refine ⟨w.sl.cut ok.1, ⟨by rw [List.length_take, List.length_take, w.wm.len], w.wm.nd.sublist (List.take_sublist _ _), fun k c a h e => ?_, fun a ha => w.wm.lv a (List.mem_of_mem_take ha), fun k c a h g e => w.wm.tn k c a (down h).1 g (downρ e), fun k l h => ?_, w.wm.sT, fun P hP => ⟨(w.wm.tb P hP).1, fun z => (w.wm.tb P hP).2 (List.mem_of_mem_take z)⟩⟩⟩
  · exact (w.wm.ce k c a (down h).1 (downρ e)).cut (List.all_eq_true.mp ok.2 c (List.mem_of_getElem? h))
  · have h1 := w.wm.dl k l (down h).1
    have h2 := List.all_eq_true.mp ok.2 _ (List.mem_of_getElem? h)
    rw [List.getElem?_take_of_lt (of_decide_eq_true h2)]
    exact h1
theorem Stp.cut (s : Stp ρ0 T0 H0 ρ T H) (hn : ρ0.length ≤ n) : Stp ρ0 T0 H0 (ρ.take n) T H where
  pre := by
    obtain ⟨more, e, h⟩ := s.pre
    refine ⟨more.take (n - ρ0.length), ?_, fun a ha => h a (List.mem_of_mem_take ha)⟩
    rw [e, List.take_append, List.take_of_length_le hn]
  tt := s.tt
  nw := s.nw
  hh := s.hh
  cd := s.cd
theorem SRs.un : ∀ {us : List Nat} {as : List AD}, SRs K T ρ as σ → SRs K T ρ (unAll us as) σ
  | [], _, h => h
  | i :: us, as, h => by
    have h2 := SRs.un (us := us) h
    have go : ∀ {as : List AD} {σ : L2.St} {i : Nat}, SRs K T ρ as σ → SRs K T ρ (as.set i .un) σ := fun {as σ i} => by
      induction as generalizing σ i with
      | nil => intro h; exact h
      | cons x as ih =>
        rintro ⟨o, us, e, h, r⟩
        cases i with
        | zero => exact ⟨o, us, e, trivial, r⟩
        | succ i => exact ⟨o, us, e, h, ih r⟩
    exact go h2
theorem ARs.dats : ∀ {ds : List PyData} {vs : List V}, ARs K T ρ (ds.map AD.dat) vs → DvA K T ds vs
  | [], _, h => h
  | d :: ds, _, ⟨v, us, e, h, r⟩ => ⟨v, us, e, h, ARs.dats r⟩
theorem Wk.run (h : Wk n S S') : ∀ {ρ : List Addr} {T : Hp}, Wd K TB S σ H ρ T → Stp ρ0 T0 H0 ρ T H → ρ0.length = n → ∃ ρ' T', Wd K TB S' σ H ρ' T' ∧ Stp ρ0 T0 H0 ρ' T' H ∧ Same T T' := by
  induction h with
  | refl S => exact fun w s _ => ⟨_, _, w, s, .refl _⟩
  | trans _ _ i1 i2 =>
    intro ρ T w s e
    obtain ⟨ρ1, T1, w1, s1, t1⟩ := i1 w s e
    obtain ⟨ρ2, T2, w2, s2, t2⟩ := i2 w1 s1 e
    exact ⟨ρ2, T2, w2, s2, t1.trans t2⟩
  | un us S => exact fun w s _ => ⟨_, _, ⟨w.sl.un, w.wm⟩, s, .refl _⟩
  | cut m S hn ok => exact fun w s e => ⟨_, _, w.cut ok, s.cut (by omega), .refl _⟩
  | frz j ds S hj hm =>
    intro ρ T w s _
    obtain ⟨a, vs, ea, tt, dp, wm, fz⟩ := w.wm.frz (H0 := H0) hm
    exact ⟨_, _, ⟨sub_srs ea tt dp w.sl, wm⟩, s.fz fz, tt⟩
  | lsD j ds S hj hm =>
    intro ρ T w s _
    refine ⟨ρ, T, ⟨w.sl, ⟨by rw [List.length_set]; exact w.wm.len, w.wm.nd, fun k c a h e => ?_, w.wm.lv, fun k c a h g e => ?_, fun k l h => ?_, w.wm.sT, w.wm.tb⟩⟩, s, .refl T⟩
    · by_cases q : j = k
      · subst q
        rw [List.getElem?_set_self (List.getElem?_eq_some_iff.mp hm).1] at h
        cases h
        obtain ⟨vs, ev, r⟩ := w.wm.ce j _ a hm e
        exact ⟨vs, ev, r.dats⟩
      · rw [List.getElem?_set_ne q] at h
        exact w.wm.ce k c a h e
    · by_cases q : j = k
      · subst q
        exact w.wm.tn j _ a hm rfl e
      · rw [List.getElem?_set_ne q] at h
        exact w.wm.tn k c a h g e
    · by_cases q : j = k
      · subst q
        rw [List.getElem?_set_self (List.getElem?_eq_some_iff.mp hm).1] at h
        cases h
      · rw [List.getElem?_set_ne q] at h
        have hl := w.wm.dl k l h
        have nl : j ≠ l := fun z => by
          subst z
          rw [hm] at hl
          cases hl
        rw [List.getElem?_set_ne nl]
        exact hl
end
/-! ### statements -/
structure WD where
  n : Nat
  nx : SS → Prop
  rt : RD → SS → Prop
  bk : SS → Prop
  ct : SS → Prop
abbrev WS := WD → SS → Prop
abbrev WG := RD → SS → (SS → Prop) → Prop
structure DEnd (K : PySem.W.Frag) (TB : List Addr) (ρ0 : List Addr) (T0 H0 Tb : Hp) (D : Ends) (W : WD) : Prop where
  n : ρ0.length = W.n
  nx : ∀ S σ H ρ T, Wd K TB S σ H ρ T → Stp ρ0 T0 H0 ρ T H → Same Tb T → W.nx S → D.nx σ H
  rt : ∀ r S σ H ρ T v, Wd K TB S σ H ρ T → Stp ρ0 T0 H0 ρ T H → RR K T ρ H H0 r v → W.rt r S → D.rt v H
  bk : ∀ S σ H ρ T, Wd K TB S σ H ρ T → Stp ρ0 T0 H0 ρ T H → Same Tb T → W.bk S → D.bk σ H
  ct : ∀ S σ H ρ T, Wd K TB S σ H ρ T → Stp ρ0 T0 H0 ρ T H → Same Tb T → W.ct S → D.ct σ H
class DSc (K : PySem.W.Frag) (TB : List Addr) (E : XK) (Ex : XD → Prop) (ts : TS) (ws : outParam WS) : Prop where
  run : ∀ (ρ0 : List Addr) (T0 H0 Tb : Hp) (S : SS) (σ : L2.St) (H : Hp) (ρ : List Addr) (T : Hp) (D : Ends) (W : WD), Wd K TB S σ H ρ T → Stp ρ0 T0 H0 ρ T H → Same Tb T → Rx K E Ex ρ0 T0 H0 → ws W S → DEnd K TB ρ0 T0 H0 Tb D W → ts D σ H
class DGc (K : PySem.W.Frag) (TB : List Addr) (E : XK) (Ex : XD → Prop) (g : TG) (wg : outParam WG) : Prop where
  run : ∀ (ρ0 : List Addr) (T0 H0 : Hp) (S : SS) (σ : L2.St) (H : Hp) (ρ : List Addr) (T : Hp) (r : RD) (v : V) (Q : L2.St → Hp → Prop) (k : SS → Prop), Wd K TB S σ H ρ T → Stp ρ0 T0 H0 ρ T H → Rx K E Ex ρ0 T0 H0 → RR K T ρ H H0 r v → wg r S k →
    (∀ S' σ' H' ρ' T', Wd K TB S' σ' H' ρ' T' → Stp ρ0 T0 H0 ρ' T' H' → Same T T' → k S' → Q σ' H') → g v σ H Q
section
variable {K : PySem.W.Frag} {TB : List Addr} {E : XK} {Ex : XD → Prop} {T T' T0 H H' H0 : Hp} {ρ ρ' ρ0 : List Addr} {S S' : SS} {σ : L2.St} {a b : Addr} {v u : V} {x : AD} {r : RD} {n i j : Nat} {te ti to : TE} {we wi wo : WE} {t : TA} {w : WA} {ts us : TS} {ws wu : WS} {tt : TT} {wt : WT} {g : TG} {wg : WG}
def wName (i : Nat) : WG := fun r S k => match r with
  | .ad a => k ⟨S.s.set i a, S.m⟩
  | .new c => k ⟨S.s.set i (.loc S.m.length), S.m ++ [c]⟩
/-- .. a new list as data -/
def wNameF (i : Nat) : WG := fun r S k => match r with
  | .ad a => k ⟨S.s.set i a, S.m⟩
  | .new (.lst ds) => k ⟨S.s.set i (.dat (.list ds)), S.m⟩
  | _ => False
/-- a new thing becomes a cell -/
theorem new_cell {c : CD} (w : Wd K TB S σ H ρ T) (s : Stp ρ0 T0 H0 ρ T H) (hr : RR K T ρ H H0 (.new c) v) : ∃ p, v = .ref p ∧ Wd K TB ⟨S.s, S.m ++ [c]⟩ σ H (ρ ++ [p]) T ∧ Stp ρ0 T0 H0 (ρ ++ [p]) T H ∧
    AR K T (ρ ++ [p]) (.loc S.m.length) v ∧ (∀ (j : Nat) (a : Addr), ρ[j]? = some a → (ρ ++ [p])[j]? = some a) := by
  obtain ⟨p, rfl, n0, n1, out, tp, hc, ok⟩ := id hr
  have up : ∀ (k : Nat) (b : Addr), ρ[k]? = some b → (ρ ++ [p])[k]? = some b := fun k b z => by rw [List.getElem?_append_left (List.getElem?_eq_some_iff.mp z).1]; exact z
  have ntb : p ∉ TB := fun z => by
    have h1 := (w.wm.tb p z).1
    cases c with
    | gone => cases ok
    | held => cases ok
    | deal l => cases ok
    | tab P q => cases ok
    | lst ds => obtain ⟨vs, e, _⟩ := hc; rw [h1] at e; cases e
    | lsa ds => obtain ⟨vs, e, _⟩ := hc; rw [h1] at e; cases e
    | ins C ds => obtain ⟨dx, vs, e, _⟩ := hc; rw [h1] at e; cases e
    | dcK ds => obtain ⟨vs, e, _⟩ := hc; rw [h1] at e; cases e
    | dcT ds => obtain ⟨vs, e, _⟩ := hc; rw [h1] at e; cases e
  have hc2 : CellR K T (ρ ++ [p]) H p c := hc.go (.refl T) up (fun _ z => z) (fun _ _ _ _ _ z => z) fun _ _ _ z => z
  have wm2 := w.wm.alloc n1 out tp ntb hc2 fun l e => by subst e; cases ok
  refine ⟨p, rfl, ⟨w.sl.go (.refl T) up, wm2⟩, ⟨?_, s.tt, s.nw, s.hh, s.cd⟩, ⟨p, by rw [← w.wm.len, List.getElem?_append_right (Nat.le_refl _), Nat.sub_self]; rfl, rfl⟩, up⟩
  obtain ⟨more, e, hm⟩ := s.pre
  refine ⟨more ++ [p], by rw [e, List.append_assoc], fun a ha => ?_⟩
  rcases List.mem_append.mp ha with ha | ha
  · exact hm a ha
  · rw [List.mem_singleton.mp ha]
    exact n0
theorem name_run (w : Wd K TB S σ H ρ T) (s : Stp ρ0 T0 H0 ρ T H) (hr : RR K T ρ H H0 r v) {k : SS → Prop} (h : wName i r S k) : ∃ S' ρ' T', Wd K TB S' (σ.set i (some v)) H ρ' T' ∧ Stp ρ0 T0 H0 ρ' T' H ∧ k S' ∧ (∀ (j : Nat) (a : Addr), ρ[j]? = some a → ρ'[j]? = some a) ∧ T' = T ∧ ∀ p, p ∈ ρ' → p ∈ ρ ∨ nwA r v = some p := by
  cases r with
  | ad x => exact ⟨⟨S.s.set i x, S.m⟩, ρ, T, ⟨w.sl.set (AR.sr hr), w.wm⟩, s, h, fun _ _ z => z, rfl, fun p z => .inl z⟩
  | new c =>
    obtain ⟨p, rfl, w2, s2, r2, up⟩ := new_cell w s hr
    refine ⟨⟨S.s.set i (.loc S.m.length), S.m ++ [c]⟩, ρ ++ [p], T, ⟨w2.sl.set (AR.sr r2), w2.wm⟩, s2, h, up, rfl, fun q z => ?_⟩
    rcases List.mem_append.mp z with z | z
    · exact .inl z
    · exact .inr (by rw [List.mem_singleton.mp z]; rfl)
theorem nameF_run (w : Wd K TB S σ H ρ T) (s : Stp ρ0 T0 H0 ρ T H) (hr : RR K T ρ H H0 r v) {k : SS → Prop} (h : wNameF i r S k) : ∃ S' T', Wd K TB S' (σ.set i (some v)) H ρ T' ∧ Stp ρ0 T0 H0 ρ T' H ∧ k S' ∧ Same T T' ∧ ∀ b, T' b ≠ none → T b ≠ none ∨ nwA r v = some b := by
  cases r with
  | ad x => exact ⟨⟨S.s.set i x, S.m⟩, T, ⟨w.sl.set (AR.sr hr), w.wm⟩, s, h, .refl T, fun b z => .inl z⟩
  | new c =>
    cases c <;> first | exact h.elim | skip
    rename_i ds
    obtain ⟨p, rfl, n0, n1, out, tp, ⟨vs, hp, hd⟩, ok⟩ := hr
    obtain ⟨tt, dp, wm, fz⟩ := w.wm.frzN (H0 := H0) hp n0 out tp hd
    refine ⟨⟨S.s.set i (.dat (.list ds)), S.m⟩, _, ⟨(w.sl.go tt fun _ _ z => z).set (AR.sr (x := .dat (.list ds)) dp), wm⟩, s.fz fz, h, tt, fun b z => ?_⟩
    by_cases q : b = p
    · exact .inr (by rw [q]; rfl)
    · rw [upd_ne q] at z
      exact .inl z
instance : DGc K TB E Ex (gName i) (wName i) where
  run := fun ρ0 T0 H0 S σ H ρ T r v Q k w s rx hr h q => by
    obtain ⟨S', ρ', T', w', s', hk, _, e, _⟩ := name_run w s hr h
    exact q _ _ _ _ _ w' s' (by rw [e]; exact .refl T) hk
instance : DGc K TB E Ex (gNameF i) (wNameF i) where
  run := fun ρ0 T0 H0 S σ H ρ T r v Q k w s rx hr h q => by
    obtain ⟨S', T', w', s', hk, tt, _⟩ := nameF_run w s hr h
    exact q _ _ _ _ _ w' s' tt hk
/-- several targets -/
class DGsc (K : PySem.W.Frag) (TB : List Addr) (E : XK) (Ex : XD → Prop) (g : TGs) (wg : outParam (List PyData → SS → (SS → Prop) → Prop)) : Prop where
  run : ∀ (ρ0 : List Addr) (T0 H0 : Hp) (S : SS) (σ : L2.St) (H : Hp) (ρ : List Addr) (T : Hp) (ds : List PyData) (vs : List V) (Q : L2.St → Hp → Prop) (k : SS → Prop), Wd K TB S σ H ρ T → Stp ρ0 T0 H0 ρ T H → Rx K E Ex ρ0 T0 H0 → DvA K T ds vs → wg ds S k →
    (∀ S' σ' H' ρ' T', Wd K TB S' σ' H' ρ' T' → Stp ρ0 T0 H0 ρ' T' H' → Same T T' → k S' → Q σ' H') → g vs σ H Q
def wgNil : List PyData → SS → (SS → Prop) → Prop := fun ds S k => match ds with
  | [] => k S
  | _ => False
def wgCons (wg : WG) (wr : List PyData → SS → (SS → Prop) → Prop) : List PyData → SS → (SS → Prop) → Prop := fun ds S k => match ds with
  | d :: r => wg (.ad (.dat d)) S fun S1 => wr r S1 k
  | _ => False
instance : DGsc K TB E Ex gNil wgNil where
  run := fun ρ0 T0 H0 S σ H ρ T ds vs Q k w s rx hd h q => by
    unfold wgNil at h
    split at h
    · exact ⟨hd, q _ _ _ _ _ w s (.refl T) h⟩
    · exact h.elim
instance {gs : TGs} {wgs : List PyData → SS → (SS → Prop) → Prop} [h1 : DGc K TB E Ex g wg] [h2 : DGsc K TB E Ex gs wgs] : DGsc K TB E Ex (gCons g gs) (wgCons wg wgs) where
  run := fun ρ0 T0 H0 S σ H ρ T ds vs Q k w s rx hd h q => by
    unfold wgCons at h
    split at h
    · rename_i d r
      obtain ⟨v, us, e, hv, hr⟩ := hd
      refine ⟨v, us, e, h1.run ρ0 T0 H0 S σ H ρ T (.ad (.dat d)) v _ _ w s rx hv h fun S1 σ1 H1 ρ1 T1 w1 s1 tt g1 => ?_⟩
      exact h2.run ρ0 T0 H0 S1 σ1 H1 ρ1 T1 r us Q k w1 s1 rx (DvA.keep tt _ _ hr) g1 fun S2 σ2 H2 ρ2 T2 w2 s2 t2 g2 => q _ _ _ _ _ w2 s2 (tt.trans t2) g2
    · exact h.elim
def wgTup (n : Nat) (wgs : List PyData → SS → (SS → Prop) → Prop) : WG := fun r S k => match r with
  | .ad (.dat (.tuple ds)) => ds.length = n ∧ wgs ds S k
  | _ => False
instance {gs : TGs} {wgs : List PyData → SS → (SS → Prop) → Prop} [hs : DGsc K TB E Ex gs wgs] : DGc K TB E Ex (gTup K n gs) (wgTup n wgs) where
  run := fun ρ0 T0 H0 S σ H ρ T r v Q k w s rx hr h q => by
    unfold wgTup at h
    split at h
    · rename_i ds
      obtain ⟨a, xs, rfl, ht, hd⟩ := hr
      exact ⟨a, xs, rfl, Same.seqT w.wm.sT ht, by rw [hd.len]; exact h.1, hs.run ρ0 T0 H0 S σ H ρ T ds xs Q k w s rx hd h.2 q⟩
    · exact h.elim
/-- xs[i] = v -/
class StL (K : PySem.W.Frag) (TB : List Addr) (t : TSet) (wt : outParam (RD → RD → RD → SS → (SS → Prop) → Prop)) : Prop where
  run : ∀ (ρ0 : List Addr) (T0 H0 : Hp) (S : SS) (σ : L2.St) (H : Hp) (ρ : List Addr) (T : Hp) (x y r : RD) (o i v : V) (Q : Hp → Prop) (k : SS → Prop), Wd K TB S σ H ρ T → Stp ρ0 T0 H0 ρ T H → RR K T ρ H H0 x o → RR K T ρ H H0 y i → RR K T ρ H H0 r v → wt x y r S k →
    (∀ S' H' ρ' T', Wd K TB S' σ H' ρ' T' → Stp ρ0 T0 H0 ρ' T' H' → Same T T' → k S' → Q H') → t o i v H Q
def wgSub (wo wi : WE) (wt : RD → RD → RD → SS → (SS → Prop) → Prop) : WG := fun r S k => wo S fun x S1 => wi S1 fun y S2 => wt x y r S2 k
instance {st : TSet} {wt : RD → RD → RD → SS → (SS → Prop) → Prop} [hO : DEc K TB E Ex to wo] [hI : DEc K TB E Ex ti wi] [hS : StL K TB st wt] : DGc K TB E Ex (gSub to ti st) (wgSub wo wi wt) where
  run := fun ρ0 T0 H0 S σ H ρ T r v Q k w s rx hr h q => by
    have rx0 := rx.go s w.lv
    refine hO.run S σ H ρ T _ _ w rx0 h fun x S1 H1 ρ1 T1 o w1 s1 r1 h1 => ?_
    refine hI.run S1 σ H1 ρ1 T1 _ _ w1 (rx0.go s1 w1.lv) h1 fun y S2 H2 ρ2 T2 i w2 s2 r2 h2 => ?_
    have old : ∀ b, H b = none → H0 b = none := fun b z => s.ne w.lv z
    have old1 : ∀ b, H1 b = none → H0 b = none := fun b z => old b (s1.ne w1.lv z)
    exact hS.run ρ0 T0 H0 S2 σ H2 ρ2 T2 x y r o i v _ k w2 (s.trans (s1.trans s2 w1.lv) w.lv) ((r1.go s2).older old) (r2.older old1) ((hr.go s1).go s2) h2 fun S' H' ρ' T' w3 s3 t3 g => q _ _ _ _ _ w3 s3 (s1.tt.trans (s2.tt.trans t3)) g
def wSetL : RD → RD → RD → SS → (SS → Prop) → Prop := fun x y r S k => match x, y with
  | .ad (.loc j), .ad (.dat (.int i)) => asD r S fun d S1 => match S1.m[j]? with
    | some (.lst ds) => ∃ n, ixN ds.length i = some n ∧ k ⟨S1.s, S1.m.set j (.lst (ds.set n d))⟩
    | _ => False
  | _, _ => False
instance : StL K TB rSetL wSetL where
  run := fun ρ0 T0 H0 S σ H ρ T x y r o i v Q k w s rx ry hr h q => by
    unfold wSetL at h
    split at h
    · rename_i j z
      obtain ⟨a, ea, rfl⟩ := rx
      cases (show i = _ from ry)
      obtain ⟨d, S1, T1, w1, f1, d1, h1, _⟩ := asD_run w hr h
      split at h1
      · rename_i ds hj
        obtain ⟨ys, ey, hy⟩ := lst_cell w1 hj ea
        obtain ⟨n, hn, hk⟩ := h1
        refine ⟨a, ys, z, n, rfl, rfl, ey, by rw [hy.len]; exact hn, ?_⟩
        refine q ⟨S1.s, S1.m.set j (.lst (ds.set n d))⟩ _ ρ T1 ⟨w1.sl, w1.wm.write hj rfl lst_nh lst_nd ea (by exact ⟨_, upd_same, hy.set n d1⟩)⟩ ((s.fz f1).trans (.write (List.mem_of_getElem? ea) ((w1.wm.ce _ _ _ hj ea).nc rfl lst_nh)) w1.lv) f1.tt hk
      · exact h1.elim
    · exact h.elim
/-! ### small statements -/
def wNext : WS := fun W S => W.nx S
def wBreak : WS := fun W S => W.bk S
def wCont : WS := fun W S => W.ct S
def wSeq (a b : WS) : WS := fun W S => a { W with nx := b W } S
def wAsg (we : WE) (wg : WG) : WS := fun W S => we S fun r S1 => wg r S1 W.nx
def wDrop (we : WE) : WS := fun W S => we S fun _ S1 => W.nx S1
def wRet (we : WE) : WS := fun W S => we S fun r S1 => W.rt r S1
def wRetN : WS := fun W S => W.rt (.ad (.dat .none)) S
def wIfS (wt : WT) (a b : WS) : WS := fun W S => wt S fun c S1 => if c = true then a W S1 else b W S1
instance : DSc K TB E Ex tNext wNext where
  run := fun ρ0 T0 H0 Tb S σ H ρ T D W w s tb rx h d => d.nx _ _ _ _ _ w s tb h
instance : DSc K TB E Ex tBreak wBreak where
  run := fun ρ0 T0 H0 Tb S σ H ρ T D W w s tb rx h d => d.bk _ _ _ _ _ w s tb h
instance : DSc K TB E Ex tCont wCont where
  run := fun ρ0 T0 H0 Tb S σ H ρ T D W w s tb rx h d => d.ct _ _ _ _ _ w s tb h
instance : DSc K TB E Ex tRetN wRetN where
  run := fun ρ0 T0 H0 Tb S σ H ρ T D W w s tb rx h d => d.rt (.ad (.dat .none)) _ _ _ _ _ _ w s rfl h
instance [h1 : DSc K TB E Ex ts ws] [h2 : DSc K TB E Ex us wu] : DSc K TB E Ex (tSeq ts us) (wSeq ws wu) where
  run := fun ρ0 T0 H0 Tb S σ H ρ T D W w s tb rx h d => h1.run ρ0 T0 H0 Tb S σ H ρ T { D with nx := us D } { W with nx := wu W } w s tb rx h
    ⟨d.n, fun S1 σ1 H1 ρ1 T1 w1 s1 t1 g => h2.run ρ0 T0 H0 Tb S1 σ1 H1 ρ1 T1 D W w1 s1 t1 rx g d, d.rt, d.bk, d.ct⟩
instance [hE : DEc K TB E Ex te we] [hG : DGc K TB E Ex g wg] : DSc K TB E Ex (tAsg te g) (wAsg we wg) where
  run := fun ρ0 T0 H0 Tb S σ H ρ T D W w s tb rx h d => hE.run S σ H ρ T _ _ w (rx.go s w.lv) h fun r S1 H1 ρ1 T1 v w1 s1 r1 h1 =>
    hG.run ρ0 T0 H0 S1 σ H1 ρ1 T1 r v _ _ w1 (s.trans s1 w.lv) rx (r1.older fun b z => s.ne w.lv z) h1 fun S2 σ2 H2 ρ2 T2 w2 s2 t2 g => d.nx _ _ _ _ _ w2 s2 (tb.trans (s1.tt.trans t2)) g
instance [hE : DEc K TB E Ex te we] : DSc K TB E Ex (tDrop te) (wDrop we) where
  run := fun ρ0 T0 H0 Tb S σ H ρ T D W w s tb rx h d => hE.run S σ H ρ T _ _ w (rx.go s w.lv) h fun r S1 H1 ρ1 T1 v w1 s1 r1 h1 => d.nx _ _ _ _ _ w1 (s.trans s1 w.lv) (tb.trans s1.tt) h1
instance [hE : DEc K TB E Ex te we] : DSc K TB E Ex (tRet te) (wRet we) where
  run := fun ρ0 T0 H0 Tb S σ H ρ T D W w s tb rx h d => hE.run S σ H ρ T _ _ w (rx.go s w.lv) h fun r S1 H1 ρ1 T1 v w1 s1 r1 h1 => d.rt r _ _ _ _ _ _ w1 (s.trans s1 w.lv) (r1.older fun b z => s.ne w.lv z) h1
instance [hT : DTc K TB E Ex tt wt] [h1 : DSc K TB E Ex ts ws] [h2 : DSc K TB E Ex us wu] : DSc K TB E Ex (tIfS tt ts us) (wIfS wt ws wu) where
  run := fun ρ0 T0 H0 Tb S σ H ρ T D W w s tb rx h d => hT.run S σ H ρ T _ _ w (rx.go s w.lv) h fun b S1 H1 ρ1 T1 w1 s1 g => by
    have g' : (if b = true then ws W S1 else wu W S1) := g
    show if b = true then ts D σ H1 else us D σ H1
    cases b with
    | true =>
      rw [if_pos rfl] at g' ⊢
      exact h1.run ρ0 T0 H0 Tb S1 σ H1 ρ1 T1 D W w1 (s.trans s1 w.lv) (tb.trans s1.tt) rx g' d
    | false =>
      rw [if_neg Bool.false_ne_true] at g' ⊢
      exact h2.run ρ0 T0 H0 Tb S1 σ H1 ρ1 T1 D W w1 (s.trans s1 w.lv) (tb.trans s1.tt) rx g' d
/-- a, b = x, y: names; F: as data -/
def tParF (fi fj : Bool) (i j : Nat) (ta : TA) : TS := tPar i j ta
def wNm (f : Bool) (i : Nat) : WG := if f = true then wNameF i else wName i
def wPar (fi fj : Bool) (i j : Nat) (w : WA) : WS := fun W S => w S fun rs S1 => match rs with
  | [r1, r2] => wNm fi i r1 S1 fun S2 => wNm fj j r2 S2 W.nx
  | _ => False
theorem nm_run {f : Bool} (w : Wd K TB S σ H ρ T) (s : Stp ρ0 T0 H0 ρ T H) (hr : RR K T ρ H H0 r v) {k : SS → Prop} (h : wNm f i r S k) : ∃ S' ρ' T', Wd K TB S' (σ.set i (some v)) H ρ' T' ∧ Stp ρ0 T0 H0 ρ' T' H ∧ k S' ∧ (∀ (j : Nat) (a : Addr), ρ[j]? = some a → ρ'[j]? = some a) ∧ Same T T' ∧ (∀ b, T' b ≠ none → T b ≠ none ∨ nwA r v = some b) ∧ ∀ p, p ∈ ρ' → p ∈ ρ ∨ nwA r v = some p := by
  unfold wNm at h
  cases f with
  | true =>
    rw [if_pos rfl] at h
    obtain ⟨S', T', w', s', hk, tt, nw⟩ := nameF_run w s hr h
    exact ⟨S', ρ, T', w', s', hk, fun _ _ z => z, tt, nw, fun _ z => .inl z⟩
  | false =>
    rw [if_neg Bool.false_ne_true] at h
    obtain ⟨S', ρ', T', w', s', hk, up, e, out⟩ := name_run w s hr h
    subst e
    exact ⟨S', ρ', T', w', s', hk, up, .refl T', fun b z => .inl z, out⟩
instance {fi fj : Bool} [hA : DAc K TB E Ex t w] : DSc K TB E Ex (tParF fi fj i j t) (wPar fi fj i j w) where
  run := fun ρ0 T0 H0 Tb S σ H ρ T D W wd s tb rx h d => hA.run S σ H ρ T _ _ wd (rx.go s wd.lv) h fun rs S1 H1 ρ1 T1 vs w1 s1 r1 h1 => by
    split at h1
    · rename_i x y
      obtain ⟨v, us, Hm, e, hr, b1, b2, v2, us2, Hm2, e2, hr2, _, _, e3⟩ := r1
      cases (show us2 = _ from e3)
      subst e e2
      have old : ∀ b, H b = none → H0 b = none := fun b z => s.ne wd.lv z
      obtain ⟨S2, ρ2, T2, w2, s2, g2, up, tt, nw, out⟩ := nm_run w1 (s.trans s1 wd.lv) (hr.older old) h1
      have hr3 : RR K T2 ρ2 H1 H0 y v2 := by
        cases y with
        | ad z => exact AR.go hr2 tt up
        | new c =>
          obtain ⟨p, e, n0, n1, o, tp, hc, ok⟩ := hr2
          refine ⟨p, e, old p (b1 p n0), n1, fun z => ?_, ?_, hc.go tt up (fun _ z => z) (fun _ _ _ _ _ z => z) (fun _ _ _ z => z), ok⟩
          · rcases out p z with z | z
            · exact o z
            · exact b2 p z n0
          · cases q : T2 p with
            | none => rfl
            | some u =>
              rcases nw p (by rw [q]; intro z; cases z) with z | z
              · exact absurd tp z
              · exact absurd n0 (b2 p z)
      obtain ⟨S3, ρ3, T3, w3, s3, g3, _, t3, _⟩ := nm_run w2 s2 hr3 g2
      exact ⟨v, v2, rfl, d.nx _ _ _ _ _ w3 s3 (tb.trans (s1.tt.trans (tt.trans t3))) g3⟩
    · exact h1.elim
/-- x op= e, ints -/
def wAug (i : Nat) (we : WE) (f : Int → Int → Int) : WS := fun W S => match S.s[i]? with
  | some (.dat (.int a)) => we S fun r S1 => asI r fun b => W.nx ⟨S1.s.set i (.dat (.int (f a b))), S1.m⟩
  | _ => False
instance {f : Int → Int → Int} [hE : DEc K TB E Ex te we] : DSc K TB E Ex (tAug i te (ipI f)) (wAug i we f) where
  run := fun ρ0 T0 H0 Tb S σ H ρ T D W w s tb rx h d => by
    unfold wAug at h
    split at h
    · rename_i a e
      obtain ⟨v, ev, hv⟩ := w.sl.get e (fun z => nomatch z)
      cases (show v = _ from hv)
      refine ⟨_, ev, hE.run S σ H ρ T _ _ w (rx.go s w.lv) h fun r S1 H1 ρ1 T1 v w1 s1 r1 h1 => ?_⟩
      obtain ⟨b, rfl, hk⟩ := asI_run r1 h1
      exact ⟨a, b, rfl, rfl, d.nx ⟨S1.s.set i (.dat (.int (f a b))), S1.m⟩ _ _ _ _ ⟨w1.sl.set (AR.sr (x := .dat (.int (f a b))) rfl), w1.wm⟩ (s.trans s1 w.lv) (tb.trans s1.tt) hk⟩
    · exact h.elim
/-! ### while -/
def wWhile (wt : WT) (wb : WS) : WS := fun W S => ∃ I : Nat → SS → Prop, (∃ m, I m S) ∧ ∀ m S, I m S → wt S fun b S1 => if b = true then
  wb { W with nx := fun S2 => ∃ S3 m', Wk W.n S2 S3 ∧ m' < m ∧ I m' S3, ct := fun S2 => ∃ S3 m', Wk W.n S2 S3 ∧ m' < m ∧ I m' S3, bk := W.nx } S1 else W.nx S1
instance [hT : DTc K TB E Ex tt wt] [h1 : DSc K TB E Ex ts ws] : DSc K TB E Ex (tWhile tt ts) (wWhile wt ws) where
  run := fun ρ0 T0 H0 Tb S σ H ρ T D W w s tb rx h d => by
    obtain ⟨I, ⟨m0, i0⟩, turn⟩ := h
    refine ⟨fun m σ H => ∃ S ρ T, Wd K TB S σ H ρ T ∧ Stp ρ0 T0 H0 ρ T H ∧ Same Tb T ∧ I m S, ⟨m0, S, ρ, T, w, s, tb, i0⟩, ?_⟩
    rintro m σ H ⟨S, ρ, T, w, s, tb, im⟩
    refine hT.run S σ H ρ T _ _ w (rx.go s w.lv) (turn m S im) fun b S1 H1 ρ1 T1 w1 s1 g => ?_
    have s01 := s.trans s1 w.lv
    have tb1 := tb.trans s1.tt
    cases b with
    | true =>
      rw [if_pos rfl] at g ⊢
      have nxt : ∀ S2 σ2 H2 ρ2 T2, Wd K TB S2 σ2 H2 ρ2 T2 → Stp ρ0 T0 H0 ρ2 T2 H2 → Same Tb T2 → (∃ S3 m', Wk W.n S2 S3 ∧ m' < m ∧ I m' S3) → ∃ m', m' < m ∧ ∃ S ρ T, Wd K TB S σ2 H2 ρ T ∧ Stp ρ0 T0 H0 ρ T H2 ∧ Same Tb T ∧ I m' S := by
        rintro S2 σ2 H2 ρ2 T2 w2 s2 t2 ⟨S3, m', wk, lt, im'⟩
        obtain ⟨ρ3, T3, w3, s3, t3⟩ := wk.run w2 s2 d.n
        exact ⟨m', lt, S3, ρ3, T3, w3, s3, t2.trans t3, im'⟩
      exact ⟨_, fun σ' H' z => z, h1.run ρ0 T0 H0 Tb S1 σ H1 ρ1 T1 _ _ w1 s01 tb1 rx g ⟨d.n, nxt, d.rt, d.nx, nxt⟩⟩
    | false =>
      rw [if_neg Bool.false_ne_true] at g ⊢
      exact d.nx _ _ _ _ _ w1 s01 tb1 g
end
end Zd
end

section
set_option maxHeartbeats 2000000
/-! enumerate of a text: its signs, each in a new pair with its place. -/
namespace Zc
open PySem PySem.Spec PyProof.Rows L2
def Its2 (z : Str) : It :=
  ⟨fun i _ => i < z.cps.size,
   fun i H v H' => ∃ T c, v = .ref T ∧ H T = none ∧ z.cps[i]? = some c ∧ H' = upd H T (.tup [.int (i : Nat), .str ⟨#[c]⟩]),
   fun i _ => z.cps.size ≤ i⟩
theorem draws_of {prog : Program} {w : World} {A : Around} (hh : A.handled = none) (it : Addr) (z : Str) (t : Tok) :
    Draws prog w A it [it] z.cps.size (fun i v => ∃ c u, z.cps[i]? = some c ∧ v = .str ⟨#[c]⟩ u) (fun i h => h.IsStrIter it (strIterType z) z t i) := by
  cases ha : z.cps.all (· < 128) with
  | true =>
    have e : strIterType z = "str_ascii_iterator" := by simp [strIterType, ha]
    rw [e]
    exact Draws.strAscii hh it z t
  | false =>
    have e : strIterType z = "str_iterator" := by simp [strIterType, ha]
    rw [e]
    exact Draws.strWide hh it z t
theorem turn_enumS {P : Program} {w : World} {K : PySem.W.Frag} {elts : List Expr} {kk : Nat} {tpos : Pos} (z : Str) (t : Tok) (e it : Addr) (hne : e ≠ it) :
    Turn P w K (.Tuple elts kk tpos) (Its2 z) [e, it] e (fun i h => (∃ old, IsEnum h e it ((i : Nat) : Int) old) ∧ h.IsStrIter it (strIterType z) z t i) where
  mem := List.mem_cons_self
  obj := by
    rintro i h ⟨⟨old, he⟩, ⟨o, ho, _, hd⟩⟩ b hb
    rcases List.mem_cons.mp hb with rfl | hb
    · refine ⟨_, he, ?_⟩
      intro v q
      cases q
    · rw [List.mem_singleton.mp hb]
      refine ⟨o, ho, ?_⟩
      intro v q
      rw [hd] at q
      cases q
  keep := by
    rintro i h h' ⟨⟨old, he⟩, ⟨o, ho, r⟩⟩ k
    exact ⟨⟨old, k e List.mem_cons_self _ he⟩, ⟨o, k it (by simp) o ho, r⟩⟩
  item := by
    intro X hP hw hK hc i pins s σ H E I hf st hg
    subst hP hw hK
    obtain ⟨⟨old, he⟩, hit⟩ := st
    have hel : e < s.heap.objs.size := Heap.lt_size he
    have hil : it < s.heap.objs.size := by
      obtain ⟨_, q, _⟩ := hit
      exact Heap.lt_size q
    have hh : X.A.in1.handled = none := I.ok.hd hc
    refine wpAny_pyNext_enum_itemD (draws_of hh it z t) he hit hg hne (fun q => hne (List.mem_singleton.mp q)) ?_
    intro x h' tk hx ho hit' hT hsz hk
    obtain ⟨c, u, hcx, rfl⟩ := hx
    refine ⟨_, rfl, wpAny_letOwnedTupleGo_enum (s := { s with heap := h', toks := tk + 1 }) ho ?_⟩
    intro h'' he' sb
    have hT2 : h''.get? s.heap.objs.size = some { cls := .type "tuple", data := .seq #[.int i tk, .str ⟨#[c]⟩ u] } :=
      (sb.2 _ (Nat.ne_of_gt hel)).trans hT
    have fresh : ObjOk X.prog X.w (upd H s.heap.objs.size (.tup [.int (i : Nat), .str ⟨#[c]⟩])) h'' s.heap.objs.size (.tup [.int (i : Nat), .str ⟨#[c]⟩]) := by
      refine ⟨by show 2 ≤ sizeLine; decide, [.int i tk, .str ⟨#[c]⟩ u], ?_, ⟨_, hT2, rfl, _, rfl⟩⟩
      exact .cons ⟨_, rfl⟩ (.cons ⟨_, rfl⟩ .nil)
    have J : Inv X pins σ (upd H s.heap.objs.size (.tup [.int (i : Nat), .str ⟨#[c]⟩])) { s with heap := h'', toks := tk + 1 } := by
      refine I.turnedNew (ch := [e, it]) ?_ hf (Nat.le_refl _) fresh
      intro b ob hb q
      have b1 : b ≠ e := fun y => hb (by rw [y]; exact List.mem_cons_self)
      have b2 : b ≠ it := fun y => hb (by rw [y]; exact List.mem_cons_of_mem _ List.mem_cons_self)
      exact (sb.2 b b1).trans (hk b ob b1 b2 q)
    refine ⟨.ref s.heap.objs.size, _, J, rfl, ⟨_, c, rfl, I.hok.fresh (Nat.le_refl _), hcx, rfl⟩, ⟨⟨.str ⟨#[c]⟩ u, ?_⟩, ?_⟩, ?_⟩
    · rw [show ((i + 1 : Nat) : Int) = (i : Int) + 1 by omega]
      exact he'
    · obtain ⟨o, q, r⟩ := hit'
      exact ⟨o, (sb.2 it (Ne.symm hne)).trans q, r⟩
    · intro b hb
      have lt : b < s.heap.objs.size := by
        rcases List.mem_cons.mp hb with y | y
        · rw [y]
          exact hel
        · rw [List.mem_singleton.mp y]
          exact hil
      rw [upd_ne (Nat.ne_of_lt lt)]
      exact (hf b hb).1
  done := by
    intro X hP hw hK hc i pins s σ H E I hf st hg
    subst hP hw hK
    obtain ⟨⟨old, he⟩, hit⟩ := st
    have hh : X.A.in1.handled = none := I.ok.hd hc
    obtain ⟨f0, f1, f2, f3, f4, f5⟩ := hf it (by simp)
    have D := draws_of (prog := X.prog) (w := X.w) hh it z t
    have D2 : Draws X.prog X.w X.A.in1 it [it] z.cps.size (fun i v => ∃ c u, z.cps[i]? = some c ∧ v = .str ⟨#[c]⟩ u) (fun j h => h.IsStrIter it (strIterType z) z t i ∧ j = z.cps.size ∨ h.IsStrIter it (strIterType z) z t j) := by
      refine ⟨?_, ?_, ?_, ?_⟩
      · rintro j h (⟨q, _⟩ | q)
        · exact D.live _ _ q
        · exact D.live _ _ q
      · rintro j h h' (⟨q, r⟩ | q) k
        · exact .inl ⟨D.frame _ _ _ q k, r⟩
        · exact .inr (D.frame _ _ _ q k)
      · rintro j s Q E hj (⟨_, r⟩ | q) hQ
        · omega
        · exact D.item j s Q E hj q fun x h' tk a b c => hQ x h' tk a (.inr b) c
      · rintro s Q E (⟨q, _⟩ | q) hE
        · have hx : z.cps[i]? = none := Array.getElem?_eq_none hg
          cases ha : z.cps.all (· < 128) with
          | true =>
            rw [show strIterType z = "str_ascii_iterator" by simp [strIterType, ha]] at q
            exact wpAny_nextOf_ascii_end hh q hx hE
          | false =>
            rw [show strIterType z = "str_iterator" by simp [strIterType, ha]] at q
            exact wpAny_nextOf_wide_end hh q hx hE
        · exact D.done s Q E q hE
    exact wpAny_pyNext_enum_endD D2 he (.inl ⟨hit, rfl⟩) fun h' eb => ⟨rfl, I.turned (t' := s.toks) (fun b o hb q => eb b o hb q) f0 f1 f3 f4 f5⟩
  self := by
    rintro A i s Q E ⟨⟨_, he⟩, _⟩ h
    exact wpAny_pyIter_enum he h
def iEnumS (ta : TA) : TI := fun σ H R => ta σ H fun vs H1 => ∃ z, vs = [.str z] ∧ R (Its2 z) H1
theorem pi_enumS {X : Cx} {e : Expr} {ta : TA} {p pos tpos : Pos} {elts : List Expr} {kk : Nat} (hg : Gl X "enumerate") (hm : X.mg "enumerate" = none) (ha : PA X [e] ta)
    (hs : starEach [e] X.env = [(false, eval e X.env)] := by rfl) : PI X (.Tuple elts kk tpos) (.Call (.Name "enumerate" p) [e] [] pos) (iEnumS ta) := by
  constructor
  intro pins s σ H R I h
  refine Call_ (ld_blt I hg hm boot_enumerate (PyProof.Rows.callWith_type1
    (thn (ha.run pos pins s σ H _ I h) ?_) hs rfl))
  rintro us s1 ⟨vs, H1, I1, r1, z, rfl, q⟩
  obtain ⟨u, rfl, t, rfl⟩ := vals1 r1
  refine call_enumerate_str fun h' he hit hsz hk => wpAny_pyIter_enum he ?_
  have I2 : Inv X pins σ H1 { s1 with heap := h' } := I1.kept (t' := s1.toks) hk
  refine ⟨s1.heap.objs.size + 1, [s1.heap.objs.size + 1, s1.heap.objs.size], _, _, H1, rfl, I2, turn_enumS z t (s1.heap.objs.size + 1) s1.heap.objs.size (Nat.succ_ne_self _), ⟨⟨.none, he⟩, hit⟩, ?_, q⟩
  intro b hb
  have le : s1.heap.objs.size ≤ b := by
    rcases List.mem_cons.mp hb with y | y
    · rw [y]
      exact Nat.le_succ _
    · rw [List.mem_singleton.mp y]
      exact Nat.le_refl _
  exact I1.fpOk le (I1.hok.fresh le)
theorem walk_enumS {z : Str} : Walk (Its2 z) z.cps.size (fun _ => True)
    (fun i H v H' => ∃ T c, v = .ref T ∧ H T = none ∧ z.cps[i]? = some c ∧ H' = upd H T (.tup [.int (i : Nat), .str ⟨#[c]⟩])) :=
  ⟨fun _ _ hi _ => hi, fun _ _ => Nat.le_refl _, fun _ _ _ _ _ _ y => y⟩
end Zc
end

section
set_option maxHeartbeats 1000000
/-! The second layer: walks, for, comprehensions, any and all. -/
namespace Zd
open PySem PySem.Spec PyProof.Rows L2 Zc
/-- a list, a tuple, a text: what stands there is walked -/
def iSeq (K : PySem.W.Frag) (tl : TE) : TI := fun σ H R => tl σ H fun x H1 => (∃ a, x = V.ref a ∧ (∃ xs, SqL K H1 a xs) ∧ R (Itl K a) H1) ∨ (∃ a, x = V.ref a ∧ (∃ xs, SqT K H1 a xs) ∧ R (Itt K a) H1) ∨ ∃ z, x = V.str z ∧ R (Its z) H1
theorem pi_seq {X : Cx} {tg l : Expr} {tl : TE} (K : PySem.W.Frag) (hK : X.K = K) (hl : PE X l tl) : PI X tg l (iSeq K tl) := by
  subst hK
  refine ⟨fun pins s σ H R I h => ?_⟩
  refine thn (hl.run pins s σ H _ I h) fun v s1 ⟨x, H1, I1, r1, q1⟩ => ?_
  rcases q1 with ⟨a, e, ⟨xs, hq⟩, q⟩ | ⟨a, e, ⟨xs, hq⟩, q⟩ | ⟨z, e, q⟩
  · subst e
    cases r1
    obtain ⟨its, rv, p, hz⟩ := I1.list hq
    exact wpAny_pyIter_list p.isList (pi_one (tk := s1.toks) I1 _ (turn_list a _) ⟨_, Heap.get?_push_size _ rfl, rfl, rfl⟩ q)
  · subst e
    cases r1
    obtain ⟨its, rv, p, hz⟩ := I1.tuple hq
    exact wpAny_pyIter_tuple (show s1.heap.IsTuple a its.toArray from p) (pi_one (tk := s1.toks) I1 _ (turn_tuple a _) ⟨_, Heap.get?_push_size _ rfl, rfl, rfl⟩ q)
  · subst e
    obtain ⟨t, rfl⟩ := r1
    cases ha : z.cps.all (· < 128)
    · exact wpAny_pyIter_wide ha (pi_one (tk := s1.toks) I1 _ (turn_str _ z t "str_iterator" (.inr rfl)) ⟨_, Heap.get?_push_size _ rfl, rfl, rfl⟩ q)
    · exact wpAny_pyIter_ascii ha (pi_one (tk := s1.toks) I1 _ (turn_str _ z t "str_ascii_iterator" (.inl rfl)) ⟨_, Heap.get?_push_size _ rfl, rfl, rfl⟩ q)
theorem zpi_enum {X : Cx} {e : Expr} {ta : TA} {p pos tpos : Pos} {elts : List Expr} {kk : Nat} (K : PySem.W.Frag) (hK : X.K = K) (hg : Gl X "enumerate") (hm : X.mg "enumerate" = none) (ha : PA X [e] ta) (hs : starEach [e] X.env = [(false, eval e X.env)] := by rfl) :
    PI X (.Tuple elts kk tpos) (.Call (.Name "enumerate" p) [e] [] pos) (iEnum K ta) := hK ▸ pi_enum hg hm ha hs
theorem zpi_zip {X : Cx} {e e2 : Expr} {ta : TA} {p pos tpos : Pos} {elts : List Expr} {kk : Nat} (K : PySem.W.Frag) (hK : X.K = K) (hg : Gl X "zip") (hm : X.mg "zip" = none) (ha : PA X [e, e2] ta)
    (hs : starEach [e, e2] X.env = (false, eval e X.env) :: starEach [e2] X.env := by rfl) (hpl : (backTo pos (starEach [e2] X.env)).any (·.1) = false := by rfl) :
    PI X (.Tuple elts kk tpos) (.Call (.Name "zip" p) [e, e2] [] pos) (iZip K ta) := hK ▸ pi_zip hg hm ha hs hpl
/-- what is walked hands out these data -/
structure GivZ (K : PySem.W.Frag) (J : It) (T : Hp) (ds : List PyData) : Prop where
  go : ∀ (i : Nat) (H' : Hp), i < ds.length → Same T H' → J.go i H'
  stop : ∀ H', Same T H' → J.stop ds.length H'
  yl : ∀ (i : Nat) (x : V) (H' H2 : Hp), i < ds.length → J.yld i H' x H2 → Same T H' → ∃ d, ds[i]? = some d ∧ ((H2 = H' ∧ Dv K T d x) ∨ ∃ p vs es, d = .tuple es ∧ x = .ref p ∧ H' p = none ∧ H2 = upd H' p (.tup vs) ∧ DvA K T es vs)
abbrev WI := SS → (List PyData → SS → Prop) → Prop
class DIc (K : PySem.W.Frag) (TB : List Addr) (E : XK) (Ex : XD → Prop) (wi : TI) (W : outParam WI) : Prop where
  run : ∀ (S : SS) (σ : L2.St) (H : Hp) (ρ : List Addr) (T : Hp) (R : It → Hp → Prop) (k : List PyData → SS → Prop), Wd K TB S σ H ρ T → Rx K E Ex ρ T H → W S k →
    (∀ ds S' H' ρ' T' J, Wd K TB S' σ H' ρ' T' → Stp ρ T H ρ' T' H' → GivZ K J T' ds → k ds S' → R J H') → wi σ H R
section
variable {K : PySem.W.Frag} {TB : List Addr} {E : XK} {Ex : XD → Prop} {T T' T0 H H' H0 : Hp} {ρ ρ' ρ0 : List Addr} {S S' : SS} {σ : L2.St} {a b : Addr} {v u : V} {x : AD} {r : RD} {n i j : Nat} {te : TE} {we : WE} {t : TA} {w : WA} {ts : TS} {ws : WS} {tt : TT} {wt : WT} {g : TG} {wg : WG} {wi : TI} {WI' : WI}
theorem giv_list {xs : List V} {ds : List PyData} (e : T a = some (.lst xs)) (h : DvA K T ds xs) : GivZ K (Itl K a) T ds where
  go := fun i H' hi s' => by
    have hx : i < xs.length := by rw [h.len]; exact hi
    exact ⟨xs, xs[i], .inl (.inl (s' _ _ e)), List.getElem?_eq_getElem hx⟩
  stop := fun H' s' => ⟨xs, .inl (.inl (s' _ _ e)), by rw [h.len]; exact Nat.le_refl _⟩
  yl := fun i x H' H2 _ y s' => by
    obtain ⟨rfl, y⟩ := y
    obtain ⟨d, e1, e2⟩ := h.get (y xs (.inl (.inl (s' _ _ e))))
    exact ⟨d, e1, .inl ⟨rfl, e2⟩⟩
theorem giv_tup {xs : List V} {ds : List PyData} (e : SqT K T a xs) (h : DvA K T ds xs) : GivZ K (Itt K a) T ds where
  go := fun i H' hi s' => by
    have hx : i < xs.length := by rw [h.len]; exact hi
    exact ⟨xs, xs[i], Same.seqT s' e, List.getElem?_eq_getElem hx⟩
  stop := fun H' s' => ⟨xs, Same.seqT s' e, by rw [h.len]; exact Nat.le_refl _⟩
  yl := fun i x H' H2 _ y s' => by
    obtain ⟨rfl, y⟩ := y
    obtain ⟨d, e1, e2⟩ := h.get (y xs (Same.seqT s' e))
    exact ⟨d, e1, .inl ⟨rfl, e2⟩⟩
/-- a text's signs -/
def signsD (z : Str) : List PyData := z.cps.toList.map fun c => PyData.str ⟨#[c]⟩
theorem giv_range {lo : Int} {n : Nat} : GivZ K (Itr lo n) T ((List.range n).map fun (i : Nat) => PyData.int (lo + i)) where
  go := fun i H' hi s' => by
    rw [List.length_map, List.length_range] at hi
    exact hi
  stop := fun H' s' => by
    show n ≤ _
    rw [List.length_map, List.length_range]
    exact Nat.le_refl _
  yl := fun i x H' H2 hi y s' => by
    obtain ⟨rfl, rfl⟩ := y
    rw [List.length_map, List.length_range] at hi
    refine ⟨.int (lo + i), ?_, .inl ⟨rfl, rfl⟩⟩
    rw [List.getElem?_map, List.getElem?_range hi]
    rfl
def itemsD : PyData → (List PyData → Prop) → Prop
  | .list ds, k => k ds
  | .tuple ds, k => k ds
  | .str z, k => k (signsD z)
  | _, _ => False
def wSeqI (we : WE) : WI := fun S k => we S fun r S1 => asD r S1 fun d S2 => itemsD d fun ds => k ds S2
theorem giv_str {z : Str} : GivZ K (Its z) T (signsD z) where
  go := fun i H' hi s' => by
    unfold signsD at hi
    rw [List.length_map, Array.length_toList] at hi
    exact hi
  stop := fun H' s' => by
    unfold signsD
    rw [List.length_map, Array.length_toList]
    exact Nat.le_refl _
  yl := fun i x H' H2 hi y s' => by
    obtain ⟨rfl, c, hc, rfl⟩ := y
    unfold signsD
    refine ⟨.str ⟨#[c]⟩, ?_, .inl ⟨rfl, rfl⟩⟩
    rw [List.getElem?_map, Array.getElem?_toList, hc]
    rfl
instance [hE : DEc K TB E Ex te we] : DIc K TB E Ex (iSeq K te) (wSeqI we) where
  run := fun S σ H ρ T R k w rx h q => hE.run S σ H ρ T _ _ w rx h fun r S1 H1 ρ1 T1 v w1 s1 r1 h1 => by
    obtain ⟨d, S2, T2, w2, f2, d2, h2, _⟩ := asD_run w1 r1 h1
    have s2 := s1.fz f2
    have sT := w2.wm.sT
    cases d <;> first | exact h2.elim | skip
    · cases (show v = _ from d2)
      exact .inr (.inr ⟨_, rfl, q _ _ _ _ _ _ w2 s2 giv_str h2⟩)
    · obtain ⟨a, xs, rfl, e, hd⟩ := d2
      exact .inl ⟨a, rfl, ⟨xs, .inl (.inl (sT _ _ e))⟩, q _ _ _ _ _ _ w2 s2 (giv_list e hd) h2⟩
    · obtain ⟨a, xs, rfl, e, hd⟩ := d2
      exact .inr (.inl ⟨a, rfl, ⟨xs, Same.seqT sT e⟩, q _ _ _ _ _ _ w2 s2 (giv_tup e hd) h2⟩)
def wRng1 (w : WA) : WI := fun S k => w S fun rs S1 => match rs with
  | [.ad (.dat (.int n))] => -1000000000 ≤ n ∧ n ≤ 1000000000 ∧ k ((List.range n.toNat).map fun (i : Nat) => PyData.int (0 + i)) S1
  | _ => False
def wRng2 (w : WA) : WI := fun S k => w S fun rs S1 => match rs with
  | [.ad (.dat (.int a)), .ad (.dat (.int b))] => (-1000000000 ≤ a ∧ a ≤ 1000000000 ∧ -1000000000 ≤ b ∧ b ≤ 1000000000) ∧ k ((List.range (b - a).toNat).map fun (i : Nat) => PyData.int (a + i)) S1
  | _ => False
instance [hA : DAc K TB E Ex t w] : DIc K TB E Ex (iRng1 t) (wRng1 w) where
  run := fun S σ H ρ T R k wd rx h q => hA.run S σ H ρ T _ _ wd rx h fun rs S1 H1 ρ1 T1 vs w1 s1 r1 h1 => by
    split at h1
    · obtain ⟨u, rfl, hr⟩ := one_run r1
      cases (show u = _ from hr)
      obtain ⟨n0, n1, hk⟩ := h1
      exact ⟨_, rfl, by omega, by omega, q _ _ _ _ _ _ w1 s1 giv_range hk⟩
    · exact h1.elim
instance [hA : DAc K TB E Ex t w] : DIc K TB E Ex (iRng2 t) (wRng2 w) where
  run := fun S σ H ρ T R k wd rx h q => hA.run S σ H ρ T _ _ wd rx h fun rs S1 H1 ρ1 T1 vs w1 s1 r1 h1 => by
    split at h1
    · cases two_run r1
      obtain ⟨n0, hk⟩ := h1
      exact ⟨_, _, rfl, by omega, q _ _ _ _ _ _ w1 s1 giv_range hk⟩
    · exact h1.elim
/-- enumerate, zip: of lists that stand -/
def enumD (ds : List PyData) : List PyData := (List.range ds.length).zipWith (fun i d => PyData.tuple [.int (i : Nat), d]) ds
def wEnum (w : WA) : WI := fun S k => w S fun rs S1 => match rs with
  | [r] => asD r S1 fun d S2 => match d with
    | .list ds => k (enumD ds) S2
    | _ => False
  | _ => False
theorem enumD_at {ds : List PyData} {i : Nat} {d : PyData} (h : ds[i]? = some d) : (enumD ds)[i]? = some (.tuple [.int (i : Nat), d]) := by
  unfold enumD
  have hi := (List.getElem?_eq_some_iff.mp h).1
  rw [List.getElem?_zipWith, List.getElem?_range hi, h]
theorem enumD_len {ds : List PyData} : (enumD ds).length = ds.length := by
  unfold enumD
  rw [List.length_zipWith, List.length_range]
  omega
instance [hA : DAc K TB E Ex t w] : DIc K TB E Ex (iEnum K t) (wEnum w) where
  run := fun S σ H ρ T R k wd rx h q => hA.run S σ H ρ T _ _ wd rx h fun rs S1 H1 ρ1 T1 vs w1 s1 r1 h1 => by
    split at h1
    · obtain ⟨u, rfl, hr⟩ := one_run r1
      obtain ⟨d, S2, T2, w2, f2, d2, h2, _⟩ := asD_run w1 hr h1
      split at h2
      · rename_i ds
        obtain ⟨a, xs, rfl, e, hd⟩ := d2
        have sT := w2.wm.sT
        refine ⟨a, xs, rfl, .inl (.inl (sT _ _ e)), q _ _ _ _ _ _ w2 (s1.fz f2) ⟨fun i H' hi s' => ?_, fun H' s' => ?_, fun i x H' H2 hi y s' => ?_⟩ h2⟩
        · rw [enumD_len, ← hd.len] at hi
          exact ⟨xs, xs[i], .inl (.inl (s' _ _ e)), List.getElem?_eq_getElem hi⟩
        · exact ⟨xs, .inl (.inl (s' _ _ e)), by rw [enumD_len, hd.len]; exact Nat.le_refl _⟩
        · obtain ⟨p, x0, rfl, np, rfl, hx⟩ := y
          obtain ⟨d, e1, e2⟩ := hd.get (hx xs (.inl (.inl (s' _ _ e))))
          exact ⟨_, enumD_at e1, .inr ⟨p, _, _, rfl, rfl, np, rfl, ⟨.int (i : Nat), [x0], rfl, rfl, DvA.one e2⟩⟩⟩
      · exact h2.elim
    · exact h1.elim
def zipD (ds es : List PyData) : List PyData := ds.zipWith (fun d e => PyData.tuple [d, e]) es
def wZip (w : WA) : WI := fun S k => w S fun rs S1 => asDs rs S1 fun xs S2 => match xs with
  | [.list ds, .list es] => k (zipD ds es) S2
  | _ => False
instance [hA : DAc K TB E Ex t w] : DIc K TB E Ex (iZip K t) (wZip w) where
  run := fun S σ H ρ T R k wd rx h q => hA.run S σ H ρ T _ _ wd rx h fun rs S1 H1 ρ1 T1 vs w1 s1 r1 h1 => by
    obtain ⟨xs, S2, T2, w2, f2, d2, h2⟩ := asDs_run w1 r1 h1
    split at h2
    · rename_i ds es
      obtain ⟨v, us, e1, ⟨a, xs, rfl, ea, hda⟩, v2, us2, e2, ⟨b, ys, rfl, eb, hdb⟩, e3⟩ := d2
      cases (show us2 = _ from e3)
      subst e2 e1
      have sT := w2.wm.sT
      have len : (zipD ds es).length = min ds.length es.length := by unfold zipD; rw [List.length_zipWith]
      refine ⟨a, b, xs, ys, rfl, .inl (.inl (sT _ _ ea)), .inl (.inl (sT _ _ eb)), q _ _ _ _ _ _ w2 (s1.fz f2) ⟨fun i H' hi s' => ?_, fun H' s' => ?_, fun i x H' H2 hi y s' => ?_⟩ h2⟩
      · rw [len] at hi
        have h1 : i < xs.length := by rw [hda.len]; omega
        have h2 : i < ys.length := by rw [hdb.len]; omega
        exact ⟨xs, ys, xs[i], ys[i], .inl (.inl (s' _ _ ea)), .inl (.inl (s' _ _ eb)), List.getElem?_eq_getElem h1, List.getElem?_eq_getElem h2⟩
      · exact ⟨xs, ys, .inl (.inl (s' _ _ ea)), .inl (.inl (s' _ _ eb)), by rw [len, hda.len, hdb.len]; omega⟩
      · obtain ⟨p, x0, y0, rfl, np, rfl, hx, hy⟩ := y
        obtain ⟨d, e1, e2⟩ := hda.get (hx xs (.inl (.inl (s' _ _ ea))))
        obtain ⟨d', e1', e2'⟩ := hdb.get (hy ys (.inl (.inl (s' _ _ eb))))
        refine ⟨.tuple [d, d'], ?_, .inr ⟨p, _, _, rfl, rfl, np, rfl, ⟨x0, [y0], rfl, e2, DvA.one e2'⟩⟩⟩
        unfold zipD
        rw [List.getElem?_zipWith, e1, e1']
    · exact h2.elim
/-- an item has come -/
theorem GivZ.item {J : It} {ds : List PyData} (G : GivZ K J T ds) (w : Wd K TB S σ H ρ T') (s : Stp ρ0 T0 H0 ρ T' H) (tt : Same T T') {i : Nat} {v : V} {H2 : Hp} (hi : i < ds.length) (y : J.yld i H v H2) :
    ∃ d T2, ds[i]? = some d ∧ Wd K TB S σ H2 ρ T2 ∧ Stp ρ0 T0 H0 ρ T2 H2 ∧ Stp ρ T' H ρ T2 H2 ∧ Dv K T2 d v := by
  obtain ⟨d, hd, h⟩ := G.yl i v H H2 hi y (tt.trans w.wm.sT)
  rcases h with ⟨rfl, h⟩ | ⟨p, vs, es, rfl, rfl, np, rfl, h⟩
  · exact ⟨d, T', hd, w, s, .refl, Dv.keep tt _ _ h⟩
  · obtain ⟨w3, s3, d3⟩ := tup_new w (DvA.keep tt _ _ h) np
    exact ⟨_, _, hd, w3, s.trans s3 w.lv, s3, d3⟩
/-! ### for -/
def wForL (wg : WG) (wb : WS) (W : WD) : List PyData → SS → Prop
  | [], S => W.nx S
  | x :: xs, S => wg (.ad (.dat x)) S fun S1 => wb { W with nx := fun S2 => ∃ S3, Wk W.n S2 S3 ∧ wForL wg wb W xs S3, ct := fun S2 => ∃ S3, Wk W.n S2 S3 ∧ wForL wg wb W xs S3, bk := W.nx } S1
def wFor (W : WI) (wg : WG) (wb : WS) : WS := fun D S => W S fun ds S1 => wForL wg wb D ds S1
instance [hI : DIc K TB E Ex wi WI'] [hG : DGc K TB E Ex g wg] [hB : DSc K TB E Ex ts ws] : DSc K TB E Ex (tFor wi g ts) (wFor WI' wg ws) where
  run := fun ρ0 T0 H0 Tb S σ H ρ T D W w s tb rx h d => hI.run S σ H ρ T _ _ w (rx.go s w.lv) h fun ds S1 H1 ρ1 T1 J w1 s1 G h1 => by
    have tb1 := tb.trans s1.tt
    refine ⟨fun i m σ H => m = ds.length - i ∧ i ≤ ds.length ∧ ∃ S ρ T, Wd K TB S σ H ρ T ∧ Stp ρ0 T0 H0 ρ T H ∧ Same T1 T ∧ wForL wg ws W (ds.drop i) S, ⟨_, rfl, Nat.zero_le _, S1, ρ1, T1, w1, s.trans s1 w.lv, .refl T1, h1⟩, ?_⟩
    rintro i m σ H ⟨rfl, hi, S, ρ, T, w, s, tt, h⟩
    by_cases hlt : i < ds.length
    · refine .inr ⟨G.go i H hlt (tt.trans w.wm.sT), fun σ' H' => ∃ S ρ T, Wd K TB S σ' H' ρ T ∧ Stp ρ0 T0 H0 ρ T H' ∧ Same T1 T ∧ wForL wg ws W (ds.drop (i + 1)) S, fun σ' H' z => ⟨_, by omega, rfl, hlt, z⟩, fun v H2 y => ?_⟩
      obtain ⟨x, T2, hx, w2, s2, s2', d2⟩ := G.item w s tt hlt y
      rw [List.drop_eq_getElem_cons hlt] at h
      rw [List.getElem?_eq_getElem hlt] at hx
      cases hx
      have tt2 := tt.trans s2'.tt
      refine hG.run ρ0 T0 H0 S σ H2 ρ T2 (.ad (.dat ds[i])) v _ _ w2 s2 rx d2 h fun S3 σ3 H3 ρ3 T3 w3 s3 t3 h3 => ?_
      have tt3 := tt2.trans t3
      have nxt : ∀ S2 σ2 H2 ρ2 T2, Wd K TB S2 σ2 H2 ρ2 T2 → Stp ρ0 T0 H0 ρ2 T2 H2 → Same T1 T2 → (∃ S3, Wk W.n S2 S3 ∧ wForL wg ws W (ds.drop (i + 1)) S3) → ∃ S ρ T, Wd K TB S σ2 H2 ρ T ∧ Stp ρ0 T0 H0 ρ T H2 ∧ Same T1 T ∧ wForL wg ws W (ds.drop (i + 1)) S := by
        rintro S2 σ2 H2 ρ2 T2 w2 s2 t2 ⟨S3, wk, hS⟩
        obtain ⟨ρ3, T3, w3, s3, t3⟩ := wk.run w2 s2 d.n
        exact ⟨S3, ρ3, T3, w3, s3, t2.trans t3, hS⟩
      exact hB.run ρ0 T0 H0 T1 S3 σ3 H3 ρ3 T3 _ _ w3 s3 tt3 rx h3 ⟨d.n, nxt, d.rt, fun S σ H ρ T w s t h => d.nx S σ H ρ T w s (tb1.trans t) h, nxt⟩
    · have ei : i = ds.length := by omega
      subst ei
      rw [List.drop_length] at h
      exact .inl ⟨G.stop H (tt.trans w.wm.sT), d.nx _ _ _ _ _ w s (tb1.trans tt) h⟩
end
end Zd
end

section
set_option maxHeartbeats 1000000
/-! The second layer: comprehensions, any and all. -/
namespace Zd
open PySem PySem.Spec PyProof.Rows L2 Zc
section
variable {σ : L2.St} {i : Nat} {x : Option V}
theorem wipe_out : ∀ {vs : List Nat} {σ : L2.St}, i ∉ vs → wipe (σ.set i x) vs = (wipe σ vs).set i x
  | [], _, _ => rfl
  | v :: vs, σ, h => by
    have h1 : i ≠ v := fun e => h (e ▸ List.mem_cons_self)
    have h2 : i ∉ vs := fun e => h (List.mem_cons_of_mem _ e)
    unfold wipe
    rw [wipe_out h2, List.set_comm _ _ h1]
theorem wipe_in : ∀ {vs : List Nat} {σ : L2.St}, i ∈ vs → wipe (σ.set i x) vs = wipe σ vs
  | [], _, h => absurd h List.not_mem_nil
  | v :: vs, σ, h => by
    unfold wipe
    by_cases e : i ∈ vs
    · rw [wipe_in e]
    · have : i = v := by
        rcases List.mem_cons.mp h with h | h
        · exact h
        · exact absurd h e
      subst this
      rw [wipe_out e, List.set_set]
end
theorem wipe_sub {vs : List Nat} {σ : L2.St} : ∀ {us : List Nat}, (∀ i ∈ us, i ∈ vs) → wipe (wipe σ us) vs = wipe σ vs
  | [], _ => rfl
  | u :: us, h => by
    show wipe ((wipe σ us).set u none) vs = _
    rw [wipe_in (h u List.mem_cons_self), wipe_sub fun i hi => h i (List.mem_cons_of_mem _ hi)]
theorem wipe_wipe {vs : List Nat} {σ : L2.St} : wipe (wipe σ vs) vs = wipe σ vs := wipe_sub fun _ h => h
/-- a target that writes these slots alone -/
class GOn (vs : List Nat) (g : TG) : Prop where
  run : ∀ (v : V) (σ : L2.St) (H : Hp) (Q : L2.St → Hp → Prop), g v σ H Q → g v σ H fun σ' H' => wipe σ' vs = wipe σ vs ∧ Q σ' H'
class GOns (vs : List Nat) (g : TGs) : Prop where
  run : ∀ (v : List V) (σ : L2.St) (H : Hp) (Q : L2.St → Hp → Prop), g v σ H Q → g v σ H fun σ' H' => wipe σ' vs = wipe σ vs ∧ Q σ' H'
class InL (i : Nat) (vs : List Nat) : Prop where
  mem : i ∈ vs
instance {i : Nat} {vs : List Nat} : InL i (i :: vs) := ⟨List.mem_cons_self⟩
instance {i j : Nat} {vs : List Nat} [h : InL i vs] : InL i (j :: vs) := ⟨List.mem_cons_of_mem _ h.mem⟩
instance {i : Nat} {vs : List Nat} [h : InL i vs] : GOn vs (gName i) := ⟨fun v σ H Q q => ⟨wipe_in h.mem, q⟩⟩
instance {i : Nat} {vs : List Nat} [h : InL i vs] : GOn vs (gNameF i) := ⟨fun v σ H Q q => ⟨wipe_in h.mem, q⟩⟩
instance {vs : List Nat} : GOns vs gNil := ⟨fun v σ H Q q => ⟨q.1, rfl, q.2⟩⟩
theorem tg_cons {vs : List Nat} {g : TG} {gs : TGs} (h : GOn vs g) (hs : GOns vs gs) (mono : ∀ (v : V) (σ : L2.St) (H : Hp) (Q Q' : L2.St → Hp → Prop), g v σ H Q → (∀ a b, Q a b → Q' a b) → g v σ H Q') : GOns vs (gCons g gs) := ⟨fun vs' σ H Q ⟨v, r, e, q⟩ =>
  ⟨v, r, e, mono _ _ _ _ _ (h.run v σ H _ q) fun σ1 H1 ⟨e1, q1⟩ => by
    have := hs.run r σ1 H1 _ q1
    rw [← e1]
    exact this⟩⟩
instance {vs : List Nat} {i : Nat} {gs : TGs} [h : InL i vs] [hs : GOns vs gs] : GOns vs (gCons (gName i) gs) := tg_cons inferInstance hs fun v σ H Q Q' q m => m _ _ q
instance {vs : List Nat} {n : Nat} {K : PySem.W.Frag} {gs : TGs} [hs : GOns vs gs] : GOn vs (gTup K n gs) := ⟨fun v σ H Q ⟨a, xs, e, h, l, q⟩ => ⟨a, xs, e, h, l, hs.run xs σ H Q q⟩⟩
theorem tgt_mono {K : PySem.W.Frag} {n : Nat} {gs : TGs} (mono : ∀ (v : List V) (σ : L2.St) (H : Hp) (Q Q' : L2.St → Hp → Prop), gs v σ H Q → (∀ a b, Q a b → Q' a b) → gs v σ H Q') (v : V) (σ : L2.St) (H : Hp) (Q Q' : L2.St → Hp → Prop) (h : gTup K n gs v σ H Q) (m : ∀ a b, Q a b → Q' a b) : gTup K n gs v σ H Q' := by
  obtain ⟨a, xs, e, h, l, q⟩ := h
  exact ⟨a, xs, e, h, l, mono _ _ _ _ _ q m⟩
/-- monotony of targets -/
class GMo (g : TG) : Prop where
  run : ∀ (v : V) (σ : L2.St) (H : Hp) (Q Q' : L2.St → Hp → Prop), g v σ H Q → (∀ a b, Q a b → Q' a b) → g v σ H Q'
class GMos (g : TGs) : Prop where
  run : ∀ (v : List V) (σ : L2.St) (H : Hp) (Q Q' : L2.St → Hp → Prop), g v σ H Q → (∀ a b, Q a b → Q' a b) → g v σ H Q'
instance {i : Nat} : GMo (gName i) := ⟨fun v σ H Q Q' q m => m _ _ q⟩
instance : GMos gNil := ⟨fun v σ H Q Q' q m => ⟨q.1, m _ _ q.2⟩⟩
instance {g : TG} {gs : TGs} [h : GMo g] [hs : GMos gs] : GMos (gCons g gs) := ⟨fun v σ H Q Q' ⟨x, r, e, q⟩ m => ⟨x, r, e, h.run _ _ _ _ _ q fun a b q => hs.run _ _ _ _ _ q m⟩⟩
instance {K : PySem.W.Frag} {n : Nat} {gs : TGs} [hs : GMos gs] : GMo (gTup K n gs) := ⟨fun v σ H Q Q' h m => tgt_mono hs.run v σ H Q Q' h m⟩
instance {vs : List Nat} {n : Nat} {K : PySem.W.Frag} {gs gs' : TGs} [h1 : GOns vs gs] [m1 : GMos gs] [hs : GOns vs gs'] : GOns vs (gCons (gTup K n gs) gs') := tg_cons inferInstance hs (tgt_mono m1.run)
section
variable {K : PySem.W.Frag} {TB : List Addr} {E : XK} {Ex : XD → Prop} {T T' T0 H H' H0 : Hp} {ρ ρ' ρ0 : List Addr} {S S' : SS} {σ : L2.St} {a b D : Addr} {v u : V} {r : RD} {n i j : Nat} {te : TE} {we : WE} {tt : TT} {wt : WT} {g : TG} {wg : WG} {wi : TI} {W : WI} {vs : List Nat} {o : HO}
instance : DTc K TB E Ex tYes (fun S k => k true S) where
  run := fun S σ H ρ T Q k w rx h q => q _ _ _ _ _ w .refl h
theorem SRs.wipe : ∀ {vs : List Nat} {as : List AD}, SRs K T ρ as σ → SRs K T ρ (unAll vs as) (L2.wipe σ vs)
  | [], _, h => h
  | v :: vs, as, h => (SRs.wipe (vs := vs) h).set trivial
theorem Wd.slots {s' : List AD} {σ' : L2.St} (w : Wd K TB S σ H ρ T) (h : SRs K T ρ s' σ') : Wd K TB ⟨s', S.m⟩ σ' H ρ T := ⟨h, w.wm⟩
/-- a thing that stands by itself is written -/
theorem Wm.side {m : List CD} (w : Wm K TB m H ρ T) (out : D ∉ ρ) (tD : T D = none) (ntb : D ∉ TB) (hcd : ∀ b c q, H b = some (LamX.CodeO c q) → upd H D o b = some (LamX.CodeO c q)) : Wm K TB m (upd H D o) ρ T where
  len := w.len
  nd := w.nd
  ce := fun k c a h e => by
    have ne : ∀ {k : Nat} {b : Addr}, ρ[k]? = some b → b ≠ D := fun e z => out (z ▸ List.mem_of_getElem? e)
    exact (w.ce k c a h e).go (.refl T) (fun _ _ z => z) (fun o z => by rw [upd_ne (ne e)]; exact z) (fun l b _ eb o z => by rw [upd_ne (ne eb)]; exact z) hcd
  lv := fun a ha z => by
    have ne : a ≠ D := fun e => out (e ▸ ha)
    rw [upd_ne ne] at z
    exact w.lv a ha z
  tn := w.tn
  dl := w.dl
  sT := same_upd w.sT tD
  tb := fun P hP => ⟨by
    have ne : P ≠ D := fun e => ntb (e ▸ hP)
    rw [upd_ne ne]
    exact (w.tb P hP).1, (w.tb P hP).2⟩
theorem Stp.side (s : Stp ρ0 T0 H0 ρ T H) (n0 : H0 D = none) : Stp ρ0 T0 H0 ρ T (upd H D o) where
  pre := s.pre
  tt := s.tt
  nw := s.nw
  hh := fun b u nb h => by rw [upd_ne (ne_of_none h n0)]; exact s.hh b u nb h
  cd := fun b c q h => by rw [upd_ne (ne_of_none h n0)]; exact s.cd b c q h
def wLcL (wg : WG) (wt : WT) (we : WE) (vs : List Nat) (s0 : List AD) (k : RD → SS → Prop) : List PyData → List PyData → List CD → Prop
  | [], acc, m => k (.new (.lst acc)) ⟨s0, m⟩
  | x :: xs, acc, m => wg (.ad (.dat x)) ⟨unAll vs s0, m⟩ fun S1 => wt S1 fun b S2 => if b = true then we S2 fun r S3 => asD r S3 fun d S4 => wLcL wg wt we vs s0 k xs (acc ++ [d]) S4.m else wLcL wg wt we vs s0 k xs acc S2.m
def wLc (W : WI) (wg : WG) (wt : WT) (we : WE) (vs : List Nat) : WE := fun S k => W S fun ds S1 => ds.length < 1000000 ∧ wLcL wg wt we vs S1.s k ds [] S1.m
/-- .. the new list, in the making -/
theorem lst_side (h : RR K T ρ H H0 (.new (.lst ds)) (.ref D)) : H0 D = none ∧ D ∉ ρ ∧ T D = none ∧ ∃ ys, H D = some (.lst ys) ∧ DvA K T ds ys := by
  obtain ⟨p, e, n0, n1, out, tp, ⟨ys, hp, hd⟩, ok⟩ := h
  cases e
  exact ⟨n0, out, tp, ys, hp, hd⟩
instance [hI : DIc K TB E Ex wi W] [hG : DGc K TB E Ex g wg] [hO : GOn vs g] [hT : DTc K TB E Ex tt wt] [hE : DEc K TB E Ex te we] : DEc K TB E Ex (tLc wi g tt te vs) (wLc W wg wt we vs) where
  run := fun S σ H0 ρ0 T0 Q k w rx h q => hI.run S σ H0 ρ0 T0 _ _ w rx h fun ds S1 H1 ρ1 T1 J w1 s1 G h1 => by
    intro D nD
    obtain ⟨hz, h1⟩ := h1
    have old1 : H0 D = none := s1.ne w1.lv nD
    obtain ⟨w1', s1', r1'⟩ := lst_new (H0 := H0) w1 (ds := []) (vs := []) rfl nD (fun b z => s1.ne w1.lv z)
    refine ⟨fun i m H => m = ds.length - i ∧ i ≤ ds.length ∧ ∃ acc mm ρ T, Wd K TB ⟨S1.s, mm⟩ σ H ρ T ∧ Stp ρ0 T0 H0 ρ T H ∧ (∀ (k : Nat) (a : Addr), ρ1[k]? = some a → ρ[k]? = some a) ∧ Same T1 T ∧ RR K T ρ H H0 (.new (.lst acc)) (.ref D) ∧ acc.length ≤ i ∧ wLcL wg wt we vs S1.s k (ds.drop i) acc mm,
      ⟨_, rfl, Nat.zero_le _, [], S1.m, ρ1, T1, w1', s1.trans s1' w1.lv, fun _ _ z => z, .refl T1, r1', Nat.le_refl _, h1⟩, ?_⟩
    rintro i m H ⟨rfl, hi, acc, mm, ρ, T, w, s, up, tt1, rD, la, h⟩
    have ntb : D ∉ TB := fun z => by
      have := (w1.wm.tb D z).1
      rw [nD] at this
      cases this
    by_cases hlt : i < ds.length
    · refine .inr ⟨G.go i H hlt (tt1.trans w.wm.sT), fun H' => ∃ acc mm ρ T, Wd K TB ⟨S1.s, mm⟩ σ H' ρ T ∧ Stp ρ0 T0 H0 ρ T H' ∧ (∀ (k : Nat) (a : Addr), ρ1[k]? = some a → ρ[k]? = some a) ∧ Same T1 T ∧ RR K T ρ H' H0 (.new (.lst acc)) (.ref D) ∧ acc.length ≤ i + 1 ∧ wLcL wg wt we vs S1.s k (ds.drop (i + 1)) acc mm, fun H' z => ⟨_, by omega, rfl, hlt, z⟩, fun v H2 y => ?_⟩
      obtain ⟨x, T2, hx, w2, s2, s2', d2⟩ := G.item w s tt1 hlt y
      rw [List.drop_eq_getElem_cons hlt] at h
      rw [List.getElem?_eq_getElem hlt] at hx
      cases hx
      have tt2 := tt1.trans s2'.tt
      have rD2 := rD.go s2'
      have wv : Wd K TB ⟨unAll vs S1.s, mm⟩ (wipe σ vs) H2 ρ T2 := w2.slots w2.sl.wipe
      have rx2 : Rx K E Ex ρ T2 H2 := rx.go s2 w2.lv
      have all := hO.run v (wipe σ vs) H2 _ (hG.run ρ T2 H2 ⟨unAll vs S1.s, mm⟩ (wipe σ vs) H2 ρ T2 (.ad (.dat ds[i])) v (fun σ' H' => tt σ' H' fun b H3 => if b = true then te σ' H3 fun y H4 => ∃ acc, H4 D = some (.lst acc) ∧ acc.length < sizeLine ∧ (fun H' => ∃ acc mm ρ T, Wd K TB ⟨S1.s, mm⟩ σ H' ρ T ∧ Stp ρ0 T0 H0 ρ T H' ∧ (∀ (k : Nat) (a : Addr), ρ1[k]? = some a → ρ[k]? = some a) ∧ Same T1 T ∧ RR K T ρ H' H0 (.new (.lst acc)) (.ref D) ∧ acc.length ≤ i + 1 ∧ wLcL wg wt we vs S1.s k (ds.drop (i + 1)) acc mm) (upd H4 D (.lst (acc ++ [y]))) else (fun H' => ∃ acc mm ρ T, Wd K TB ⟨S1.s, mm⟩ σ H' ρ T ∧ Stp ρ0 T0 H0 ρ T H' ∧ (∀ (k : Nat) (a : Addr), ρ1[k]? = some a → ρ[k]? = some a) ∧ Same T1 T ∧ RR K T ρ H' H0 (.new (.lst acc)) (.ref D) ∧ acc.length ≤ i + 1 ∧ wLcL wg wt we vs S1.s k (ds.drop (i + 1)) acc mm) H3) _ wv .refl rx2 d2 h ?_)
      · rw [wipe_wipe] at all
        exact all
      intro S3 σ3 H3 ρ3 T3 w3 s3 t3 h3
      have rx3 := rx2.go s3 w3.lv
      have rD3 := rD2.go s3
      refine hT.run S3 σ3 H3 ρ3 T3 _ _ w3 rx3 h3 fun b S4 H4 ρ4 T4 w4 s4 h4 => ?_
      have s04 : Stp ρ0 T0 H0 ρ4 T4 H4 := (s2.trans s3 w2.lv).trans s4 w3.lv
      have tt4 : Same T1 T4 := tt2.trans (s3.tt.trans s4.tt)
      have rD4 := rD3.go s4
      have up4 : ∀ (k : Nat) (a : Addr), ρ1[k]? = some a → ρ4[k]? = some a := fun k a z => s4.at (s3.at (s2'.at (up k a z)))
      have base : ∀ {mm ρ T H}, Wm K TB mm H ρ T → (∀ (k : Nat) (a : Addr), ρ1[k]? = some a → ρ[k]? = some a) → Same T1 T → Wd K TB ⟨S1.s, mm⟩ σ H ρ T := fun wm up tt => ⟨w1.sl.go tt up, wm⟩
      cases b with
      | false =>
        rw [if_neg Bool.false_ne_true] at h4 ⊢
        exact ⟨acc, S4.m, ρ4, T4, base w4.wm up4 tt4, s04, up4, tt4, rD4, by omega, h4⟩
      | true =>
        rw [if_pos rfl] at h4 ⊢
        refine hE.run S4 σ3 H4 ρ4 T4 _ _ w4 (rx3.go s4 w4.lv) h4 fun r S5 H5 ρ5 T5 y w5 s5 r5 h5 => ?_
        obtain ⟨d, S6, T6, w6, f6, d6, h6, nw6⟩ := asD_run w5 r5 h5
        obtain ⟨_, _, _, y4, hD4, _⟩ := lst_side rD4
        obtain ⟨n0, out5, tD5, ys, hD, hd⟩ := lst_side (rD4.go s5)
        have tD6 : T6 D = none := by
          cases q : T6 D with
          | none => rfl
          | some u =>
            rcases nw6 D (by rw [q]; intro z; cases z) with z | z | z
            · exact absurd tD5 z
            · exact absurd z out5
            · cases r with
              | ad _ => cases z
              | new c =>
                obtain ⟨p, e, n4, _⟩ := r5
                subst e
                cases z
                rw [hD4] at n4
                cases n4
        have up5 : ∀ (k : Nat) (a : Addr), ρ1[k]? = some a → ρ5[k]? = some a := fun k a z => s5.at (up4 k a z)
        have tt6 : Same T1 T6 := tt4.trans (s5.tt.trans f6.tt)
        have s06 : Stp ρ0 T0 H0 ρ5 T6 H5 := (s04.trans s5 w4.lv).fz ⟨f6.tt, fun b z => (f6.nw b z).imp id fun z => z.imp id fun z => s04.ne w4.lv z⟩
        refine ⟨ys, hD, by rw [hd.len]; exact size_lt (by omega), acc ++ [d], S6.m, ρ5, T6, base (w6.wm.side out5 tD6 ntb (fun b c q z => by
          have n1 : b ≠ D := fun y => by rw [y, hD] at z; unfold LamX.CodeO at z; cases z
          rw [upd_ne n1]; exact z)) up5 tt6, s06.side n0, up5, tt6, ?_, by rw [List.length_append, List.length_singleton]; omega, h6⟩
        exact ⟨D, rfl, n0, by rw [upd_same]; exact (fun z => nomatch z), out5, tD6, ⟨ys ++ [y], upd_same, (DvA.keep f6.tt _ _ hd).snoc d6⟩, rfl⟩
    · have ei : i = ds.length := by omega
      subst ei
      rw [List.drop_length] at h
      exact .inl ⟨G.stop H (tt1.trans w.wm.sT), q _ _ _ _ _ _ w s rD h⟩
/-! ### any, all -/
def wGenL (go : Bool) (wg : WG) (wt : WT) (we : WE) (vs : List Nat) (s0 : List AD) (k : RD → SS → Prop) : List PyData → List CD → Prop
  | [], m => k (.ad (.dat (.bool go))) ⟨s0, m⟩
  | x :: xs, m => wg (.ad (.dat x)) ⟨unAll vs s0, m⟩ fun S1 => wt S1 fun b S2 => if b = true then we S2 fun r S3 => asB r fun c => if c = go then wGenL go wg wt we vs s0 k xs S3.m else k (.ad (.dat (.bool (!go)))) ⟨s0, S3.m⟩ else wGenL go wg wt we vs s0 k xs S2.m
def wGen (TB : List Addr) (P : Addr) (go : Bool) (W : WI) (wg : WG) (wt : WT) (we : WE) (vs : List Nat) : WE := fun S k => P ∈ TB ∧ W S fun ds S1 => wGenL go wg wt we vs S1.s k ds S1.m
instance {P : Addr} {go : Bool} [hI : DIc K TB E Ex wi W] [hG : DGc K TB E Ex g wg] [hO : GOn vs g] [hT : DTc K TB E Ex tt wt] [hE : DEc K TB E Ex te we] : DEc K TB E Ex (tGen P go wi g tt te vs) (wGen TB P go W wg wt we vs) where
  run := fun S σ H0 ρ0 T0 Q k w rx ⟨hP, h⟩ q => hI.run S σ H0 ρ0 T0 _ _ w rx h fun ds S1 H1 ρ1 T1 J w1 s1 G h1 => by
    refine ⟨(w1.wm.tb P hP).1, fun i m H => m = ds.length - i ∧ i ≤ ds.length ∧ ∃ mm ρ T, Wd K TB ⟨S1.s, mm⟩ σ H ρ T ∧ Stp ρ0 T0 H0 ρ T H ∧ (∀ (k : Nat) (a : Addr), ρ1[k]? = some a → ρ[k]? = some a) ∧ Same T1 T ∧ wGenL go wg wt we vs S1.s k (ds.drop i) mm,
      ⟨_, rfl, Nat.zero_le _, S1.m, ρ1, T1, w1, s1, fun _ _ z => z, .refl T1, h1⟩, ?_⟩
    rintro i m H ⟨rfl, hi, mm, ρ, T, w, s, up, tt1, h⟩
    by_cases hlt : i < ds.length
    · refine .inr ⟨G.go i H hlt (tt1.trans w.wm.sT), fun H' => ∃ mm ρ T, Wd K TB ⟨S1.s, mm⟩ σ H' ρ T ∧ Stp ρ0 T0 H0 ρ T H' ∧ (∀ (k : Nat) (a : Addr), ρ1[k]? = some a → ρ[k]? = some a) ∧ Same T1 T ∧ wGenL go wg wt we vs S1.s k (ds.drop (i + 1)) mm, fun H' z => ⟨_, by omega, rfl, hlt, z⟩, fun v H2 y => ?_⟩
      obtain ⟨x, T2, hx, w2, s2, s2', d2⟩ := G.item w s tt1 hlt y
      rw [List.drop_eq_getElem_cons hlt] at h
      rw [List.getElem?_eq_getElem hlt] at hx
      cases hx
      have tt2 := tt1.trans s2'.tt
      have wv : Wd K TB ⟨unAll vs S1.s, mm⟩ (wipe σ vs) H2 ρ T2 := w2.slots w2.sl.wipe
      have rx2 : Rx K E Ex ρ T2 H2 := rx.go s2 w2.lv
      have all := hO.run v (wipe σ vs) H2 _ (hG.run ρ T2 H2 ⟨unAll vs S1.s, mm⟩ (wipe σ vs) H2 ρ T2 (.ad (.dat ds[i])) v (fun σ' H' => tt σ' H' fun b H3 => if b = true then te σ' H3 fun y H4 => ∃ c, y = .bl c ∧ if c = go then (fun H' => ∃ mm ρ T, Wd K TB ⟨S1.s, mm⟩ σ H' ρ T ∧ Stp ρ0 T0 H0 ρ T H' ∧ (∀ (k : Nat) (a : Addr), ρ1[k]? = some a → ρ[k]? = some a) ∧ Same T1 T ∧ wGenL go wg wt we vs S1.s k (ds.drop (i + 1)) mm) H4 else Q (.bl (!go)) H4 else (fun H' => ∃ mm ρ T, Wd K TB ⟨S1.s, mm⟩ σ H' ρ T ∧ Stp ρ0 T0 H0 ρ T H' ∧ (∀ (k : Nat) (a : Addr), ρ1[k]? = some a → ρ[k]? = some a) ∧ Same T1 T ∧ wGenL go wg wt we vs S1.s k (ds.drop (i + 1)) mm) H3) _ wv .refl rx2 d2 h ?_)
      · rw [wipe_wipe] at all
        exact all
      intro S3 σ3 H3 ρ3 T3 w3 s3 t3 h3
      have rx3 := rx2.go s3 w3.lv
      refine hT.run S3 σ3 H3 ρ3 T3 _ _ w3 rx3 h3 fun b S4 H4 ρ4 T4 w4 s4 h4 => ?_
      have s04 : Stp ρ0 T0 H0 ρ4 T4 H4 := (s2.trans s3 w2.lv).trans s4 w3.lv
      have tt4 : Same T1 T4 := tt2.trans (s3.tt.trans s4.tt)
      have up4 : ∀ (k : Nat) (a : Addr), ρ1[k]? = some a → ρ4[k]? = some a := fun k a z => s4.at (s3.at (s2'.at (up k a z)))
      have base : ∀ {mm ρ T H}, Wm K TB mm H ρ T → (∀ (k : Nat) (a : Addr), ρ1[k]? = some a → ρ[k]? = some a) → Same T1 T → Wd K TB ⟨S1.s, mm⟩ σ H ρ T := fun wm up tt => ⟨w1.sl.go tt up, wm⟩
      cases b with
      | false =>
        rw [if_neg Bool.false_ne_true] at h4 ⊢
        exact ⟨S4.m, ρ4, T4, base w4.wm up4 tt4, s04, up4, tt4, h4⟩
      | true =>
        rw [if_pos rfl] at h4 ⊢
        refine hE.run S4 σ3 H4 ρ4 T4 _ _ w4 (rx3.go s4 w4.lv) h4 fun r S5 H5 ρ5 T5 y w5 s5 r5 h5 => ?_
        obtain ⟨c, rfl, _, h6⟩ := asB_run r5 h5
        have s05 := s04.trans s5 w4.lv
        have up5 : ∀ (k : Nat) (a : Addr), ρ1[k]? = some a → ρ5[k]? = some a := fun k a z => s5.at (up4 k a z)
        have tt5 : Same T1 T5 := tt4.trans s5.tt
        refine ⟨c, rfl, ?_⟩
        by_cases hc : c = go
        · rw [if_pos hc] at h6 ⊢
          exact ⟨S5.m, ρ5, T5, base w5.wm up5 tt5, s05, up5, tt5, h6⟩
        · rw [if_neg hc] at h6 ⊢
          exact q (.ad (.dat (.bool (!go)))) _ _ _ _ _ (base w5.wm up5 tt5) s05 rfl h6
    · have ei : i = ds.length := by omega
      subst ei
      rw [List.drop_length] at h
      exact .inl ⟨G.stop H (tt1.trans w.wm.sT), q (.ad (.dat (.bool go))) _ _ _ _ _ w s rfl h⟩
end
end Zd
end

section
set_option maxHeartbeats 2000000
/-! a call of a def whose promise holds where no repr runs around it -/
namespace Zc
open PySem PySem.Spec PyProof.Rows L2
section
variable {X : Cx} {k : Nat} {f : Addr} {fd : FuncData} {ps : List Str} {sp : Sp} {x : Str} {q pos : Pos} {e : Expr} {es : List Expr} {t : TA}
def tCallG (sp : Sp) (t : TA) : TE := fun σ H Q => t σ H fun vs H1 => sp vs H1 Q fun _ _ _ => False
theorem pe_callG (F : FnG X.prog X.w X.K X.mg X.base k f fd ps sp) (hr : Room k X.A) (hgd : X.A.guards = some [])
    (hg : Gl X x) (hm : X.mg x = some (.ref f)) (hk : PySem.W.keepIn X.K (.ref f) = true) (hb : Binds X.K fd ps [])
    (ha : PA X (e :: es) t) (hdb : (x == ("__debug__" : Str)) = false := by decide)
    (he : starEach (e :: es) X.env = (false, eval e X.env) :: starEach es X.env := by rfl)
    (hpl : (backTo pos (starEach es X.env)).any (·.1) = false := by rfl) :
    PE X (.Call (.Name x q) (e :: es) [] pos) (tCallG sp t) := by
  constructor
  intro pins s σ H Q I h
  apply wpAny_Call_Name_kw (ld_glob I hg hm ?_ hdb)
  apply PySem.W.callWith_K (h₀ := X.base) I.ok.mod.kin hk ?_ he hpl
  apply thn (ha.run pos pins s σ H _ I h)
  rintro us s1 ⟨vs, H1, I1, r, q2⟩
  refine ⟨I1.kIn, ?_⟩
  have hl : us.length = ps.length := by
    rw [← r.length]
    exact F.len _ _ _ _ q2
  have b := hb s1 us I1.kIn (by rw [List.append_nil]; exact hl)
  rw [List.append_nil] at b
  apply wpAny_call
  apply codeAny_mono (F.run X.A X.stack s1 H1 ⟨us, []⟩ us vs Q (fun _ _ _ => False) hr hgd I1.env0 b r q2)
  intro r s' hq
  match r, hq with
  | .error e, hq => exact pass0 (X := X) pins σ H1 s1 e s' I1 hq
  | .ok (.ret u), hq => exact I1.after hq
  | .ok .next, hq => exact False.elim hq
  | .ok .brk, hq => exact False.elim hq
  | .ok .cont, hq => exact False.elim hq
end
end Zc
end

section
set_option maxHeartbeats 1000000
/-! The second layer: promises, calls, defs. -/
namespace Zd
open PySem PySem.Spec PyProof.Rows L2 Zc
/-- a result without cells -/
def flatR : RD → Bool
  | .ad (.dat _) => true
  | .ad (.val _) => true
  | .new (.lst _) => true
  | _ => false
abbrev PSp := List AD → (RD → Prop) → (XD → Prop) → Prop
/-- a promise over data; B: the cells that are lent (as they are behind the call, too) -/
def toSp (K : PySem.W.Frag) (TB : List Addr) (B : List CD) (n : Nat) (psp : PSp) : Sp := fun vs H Q E => ∃ (as : List AD) (β : List Addr) (T : Hp) (k : RD → Prop) (Ex : XD → Prop),
  as.length = n ∧ ARs K T β as vs ∧ Wm K TB B H β T ∧ psp as k Ex ∧ Rx K E Ex β T H ∧
  ∀ r H' T' v, flatR r = true → Wm K TB B H' β T' → Stp β T H β T' H' → RR K T' β H' H r v → k r → Q v H'
/-- of data alone; of a deal and data -/
abbrev spP (K : PySem.W.Frag) (TB : List Addr) (n : Nat) (psp : PSp) : Sp := toSp K TB [] n psp
abbrev dealB : List CD := [.deal 1, .held]
/-- the deal is the first argument -/
def dealP (psp : PSp) : PSp := fun as k Ex => ∃ as', as = .loc 0 :: as' ∧ psp as' k Ex
abbrev spD (K : PySem.W.Frag) (TB : List Addr) (n : Nat) (psp : PSp) : Sp := toSp K TB dealB n (dealP psp)
theorem pass00 {X : Cx} : Passes CX0 X E0 := pass0
section
variable {K : PySem.W.Frag} {TB : List Addr} {E : XK} {Ex : XD → Prop} {T T' T0 H H' H0 : Hp} {ρ ρ' ρ0 β : List Addr} {S S' : SS} {σ : L2.St} {a b d l : Addr} {v u : V} {r : RD} {n i j : Nat} {t : TA} {w : WA} {m : List CD}
theorem ARs.len : ∀ {as : List AD} {vs : List V}, ARs K T ρ as vs → vs.length = as.length
  | [], _, h => by cases (show _ = _ from h); rfl
  | a :: as, _, ⟨v, us, e, h, r⟩ => by rw [e, List.length_cons, List.length_cons, ARs.len r]
theorem toSp_len {B : List CD} {psp : PSp} (vs : List V) (H : Hp) (Q : VK) (E : XK) (h : toSp K TB B n psp vs H Q E) : vs.length = n := by
  obtain ⟨as, β, T, k, Ex, hl, ha, _⟩ := h
  rw [ha.len, hl]
/-- a weaker promise -/
theorem toSp_imp {B : List CD} {psp psp' : PSp} (h : ∀ as k Ex, psp' as k Ex → psp as k Ex) {vs : List V} {Q : VK} (g : toSp K TB B n psp' vs H Q E) : toSp K TB B n psp vs H Q E := by
  obtain ⟨as, β, T, k, Ex, hl, ha, wm, hp, q⟩ := g
  exact ⟨as, β, T, k, Ex, hl, ha, wm, h _ _ _ hp, q⟩
/-! ### arguments as data -/
def coA : List RD → SS → (List AD → SS → Prop) → Prop
  | [], S, k => k [] S
  | .ad (.dat d) :: rs, S, k => coA rs S fun as S1 => k (.dat d :: as) S1
  | .ad (.val v) :: rs, S, k => coA rs S fun as S1 => k (.val v :: as) S1
  | .new (.lst ds) :: rs, S, k => coA rs S fun as S1 => k (.dat (.list ds) :: as) S1
  | .ad (.loc j) :: rs, S, k => match S.m[j]? with
    | some (.lst ds) => coA rs (S.frz j ds) fun as S1 => k (.dat (.list ds) :: as) S1
    | some .gone => False
    | some _ => coA rs S fun as S1 => k (.loc j :: as) S1
    | none => False
  | _ :: _, _, _ => False
theorem coA_run : ∀ {rs : List RD} {H0 T : Hp} {S : SS} {vs : List V} {k : List AD → SS → Prop}, Wd K TB S σ H ρ T → RRs K T ρ H H0 rs vs → coA rs S k → ∃ as S' T', Wd K TB S' σ H ρ T' ∧ Fz H0 ρ T T' ∧ ARs K T' ρ as vs ∧ k as S'
  | [], H0, T, S, _, k, w, rfl, h => ⟨[], S, T, w, .refl, rfl, h⟩
  | r :: rs, H0, T, S, _, k, w, ⟨v, us, Hm, e, hr, b1, b2, q⟩, h => by
    subst e
    have frz : ∀ {d : PyData} {S1 : SS} {T1 : Hp}, Wd K TB S1 σ H ρ T1 → Fz H0 ρ T T1 → Dv K T1 d v → (∀ b, T1 b ≠ none → T b ≠ none ∨ b ∈ ρ ∨ nwA r v = some b) → (coA rs S1 fun as S1 => k (.dat d :: as) S1) → ∃ as S' T', Wd K TB S' σ H ρ T' ∧ Fz H0 ρ T T' ∧ ARs K T' ρ as (v :: us) ∧ k as S' := by
      intro d S1 T1 w1 f1 d1 nw h1
      have q1 : RRs K T1 ρ H Hm rs us := RRs.fz f1.tt (fun b z => (nw b z).imp id fun z => z.imp id fun z => b2 b z) q
      obtain ⟨as, S2, T2, w2, f2, d2, h2⟩ := coA_run w1 q1 h1
      exact ⟨.dat d :: as, S2, T2, w2, f1.trans ⟨f2.tt, fun b z => (f2.nw b z).imp id fun z => z.imp id (b1 b)⟩, ⟨v, us, rfl, Dv.keep f2.tt _ _ d1, d2⟩, h2⟩
    have keep : ∀ {x : AD}, AR K T ρ x v → (coA rs S fun as S1 => k (x :: as) S1) → ∃ as S' T', Wd K TB S' σ H ρ T' ∧ Fz H0 ρ T T' ∧ ARs K T' ρ as (v :: us) ∧ k as S' := by
      intro x hx h1
      obtain ⟨as, S2, T2, w2, f2, d2, h2⟩ := coA_run w q h1
      exact ⟨x :: as, S2, T2, w2, ⟨f2.tt, fun b z => (f2.nw b z).imp id fun z => z.imp id (b1 b)⟩, ⟨v, us, rfl, hx.go f2.tt fun _ _ z => z, d2⟩, h2⟩
    cases r with
    | ad x =>
      cases x with
      | un => exact h.elim
      | dat d => exact keep (x := .dat d) hr h
      | val y => exact keep (x := .val y) hr h
      | loc j =>
        have h' : (match S.m[j]? with
          | some (.lst ds) => coA rs (S.frz j ds) fun as S1 => k (.dat (.list ds) :: as) S1
          | some .gone => False
          | some _ => coA rs S fun as S1 => k (.loc j :: as) S1
          | none => False) := h
        split at h'
        · rename_i ds hj
          obtain ⟨d, S1, T1, w1, f1, d1, h1, nw⟩ := asD_run (k := fun d S1 => d = .list ds ∧ S1 = S.frz j ds) w hr (by show (match S.m[j]? with | some (.lst ds') => PyData.list ds' = .list ds ∧ S.frz j ds' = S.frz j ds | _ => False); rw [hj]; exact ⟨rfl, rfl⟩)
          obtain ⟨rfl, rfl⟩ := h1
          exact frz w1 f1 d1 nw h'
        · exact h'.elim
        · exact keep (x := .loc j) hr h'
        · exact h'.elim
    | new c =>
      cases c with
      | lst ds =>
        obtain ⟨d, S1, T1, w1, f1, d1, h1, nw⟩ := asD_run (k := fun d S1 => d = .list ds ∧ S1 = S) w hr ⟨rfl, rfl⟩
        obtain ⟨rfl, rfl⟩ := h1
        exact frz w1 f1 d1 nw h
      | _ => exact h.elim
def nl : AD → Bool
  | .loc _ => false
  | _ => true
theorem AR.nl {x : AD} (h : AR K T ρ x v) (n : nl x = true) : AR K T ρ' x v := by
  cases x with
  | loc j => cases n
  | un => trivial
  | dat d => exact h
  | val u => exact h
theorem ARs.nl : ∀ {as : List AD} {vs : List V}, ARs K T ρ as vs → as.all Zd.nl = true → ARs K T ρ' as vs
  | [], _, h, _ => h
  | a :: as, _, ⟨v, us, e, h, r⟩, n => by
    rw [List.all_cons, Bool.and_eq_true] at n
    exact ⟨v, us, e, h.nl n.1, ARs.nl r n.2⟩
/-! ### calls of defs of data alone -/
theorem Wm.empty (w : Wm K TB m H ρ T) : Wm K TB [] H [] T where
  len := rfl
  nd := .nil
  ce := fun k c a h => by cases h
  lv := fun a ha => absurd ha List.not_mem_nil
  tn := fun k c a h => by cases h
  dl := fun k l h => by cases h
  sT := w.sT
  tb := fun P hP => ⟨(w.tb P hP).1, List.not_mem_nil⟩
/-- behind such a call -/
theorem Wd.after (w : Wd K TB S σ H ρ T) (wm : Wm K TB [] H' [] T') (s : Stp [] T H [] T' H') : Wd K TB S σ H' ρ T' ∧ Stp ρ T H ρ T' H' := by
  have hh : ∀ b o, H b = some o → H' b = some o := fun b o h => s.hh b o List.not_mem_nil h
  have get : ∀ {a}, a ∈ ρ → ∃ o, H a = some o := fun {a} ha => by
    cases q : H a with
    | none => exact absurd q (w.lv a ha)
    | some o => exact ⟨o, rfl⟩
  refine ⟨⟨w.sl.go s.tt fun _ _ z => z, ⟨w.wm.len, w.wm.nd, fun k c a h e => (w.wm.ce k c a h e).go s.tt (fun _ _ z => z) (fun o z => hh _ _ z) (fun _ _ _ _ o z => hh _ _ z) s.cd, fun a ha z => ?_, fun k c a h g e => ?_, w.wm.dl, wm.sT, fun P hP => ⟨hh _ _ (w.wm.tb P hP).1, (w.wm.tb P hP).2⟩⟩⟩, ⟨⟨[], by rw [List.append_nil], fun _ h => absurd h List.not_mem_nil⟩, s.tt, fun b h => ?_, fun b o _ h => hh b o h, s.cd⟩⟩
  · obtain ⟨o, e⟩ := get ha
    rw [hh _ _ e] at z
    cases z
  · cases q : T' a with
    | none => rfl
    | some u =>
      rcases s.nw a (by rw [q]; intro z; cases z) with z | z | z
      · exact absurd (w.wm.tn k c a h g e) z
      · exact absurd z (w.lv a (List.mem_of_getElem? e))
      · exact absurd z List.not_mem_nil
  · rcases s.nw b h with z | z | z
    · exact .inl z
    · exact .inr (.inl z)
    · exact absurd z List.not_mem_nil
theorem RR.out (h : RR K T' β H' H r v) (fl : flatR r = true) (lv : ∀ a ∈ ρ, H a ≠ none) : RR K T' ρ H' H r v := by
  cases r with
  | ad x =>
    cases x with
    | loc j => cases fl
    | un => trivial
    | dat d => exact h
    | val u => exact h
  | new c =>
    cases c <;> first | (cases fl; done) | skip
    obtain ⟨p, e, n0, n1, out, tp, hc, ok⟩ := h
    exact ⟨p, e, n0, n1, fun z => lv p z n0, tp, hc, ok⟩
theorem Rx.none : Rx K E0 (fun _ => False) ρ T H := ⟨fun _ _ _ _ _ _ _ _ _ _ _ _ _ z => z.elim, fun _ _ _ _ _ _ _ z => z.elim⟩
theorem Rx.out (h : Rx K E Ex ρ T H) (w : Wd K TB S σ H ρ T) : Rx K E Ex [] T H := by
  have up : ∀ {ρ' T' H'}, Stp [] T H ρ' T' H' → Stp ρ T H ρ T' H' ∧ ∀ a ∈ ρ, H' a ≠ Option.none := fun {ρ' T' H'} s => by
    have hh : ∀ b o, H b = some o → H' b = some o := fun b o h => s.hh b o List.not_mem_nil h
    refine ⟨⟨⟨[], by rw [List.append_nil], fun _ h => absurd h List.not_mem_nil⟩, s.tt, fun b h => ?_, fun b o _ h => hh b o h, s.cd⟩, fun a ha z => ?_⟩
    · rcases s.nw b h with z | z | z
      · exact .inl z
      · exact .inr (.inl z)
      · exact absurd z List.not_mem_nil
    · cases q : H a with
      | none => exact w.lv a ha q
      | some o => rw [hh _ _ q] at z; cases z
  exact ⟨fun C d H' ρ' T' dx v s lv sT n e q x => h.field C d H' ρ T' dx v (up s).1 (up s).2 sT n e q x, fun C H' ρ' T' s lv sT x => h.plain C H' ρ T' (up s).1 (up s).2 sT x⟩
def wCallP (Ex : XD → Prop) (n : Nat) (psp : PSp) (w : WA) : WE := fun S k => w S fun rs S1 => coA rs S1 fun as S2 => as.length = n ∧ as.all nl = true ∧ psp as (fun r => k r S2) Ex
theorem callP_run {Q : VK} {k : RD → SS → Prop} {E' : XK} {Ex' : XD → Prop} {psp : PSp} [hA : DAc K TB E Ex t w] (wd : Wd K TB S σ H ρ T) (rx : Rx K E Ex ρ T H) (rx' : ∀ {S ρ T H}, Wd K TB S σ H ρ T → Rx K E Ex ρ T H → Rx K E' Ex' [] T H) (h : wCallP Ex' n psp w S k)
    (q : ∀ r S' H' ρ' T' v, Wd K TB S' σ H' ρ' T' → Stp ρ T H ρ' T' H' → RR K T' ρ' H' H r v → k r S' → Q v H') : t σ H fun vs H1 => spP K TB n psp (vs ++ []) H1 Q E' := by
  refine hA.run S σ H ρ T _ _ wd rx h fun rs S1 H1 ρ1 T1 vs w1 s1 r1 h1 => ?_
  obtain ⟨as, S2, T2, w2, f2, d2, hl, hn, hp⟩ := coA_run w1 r1 h1
  have s2 := s1.fz f2
  refine ⟨as, [], T2, fun r => k r S2, Ex', hl, ?_, w2.wm.empty, hp, rx' w2 (rx.go s2 w2.lv), fun r H' T' v fl wm s hr hk => ?_⟩
  · rw [List.append_nil]
    exact d2.nl hn
  · obtain ⟨w3, s3⟩ := w2.after wm s
    exact q r S2 H' ρ1 T' v w3 (s2.trans s3 w2.lv) ((hr.out fl w2.lv).older fun b z => s2.ne w2.lv z) hk
instance {psp : PSp} [hA : DAc K TB E Ex t w] : DEc K TB E Ex (tCall (toSp K TB [] n psp) [] E0 t) (wCallP (fun _ => False) n psp w) where
  run := fun S σ H ρ T Q k wd rx h q => callP_run (E' := E0) wd rx (fun _ _ => .none) h q
instance {psp : PSp} [hA : DAc K TB E Ex t w] : DEc K TB E Ex (tCall (toSp K TB [] n psp) [] E t) (wCallP Ex n psp w) where
  run := fun S σ H ρ T Q k wd rx h q => callP_run (E' := E) wd rx (fun w rx => rx.out w) h q
/-! ### a def of data alone -/
/-- what a def's end hands out -/
def finR (B : List CD) (r : RD) (m : List CD) (k : RD → Prop) : Prop := m.take B.length = B ∧ match r with
  | .ad (.dat d) => k (.ad (.dat d))
  | .ad (.val v) => k (.ad (.val v))
  | .new (.lst ds) => k (.new (.lst ds))
  | .ad (.loc j) => B.length ≤ j ∧ match m[j]? with
    | some (.lst ds) => k (.new (.lst ds))
    | _ => False
  | _ => False
def WDof (B : List CD) (k : RD → Prop) : WD where
  n := B.length
  nx := fun S => finR B (.ad (.dat .none)) S.m k
  rt := fun r S => finR B r S.m k
  bk := fun _ => False
  ct := fun _ => False
theorem fin_run {B : List CD} {k : RD → Prop} (wd : Wd K TB S σ H ρ T) (s : Stp β T0 H0 ρ T H) (hB : B.all (okC B.length) = true) (hβ : β.length = B.length) (hr : RR K T ρ H H0 r v) (h : finR B r S.m k) :
    Wm K TB B H β T ∧ Stp β T0 H0 β T H ∧ ∃ r', flatR r' = true ∧ RR K T β H H0 r' v ∧ k r' := by
  obtain ⟨hm, h⟩ := h
  obtain ⟨more, em, hmore⟩ := id s.pre
  have eβ : ρ.take B.length = β := by rw [em, ← hβ, List.take_left']; rfl
  have wc := (Wd.cut (n := B.length) (⟨(show SRs K T ρ [] [] from rfl), wd.wm⟩ : Wd K TB ⟨[], S.m⟩ [] H ρ T) (by unfold okS; rw [hm]; exact hB)).wm
  rw [eβ] at wc
  have wc' : Wm K TB B H β T := hm ▸ wc
  have sc := s.cut (n := B.length) (by rw [hβ]; exact Nat.le_refl _)
  rw [eβ] at sc
  refine ⟨wc', sc, ?_⟩
  have sub : ∀ {p}, p ∈ β → p ∈ ρ := fun z => by rw [em]; exact List.mem_append_left _ z
  split at h
  · exact ⟨.ad (.dat _), rfl, hr, h⟩
  · exact ⟨.ad (.val _), rfl, hr, h⟩
  · obtain ⟨p, e, n0, n1, out, tp, ⟨vs, ev, hd⟩, ok⟩ := hr
    exact ⟨.new (.lst _), rfl, ⟨p, e, n0, n1, fun z => out (sub z), tp, ⟨vs, ev, hd⟩, rfl⟩, h⟩
  · rename_i j
    obtain ⟨hj, h⟩ := h
    split at h
    · rename_i ds hc
      obtain ⟨a, ea, rfl⟩ := hr
      obtain ⟨ys, ey, hy⟩ := lst_cell wd hc ea
      have ha : a ∈ more := by
        rw [em, List.getElem?_append_right (by omega)] at ea
        exact List.mem_of_getElem? ea
      refine ⟨.new (.lst ds), rfl, ⟨a, rfl, hmore a ha, wd.lv a (List.mem_of_getElem? ea), fun z => ?_, wd.wm.tn j _ a hc rfl ea, ⟨ys, ey, hy⟩, rfl⟩, h⟩
      have nd := wd.wm.nd
      rw [em, List.nodup_append] at nd
      exact nd.2.2 a z a ha rfl
    · exact h.elim
  · exact h.elim
/-- slots at the entry -/
def ent (N : Nat) (as : List AD) : List AD := as ++ List.replicate (N - as.length) .un
theorem SRs.app : ∀ {as bs : List AD} {σ τ : L2.St}, SRs K T ρ as σ → SRs K T ρ bs τ → SRs K T ρ (as ++ bs) (σ ++ τ)
  | [], _, _, _, h, g => by cases (show _ = _ from h); exact g
  | a :: as, _, _, _, ⟨o, us, e, h, r⟩, g => by subst e; exact ⟨o, us ++ _, rfl, h, SRs.app r g⟩
theorem SRs.uns : ∀ n, SRs K T ρ (List.replicate n .un) (List.replicate n (none : Option V))
  | 0 => rfl
  | n + 1 => ⟨none, List.replicate n none, rfl, trivial, SRs.uns n⟩
theorem ent_run {N : List Str} : ∀ {as : List AD} {vs : List V}, ARs K T ρ as vs → SRs K T ρ (ent N.length as) (L2.start N vs) := by
  intro as vs h
  unfold ent L2.start
  rw [h.len]
  refine SRs.app ?_ (SRs.uns _)
  have go : ∀ {as : List AD} {vs : List V}, ARs K T ρ as vs → SRs K T ρ as (vs.map some) := by
    intro as
    induction as with
    | nil => intro vs h; cases (show _ = _ from h); rfl
    | cons a as ih =>
      rintro vs ⟨v, us, e, h, r⟩
      subst e
      exact ⟨some v, us.map some, rfl, h.sr, ih r⟩
  exact go h
theorem body_run {B : List CD} {psp : PSp} {N : List Str} {t : TS} {E' : XK} (hB : B.all (okC B.length) = true) {vs : List V} {Q : VK} (h : toSp K TB B n psp vs H Q E)
    (hd : ∀ as k Ex, psp as k Ex → as.length = n → ∃ Ex' w, DSc K TB E' Ex' t w ∧ (∀ {ρ T H}, Rx K E Ex ρ T H → Rx K E' Ex' ρ T H) ∧ w (WDof B k) ⟨ent N.length as, B⟩) : t { nx := fun _ H' => Q .non H', rt := Q } (L2.start N vs) H := by
  obtain ⟨as, β, T, k, Ex, hl, ha, wm, hp, rx, q⟩ := h
  obtain ⟨Ex', w', hd, hx, hw⟩ := hd as k Ex hp hl
  have hβ : β.length = B.length := wm.len
  refine hd.run β T H T ⟨ent N.length as, B⟩ _ H β T _ (WDof B k) ⟨ent_run ha, wm⟩ .refl (.refl T) (hx rx) hw ⟨hβ, fun S σ H' ρ' T' w s _ g => ?_, fun r S σ H' ρ' T' v w s hr g => ?_, fun S σ H' ρ' T' w s _ g => g.elim, fun S σ H' ρ' T' w s _ g => g.elim⟩
  · obtain ⟨wc, sc, r', fl, hr', hk⟩ := fin_run (r := .ad (.dat .none)) (v := .non) w s hB hβ rfl g
    exact q r' H' T' .non fl wc sc hr' hk
  · obtain ⟨wc, sc, r', fl, hr', hk⟩ := fin_run w s hB hβ hr g
    exact q r' H' T' v fl wc sc hr' hk
end
section
variable {P : Program} {w : World} {K : PySem.W.Frag} {TB : List Addr} {mg : Str → Option Value} {base : Heap}
/-- a def that raises nothing, by its body -/
theorem fnD {x qual : Str} {st : Stmt} {f : Addr} {fd : FuncData} {N ps : List Str} {k : Nat} {B : List CD} {psp : PSp} (F : Fun K x qual st f fd) (S : FnScope N ps (defScope st)) (hB : B.all (okC B.length) = true)
    (body : ∀ (cdv : Value) (A : Around) (outer : List Env) (s : Shared) (H : Hp) (E : XK), Room k (A.deeper (envOfC qual (defScope st) s.heap.objs.size f cdv)) →
      ∃ t w', PSs (cxOf CX0 P w K mg base N qual (defScope st) f cdv A outer s H E).nox (defBody st) t ∧ DSc K TB E0 (fun _ => False) t w' ∧ ∀ as k Ex, psp as k Ex → as.length = ps.length → w' (WDof B k) ⟨ent N.length as, B⟩) :
    FnOk P w K mg base CX0 (k + 1) f fd ps (toSp K TB B ps.length psp) :=
  F.ok S (fun vs H Q E h => toSp_len vs H Q E h) fun cdv A outer s H vs Q E hr h => by
    obtain ⟨t, w', ht, hd, hw⟩ := body cdv A outer s H E hr
    exact ⟨t, ht, body_run hB h fun as k Ex hp hl => ⟨fun _ => False, _, hd, fun _ => .none, hw as k Ex hp hl⟩⟩
/-- .. whose code object is known -/
theorem fnDC {x qual : Str} {st : Stmt} {f c : Addr} {fd : FuncData} {N ps : List Str} {k : Nat} {B : List CD} {psp : PSp} (F : Fun K x qual st f fd) (hc : fd.code = .ref c) (S : FnScope N ps (defScope st)) (hB : B.all (okC B.length) = true)
    (body : ∀ (A : Around) (outer : List Env) (s : Shared) (H : Hp) (E : XK), Room k (A.deeper (envOfC qual (defScope st) s.heap.objs.size f (.ref c))) →
      ∃ t w', PSs (cxOf CX0 P w K mg base N qual (defScope st) f (.ref c) A outer s H E).nox (defBody st) t ∧ DSc K TB E0 (fun _ => False) t w' ∧ ∀ as k Ex, psp as k Ex → as.length = ps.length → w' (WDof B k) ⟨ent N.length as, B⟩) :
    FnOk P w K mg base CX0 (k + 1) f fd ps (toSp K TB B ps.length psp) :=
  fn_okC F hc S (fun vs H Q E h => toSp_len vs H Q E h) fun A outer s H vs Q E hr h => by
    obtain ⟨t, w', ht, hd, hw⟩ := body A outer s H E hr
    exact ⟨t, ht, body_run hB h fun as k Ex hp hl => ⟨fun _ => False, _, hd, fun _ => .none, hw as k Ex hp hl⟩⟩
/-- .. where nothing is being shown -/
theorem fnDG {x qual : Str} {st : Stmt} {f : Addr} {fd : FuncData} {N ps : List Str} {k : Nat} {B : List CD} {psp : PSp} (F : Fun K x qual st f fd) (S : FnScope N ps (defScope st)) (hB : B.all (okC B.length) = true)
    (body : ∀ (cdv : Value) (A : Around) (outer : List Env) (s : Shared) (H : Hp) (E : XK), Room k (A.deeper (envOfC qual (defScope st) s.heap.objs.size f cdv)) → A.guards = some [] →
      ∃ t w', PSs (cxOf CX0 P w K mg base N qual (defScope st) f cdv A outer s H E).nox (defBody st) t ∧ DSc K TB E0 (fun _ => False) t w' ∧ ∀ as k Ex, psp as k Ex → as.length = ps.length → w' (WDof B k) ⟨ent N.length as, B⟩) :
    FnG P w K mg base (k + 1) f fd ps (toSp K TB B ps.length psp) :=
  fnG_ok F S (fun vs H Q E h => toSp_len vs H Q E h) fun cdv A outer s H vs Q E hr hg h => by
    obtain ⟨t, w', ht, hd, hw⟩ := body cdv A outer s H E hr hg
    exact ⟨t, ht, body_run hB h fun as k Ex hp hl => ⟨fun _ => False, _, hd, fun _ => .none, hw as k Ex hp hl⟩⟩
end
end Zd
end

section
set_option maxHeartbeats 1000000
/-! The second layer: the deal that is drawn from. -/
namespace Zd
open PySem PySem.Spec PyProof.Rows L2 Zc
def isDeal : CD → Bool
  | .deal _ => true
  | _ => false
def onlyAt : Nat → List CD → Bool
  | _, [] => true
  | 0, _ :: cs => cs.all fun c => !isDeal c
  | j + 1, c :: cs => !isDeal c && onlyAt j cs
theorem onlyAt_run : ∀ {j : Nat} {m : List CD}, onlyAt j m = true → ∀ {i l : Nat}, m[i]? = some (.deal l) → i = j
  | _, [], _, i, l, h => by cases h
  | 0, c :: cs, o, i, l, h => by
    cases i with
    | zero => rfl
    | succ i =>
      have := List.all_eq_true.mp o _ (List.mem_of_getElem? (show cs[i]? = _ from h))
      cases this
  | j + 1, c :: cs, o, i, l, h => by
    have o' : (!isDeal c && onlyAt j cs) = true := o
    rw [Bool.and_eq_true] at o'
    cases i with
    | zero =>
      cases h
      cases o'.1
    | succ i => rw [onlyAt_run (j := j) o'.2 (show cs[i]? = _ from h)]
section
variable {K : PySem.W.Frag} {TB : List Addr} {E : XK} {Ex : XD → Prop} {T T' T0 H H' H0 : Hp} {ρ ρ' ρ0 β : List Addr} {S S' : SS} {σ : L2.St} {a b d l : Addr} {v u : V} {r : RD} {n i j : Nat} {t : TA} {w : WA} {m : List CD}
theorem Wm.deal (w : Wm K TB m H ρ T) {j l : Nat} (hj : m[j]? = some (.deal l)) : ∃ d b, ρ[j]? = some d ∧ ρ[l]? = some b ∧ Deal H d b ∧ Wm K TB dealB H [d, b] T ∧ d ≠ b := by
  obtain ⟨d, ed, b, eb, hD⟩ := w.cell hj
  have hl := w.dl j l hj
  have ne : d ≠ b := nd_ne w.nd ed eb fun z => by
    subst z
    rw [hj] at hl
    cases hl
  have md := List.mem_of_getElem? ed
  have mb := List.mem_of_getElem? eb
  refine ⟨d, b, ed, eb, hD, ⟨rfl, ?_, fun k c a h e => ?_, fun a ha => ?_, fun k c a h g e => ?_, fun k l h => ?_, w.sT, fun P hP => ⟨(w.tb P hP).1, fun z => ?_⟩⟩, ne⟩
  · exact List.nodup_cons.mpr ⟨fun z => ne (List.mem_singleton.mp z), List.nodup_cons.mpr ⟨List.not_mem_nil, .nil⟩⟩
  · match k, h, e with
    | 0, h, e => cases h; cases e; exact ⟨b, rfl, hD⟩
    | 1, h, e => cases h; trivial
    | k + 2, h, e => cases h
  · rcases List.mem_cons.mp ha with z | z
    · exact z ▸ w.lv d md
    · exact List.mem_singleton.mp z ▸ w.lv b mb
  · match k, h, e with
    | 0, h, e => cases e; exact w.tn j _ d hj rfl ed
    | 1, h, e => cases e; exact w.tn l _ b hl rfl eb
    | k + 2, h, e => cases h
  · match k, h with
    | 0, h => cases h; rfl
    | 1, h => cases h
    | k + 2, h => cases h
  · rcases List.mem_cons.mp z with z | z
    · exact (w.tb P hP).2 (z ▸ md)
    · exact (w.tb P hP).2 (List.mem_singleton.mp z ▸ mb)
/-- behind a call that was lent the deal -/
theorem Wd.afterD (w : Wd K TB S σ H ρ T) {j l : Nat} (hj : S.m[j]? = some (.deal l)) (one : onlyAt j S.m = true) (ed : ρ[j]? = some d) (eb : ρ[l]? = some b) (wm : Wm K TB dealB H' [d, b] T') (s : Stp [d, b] T H [d, b] T' H') :
    Wd K TB S σ H' ρ T' ∧ Stp ρ T H ρ T' H' := by
  have md := List.mem_of_getElem? ed
  have mb := List.mem_of_getElem? eb
  have hh : ∀ x o, x ≠ d → x ≠ b → H x = some o → H' x = some o := fun x o n1 n2 h => s.hh x o (fun z => by
    rcases List.mem_cons.mp z with z | z
    · exact n1 z
    · exact n2 (List.mem_singleton.mp z)) h
  have get : ∀ {a}, a ∈ ρ → ∃ o, H a = some o := fun {a} ha => by
    cases q : H a with
    | none => exact absurd q (w.lv a ha)
    | some o => exact ⟨o, rfl⟩
  have hD : CellR K T' [d, b] H' d (.deal 1) := wm.ce 0 _ d rfl rfl
  refine ⟨⟨w.sl.go s.tt fun _ _ z => z, ⟨w.wm.len, w.wm.nd, fun k c a h e => ?_, fun a ha z => ?_, fun k c a h g e => ?_, w.wm.dl, wm.sT, fun P hP => ⟨(wm.tb P hP).1, (w.wm.tb P hP).2⟩⟩⟩, ⟨⟨[], by rw [List.append_nil], fun _ h => absurd h List.not_mem_nil⟩, s.tt, fun x h => ?_, fun x o hx h => ?_, s.cd⟩⟩
  · by_cases q : k = j
    · subst q
      rw [hj] at h
      cases h
      rw [ed] at e
      cases e
      obtain ⟨b', e', h'⟩ := hD
      cases e'
      exact ⟨b, eb, h'⟩
    · by_cases q2 : k = l
      · subst q2
        rw [w.wm.dl j k hj] at h
        cases h
        trivial
      · have n1 : a ≠ d := nd_ne w.wm.nd e ed q
        have n2 : a ≠ b := nd_ne w.wm.nd e eb q2
        refine (w.wm.ce k c a h e).go s.tt (fun _ _ z => z) (fun o z => hh _ _ n1 n2 z) (fun l' b' hc eb' => ?_) s.cd
        exact by
          subst hc
          exact absurd (onlyAt_run one h) q
  · by_cases q : a = d
    · exact wm.lv d List.mem_cons_self (q ▸ z)
    · by_cases q2 : a = b
      · exact wm.lv b (List.mem_cons_of_mem _ List.mem_cons_self) (q2 ▸ z)
      · obtain ⟨o, e⟩ := get ha
        rw [hh _ _ q q2 e] at z
        cases z
  · by_cases q : a = d
    · exact q ▸ wm.tn 0 _ d rfl rfl rfl
    · by_cases q2 : a = b
      · exact q2 ▸ wm.tn 1 _ b rfl rfl rfl
      · cases y : T' a with
        | none => rfl
        | some u =>
          rcases s.nw a (by rw [y]; intro z; cases z) with z | z | z
          · exact absurd (w.wm.tn k c a h g e) z
          · exact absurd z (w.lv a (List.mem_of_getElem? e))
          · rcases List.mem_cons.mp z with z | z
            · exact absurd z q
            · exact absurd (List.mem_singleton.mp z) q2
  · rcases s.nw x h with z | z | z
    · exact .inl z
    · exact .inr (.inl z)
    · rcases List.mem_cons.mp z with z | z
      · exact .inr (.inr (z ▸ md))
      · exact .inr (.inr (List.mem_singleton.mp z ▸ mb))
  · exact hh x o (fun z => hx (z ▸ md)) (fun z => hx (z ▸ mb)) h
/-- a call that is lent the deal -/
def wCallD (Ex : XD → Prop) (n : Nat) (psp : PSp) (w : WA) : WE := fun S k => w S fun rs S1 => coA rs S1 fun as S2 => as.length = n ∧ match as with
  | .loc j :: as' => as'.all nl = true ∧ onlyAt j S2.m = true ∧ (match S2.m[j]? with
    | some (.deal _) => True
    | _ => False) ∧ psp as' (fun r => k r S2) Ex
  | _ => False
instance callD {psp : PSp} [hA : DAc K TB E Ex t w] : DEc K TB E Ex (tCall (toSp K TB dealB n (dealP psp)) [] E0 t) (wCallD (fun _ => False) n psp w) where
  run := fun S σ H ρ T Q k wd rx h q => by
    refine hA.run S σ H ρ T _ _ wd rx h fun rs S1 H1 ρ1 T1 vs w1 s1 r1 h1 => ?_
    obtain ⟨as, S2, T2, w2, f2, d2, hl, h2⟩ := coA_run w1 r1 h1
    have s2 := s1.fz f2
    split at h2
    · rename_i j as'
      obtain ⟨hn, one, hj, hp⟩ := h2
      split at hj
      · rename_i l hj'
        obtain ⟨d, b, ed, eb, hD, wm, ne⟩ := w2.wm.deal hj'
        obtain ⟨v, us, e, ⟨d', ed', ev⟩, hu⟩ := d2
        rw [ed] at ed'
        cases ed'
        refine ⟨.loc 0 :: as', [d, b], T2, fun r => k r S2, fun _ => False, hl, ?_, wm, ⟨as', rfl, hp⟩, .none, fun r H' T' v fl wm' s hr hk => ?_⟩
        · rw [List.append_nil, e]
          exact ⟨v, us, rfl, ⟨d, rfl, ev⟩, hu.nl hn⟩
        · obtain ⟨w3, s3⟩ := w2.afterD hj' one ed eb wm' s
          exact q r S2 H' ρ1 T' v w3 (s2.trans s3 w2.lv) ((hr.out fl w2.lv).older fun b z => s2.ne w2.lv z) hk
      · exact hj.elim
    · exact h2.elim
/-! ### draws -/
/-- a number below n -/
def anyP : PSp := fun as k _ => ∃ n : Int, as = [.dat (.int n)] ∧ 0 < n ∧ n < 2 ^ 64 ∧ ∀ a : Nat, (a : Int) < n → k (.ad (.dat (.int (a : Nat))))
/-- one of some things -/
def ofP : PSp := fun as k _ => ∃ ds : List PyData, as = [.dat (.list ds)] ∧ 0 < ds.length ∧ ds.length ≤ 1000 ∧ ∀ d ∈ ds, k (.ad (.dat d))
theorem deal_in {as : List AD} {vs : List V} (wm : Wm K TB dealB H β T) (ha : ARs K T β (.loc 0 :: as) vs) : ∃ d b us, β = [d, b] ∧ vs = .ref d :: us ∧ ARs K T β as us ∧ Deal H d b := by
  obtain ⟨v, us, e, ⟨d, ed, ev⟩, hu⟩ := ha
  have l := wm.len
  match β, l, ed, wm with
  | [x, y], _, ed, wm =>
    cases ed
    obtain ⟨b, eb, hD⟩ := wm.ce 0 _ d rfl rfl
    cases eb
    subst e ev
    exact ⟨d, y, us, rfl, rfl, hu, hD⟩
/-- the deal has turned -/
theorem Wm.turned (wm : Wm K TB dealB H [d, b] T) (hD : Deal H' d b) (bt : But d b H H') : Wm K TB dealB H' [d, b] T ∧ Stp [d, b] T H [d, b] T H' := by
  have nd := wm.nd
  have td : T d = none := wm.tn 0 _ d rfl rfl rfl
  have tb : T b = none := wm.tn 1 _ b rfl rfl rfl
  obtain ⟨xs, i, ne, e1, e2, r⟩ := id hD
  refine ⟨⟨rfl, nd, fun k c a h e => ?_, fun a ha z => ?_, wm.tn, wm.dl, fun x o h => ?_, fun P hP => ⟨?_, (wm.tb P hP).2⟩⟩, ⟨⟨[], by rw [List.append_nil], fun _ h => absurd h List.not_mem_nil⟩, .refl T, fun x h => .inl h, fun x o hx h => ?_, fun x c q h => ?_⟩⟩
  · match k, h, e with
    | 0, h, e => cases h; cases e; exact ⟨b, rfl, hD⟩
    | 1, h, e => cases h; trivial
    | k + 2, h, e => cases h
  · rcases List.mem_cons.mp ha with y | y
    · rw [y, e1] at z; cases z
    · rw [List.mem_singleton.mp y, e2] at z; cases z
  · exact bt x o (fun z => by rw [z, td] at h; cases h) (fun z => by rw [z, tb] at h; cases h) (wm.sT _ _ h)
  · have out := (wm.tb P hP).2
    exact bt P _ (fun z => out (z ▸ List.mem_cons_self)) (fun z => out (z ▸ List.mem_cons_of_mem _ List.mem_cons_self)) (wm.tb P hP).1
  · exact bt x o (fun z => hx (z ▸ List.mem_cons_self)) (fun z => hx (z ▸ List.mem_cons_of_mem _ List.mem_cons_self)) h
  · obtain ⟨b', eb, xs0, i0, ne0, f1, f2, _⟩ := wm.ce 0 _ d rfl rfl
    cases eb
    unfold LamX.CodeO at h ⊢
    exact bt x _ (fun z => by rw [z, f1] at h; cases h) (fun z => by rw [z, f2] at h; cases h) h
theorem any_imp {vs : List V} {Q : VK} (h : spD K TB 2 anyP vs H Q E) : spAny vs H Q E := by
  obtain ⟨as, β, T, k, Ex, hl, ha, wm, ⟨as', rfl, n, rfl, n0, n1, hk⟩, rx, q⟩ := h
  obtain ⟨d, b, us, rfl, rfl, hu, hD⟩ := deal_in wm ha
  obtain ⟨v, us2, e, hv, e2⟩ := hu
  cases (show us2 = _ from e2)
  cases (show v = _ from hv)
  subst e
  refine ⟨d, b, n, rfl, hD, n0, n1, fun r H' r0 r1 hD' bt => ?_⟩
  obtain ⟨w', s'⟩ := wm.turned hD' bt
  obtain ⟨a, rfl⟩ : ∃ a : Nat, r = (a : Int) := ⟨r.toNat, by omega⟩
  exact q (.ad (.dat (.int (a : Nat)))) H' T (.int a) rfl w' s' rfl (hk a r1)
theorem of_imp {vs : List V} {Q : VK} (h : spD K TB 2 ofP vs H Q E) : spOf K vs H Q E := by
  obtain ⟨as, β, T, k, Ex, hl, ha, wm, ⟨as', rfl, ds, rfl, n0, n1, hk⟩, rx, q⟩ := h
  obtain ⟨d, b, us, rfl, rfl, hu, hD⟩ := deal_in wm ha
  obtain ⟨v, us2, e, ⟨a, xs, rfl, ea, hx⟩, e2⟩ := hu
  cases (show us2 = _ from e2)
  subst e
  refine ⟨d, b, a, xs, rfl, hD, fun H' bt => .inl (.inl ?_), by rw [hx.len]; exact n0, by rw [hx.len]; exact n1, fun i x H' hi hD' bt => ?_⟩
  · have td : T d = none := wm.tn 0 _ d rfl rfl rfl
    have tb : T b = none := wm.tn 1 _ b rfl rfl rfl
    exact bt a _ (fun z => by rw [z, td] at ea; cases ea) (fun z => by rw [z, tb] at ea; cases ea) (wm.sT _ _ ea)
  · obtain ⟨w', s'⟩ := wm.turned hD' bt
    obtain ⟨e, he, hxe⟩ := hx.get hi
    exact q (.ad (.dat e)) H' T x rfl w' s' hxe (hk e (List.mem_of_getElem? he))
end
end Zd
end

section
set_option maxHeartbeats 1000000
/-! Rules in the form that the generator writes. -/
namespace Zd
open PySem PySem.Spec PyProof.Rows L2 Zc
theorem units65 {k : Nat} {A : Around} (hr : Room k A) : A.units + 65 < cLine := by have := hr.un; omega
theorem units1 {k : Nat} {A : Around} (hr : Room k A) : A.units + 1 < cLine := by have := hr.un; omega
section
variable {X : Cx} (K : PySem.W.Frag)
theorem pg_nameF {i : Nat} {x : Str} {pos : Pos} (h : PG X (.Name x pos) (gName i)) : PG X (.Name x pos) (gNameF i) := h
theorem psF {tg e : Expr} {pos : Pos} {te : TE} {i : Nat} (h : PS X (.Assign [tg] e pos) (tAsg te (gName i))) : PS X (.Assign [tg] e pos) (tAsg te (gNameF i)) := h
theorem psP {st : Stmt} {i j : Nat} {ta : TA} (fi fj : Bool) (h : PS X st (tPar i j ta)) : PS X st (tParF fi fj i j ta) := h
theorem zpg_tup {tg : Expr} {n : Nat} {t : TGs} (hK : X.K = K) (h : PG X tg (gTup X.K n t)) : PG X tg (gTup K n t) := hK ▸ h
theorem zpg_tup2 {tg : Expr} {n : Nat} {t : TGs} (m : Nat) (hK : X.K = K) (h : PG X tg (gTup X.K n t)) (hm : n = m) : PG X tg (gTup K m t) := hm ▸ hK ▸ h
theorem zbm {e : Expr} {T : String} {r : V → List V → Hp → VK → Prop} {to : TE} {t : TA} (hK : X.K = K) (h : PE X e (tBM X.K T r to t)) : PE X e (tBM K T r to t) := hK ▸ h
theorem zbm0 {e : Expr} {T : String} {r : V → List V → Hp → VK → Prop} {to : TE} (hK : X.K = K) (h : PE X e (tBM0 X.K T r to)) : PE X e (tBM0 K T r to) := hK ▸ h
theorem zrevT {e : Expr} {te : TE} (hK : X.K = K) (h : PE X e (tRevT X.K te)) : PE X e (tRevT K te) := hK ▸ h
theorem zrevL {e : Expr} {te : TE} (hK : X.K = K) (h : PE X e (tRevL X.K te)) : PE X e (tRevL K te) := hK ▸ h
variable {wi : TI} {g : TG} {tt : TT} {te : TE} {own : List (Str × Nat)} {e : Expr} {i : Nat} {P : Addr} {go : Bool}
theorem zlc (vs : List Nat) (h : PE X e (tLc wi g tt te (own.map (·.2)))) (hv : own.map (·.2) = vs := by rfl) : PE X e (tLc wi g tt te vs) := hv ▸ h
theorem zslc {st : Stmt} (vs : List Nat) (h : PS X st (tAsg (tLc wi g tt te (own.map (·.2))) (gName i))) (hv : own.map (·.2) = vs := by rfl) : PS X st (tAsg (tLc wi g tt te vs) (gName i)) := hv ▸ h
theorem zgen (vs : List Nat) (h : PE X e (tGen P go wi g tt te (own.map (·.2)))) (hv : own.map (·.2) = vs := by rfl) : PE X e (tGen P go wi g tt te vs) := hv ▸ h
theorem psF' {st : Stmt} (h : PS X st (tAsg te (gName i))) : PS X st (tAsg te (gNameF i)) := h
end
end Zd
end

section
set_option maxHeartbeats 2000000
/-! Lists that grow turn by turn, by drawn things. -/
namespace Zc
open PySem PySem.Spec PyProof.Rows L2
/-- the heap without what stands at an address -/
def hide (H : Hp) (L : Addr) : Hp := fun b => if b = L then none else H b
theorem hide_ne {H : Hp} {L b : Addr} (h : b ≠ L) : hide H L b = H b := if_neg h
theorem hide_at {H : Hp} {L : Addr} : hide H L L = none := if_pos rfl
section
variable {d l p : Addr} {T H T1 H1 : Hp} {o : HO}
/-- a new thing is laid among what stands -/
theorem ExD.lay (x : ExD d l T H T1 H1) (n : H p = none) (h : H1 p = some o) : ExD d l T H (upd T1 p o) H1 where
  hh := x.hh
  tt := fun b u e => by
    have e1 := x.tt _ _ e
    by_cases q : b = p
    · subst q
      rw [upd_same]
      have := x.th _ _ e1
      rw [h] at this
      exact this
    · rw [upd_ne q]
      exact e1
  th := fun b u e => by
    by_cases q : b = p
    · subst q
      rw [upd_same] at e
      cases e
      exact h
    · rw [upd_ne q] at e
      exact x.th _ _ e
  nw := fun b hb => by
    by_cases q : b = p
    · exact .inr (q ▸ n)
    · rw [upd_ne q] at hb
      exact x.nw b hb
theorem ExD.td (x : ExD d l T H T1 H1) (hD : Deal H d l) (td : T d = none) (tl : T l = none) : T1 d = none ∧ T1 l = none := by
  obtain ⟨_, _, _, e1, e2, _⟩ := hD
  exact ⟨x.out td e1, x.out tl e2⟩
end
section
variable {d l L M : Addr} {T H T1 H1 T2 H2 T3 H3 : Hp} {vs : List V} {es : List PyData} {e : PyData} {v : V}
theorem ExD.hide (x : ExD d l T H T1 H1) (n : H L = none) (tL : T1 L = none) : ExD d l T H T1 (Zc.hide H1 L) where
  hh := fun b o n1 n2 e => by
    rw [hide_ne (ne_of_none e n)]
    exact x.hh b o n1 n2 e
  tt := x.tt
  th := fun b o e => by
    rw [hide_ne (ne_of_none e tL)]
    exact x.th _ _ e
  nw := x.nw
theorem Deal.hide (h : Deal H d l) (n1 : L ≠ d) (n2 : L ≠ l) : Deal (Zc.hide H L) d l := by
  obtain ⟨xs, b, e0, e1, e2, r⟩ := h
  exact ⟨xs, b, e0, by rw [hide_ne (Ne.symm n1)]; exact e1, by rw [hide_ne (Ne.symm n2)]; exact e2, r⟩
/-- at L a list that grows: the heap B, without it, has turned to H2 -/
structure Grow (d l L : Addr) (T B T2 H2 : Hp) (vs : List V) (es : List PyData) : Prop where
  x : ExD d l T B T2 H2
  D : Deal H2 d l
  tL : T2 L = none
  hL : H2 L = some (.lst vs)
  da : DaA T2 es vs
theorem Grow.start (x : ExD d l T H T1 H1) (D : Deal H1 d l) (tL : T1 L = none) (hL : H1 L = some (.lst [])) :
    Grow d l L T1 (Zc.hide H1 L) T1 H1 [] [] where
  x := ⟨fun b o n1 n2 e => by
      by_cases q : b = L
      · rw [q, hide_at] at e
        cases e
      · rw [hide_ne q] at e
        exact e, Same.refl T1, x.th, fun b h => .inl h⟩
  D := D
  tL := tL
  hL := hL
  da := rfl
theorem Grow.next {B : Hp} (g : Grow d l L T B T2 H2 vs es) (hB : Deal B d l) (n1 : L ≠ d) (n2 : L ≠ l) (b : ExD d l T2 H2 T3 H3)
    (D3 : Deal H3 d l) : Grow d l L T B T3 H3 vs es where
  x := ExD.trans hB g.x g.D b
  D := D3
  tL := b.out g.tL g.hL
  hL := b.hh _ _ n1 n2 g.hL
  da := g.da.keep b.tt
theorem Grow.app {B : Hp} (g : Grow d l L T B T2 H2 vs es) (n1 : L ≠ d) (n2 : L ≠ l) (nL : B L = none) (hd : Da T2 e v) :
    Grow d l L T B T2 (upd H2 L (.lst (vs ++ [v]))) (vs ++ [v]) (es ++ [e]) where
  x := ⟨fun b u m1 m2 q => by rw [upd_ne (ne_of_none q nL)]; exact g.x.hh b u m1 m2 q, g.x.tt, same_upd g.x.th g.tL, g.x.nw⟩
  D := g.D.upd n1 n2
  tL := g.tL
  hL := upd_same
  da := g.da.snoc hd
/-- the list is whole: it stands from now on -/
theorem Grow.fin {B : Hp} (g : Grow d l L T B T2 H2 vs es) (hD : Deal H d l) (hB : Deal B d l) {T0 : Hp} (x : ExD d l T0 H T B) (n : H L = none) :
    ExD d l T0 H (upd T2 L (.lst vs)) H2 := (ExD.trans hD x hB g.x).lay n g.hL
end
end Zc
end

section
set_option maxHeartbeats 2000000
/-! Chains of draws and of new things. -/
namespace Zc
open PySem PySem.Spec PyProof.Rows L2
/-- from T0, H0 on things were made and drawn, the deal stands -/
structure Ch (d l : Addr) (T0 H0 T H : Hp) : Prop where
  D0 : Deal H0 d l
  t0 : T0 d = none
  l0 : T0 l = none
  x : ExD d l T0 H0 T H
  D : Deal H d l
section
variable {d l p : Addr} {T0 H0 T H T1 H1 : Hp}
theorem Ch.refl (s : Same T H) (D : Deal H d l) (t : T d = none) (u : T l = none) : Ch d l T H T H := ⟨D, t, u, .refl s, D⟩
theorem Ch.sT (c : Ch d l T0 H0 T H) : Same T H := c.x.th
theorem Ch.td (c : Ch d l T0 H0 T H) : T d = none ∧ T l = none := c.x.td c.D0 c.t0 c.l0
theorem Ch.turn (c : Ch d l T0 H0 T H) (b : But d l H H1) (D1 : Deal H1 d l) : Ch d l T0 H0 T H1 :=
  ⟨c.D0, c.t0, c.l0, ExD.trans c.D0 c.x c.D (ExD.turn c.sT c.td.1 c.td.2 b), D1⟩
theorem Ch.go (c : Ch d l T0 H0 T H) (x : ExD d l T H T1 H1) (D1 : Deal H1 d l) : Ch d l T0 H0 T1 H1 :=
  ⟨c.D0, c.t0, c.l0, ExD.trans c.D0 c.x c.D x, D1⟩
theorem Ch.ext (c : Ch d l T0 H0 T H) (x : Ext T H T1 H1) : Ch d l T0 H0 T1 H1 := c.go x.toD (c.D.same x.hh)
theorem Ch.new (c : Ch d l T0 H0 T H) {o : HO} (n : H p = none) : Ch d l T0 H0 (upd T p o) (upd H p o) := c.ext (Ext.new c.sT n)
theorem Ch.tn (c : Ch d l T0 H0 T H) (n : H p = none) : T p = none := c.sT.free n
/-- what stood stands, the new thing stands -/
theorem Ch.tup (c : Ch d l T0 H0 T H) (n : H p = none) {ds : List PyData} {vs : List V} (h : DaA T ds vs) :
    Ch d l T0 H0 (upd T p (.tup vs)) (upd H p (.tup vs)) ∧ Same T (upd T p (.tup vs)) ∧ Da (upd T p (.tup vs)) (.tuple ds) (.ref p) :=
  ⟨c.new n, same_new (c.tn n), Da.tup upd_same (h.keep (same_new (c.tn n)))⟩
theorem Ch.lst (c : Ch d l T0 H0 T H) (n : H p = none) {ds : List PyData} {vs : List V} (h : DaA T ds vs) :
    Ch d l T0 H0 (upd T p (.lst vs)) (upd H p (.lst vs)) ∧ Same T (upd T p (.lst vs)) ∧ Da (upd T p (.lst vs)) (.list ds) (.ref p) :=
  ⟨c.new n, same_new (c.tn n), Da.lst upd_same (h.keep (same_new (c.tn n)))⟩
end
section
variable {d l : Addr} {T0 H0 T H : Hp} {σ : L2.St} {i j : Nat} {Q : VK}
/-- a draw -/
theorem rd_any (c : Ch d l T0 H0 T H) {n : Int} (hi : σ[i]? = some (some (.ref d))) {tn : TE} (htn : ∀ H' Q', Q' (V.int n) H' → tn σ H' Q') (n0 : 0 < n) (n1 : n < 2 ^ 64)
    (k : ∀ (a : Nat) (H' : Hp), (a : Int) < n → Ch d l T0 H0 T H' → Q (.int (a : Nat)) H') : tCall spAny [] E0 (tCons (tVar i) (tCons tn tNil)) σ H Q := by
  refine ⟨.ref d, hi, htn _ _ ⟨d, l, n, rfl, c.D, n0, n1, fun r H' r0 r1 D' b => ?_⟩⟩
  obtain ⟨a, rfl⟩ : ∃ a : Nat, r = (a : Int) := ⟨r.toNat, by omega⟩
  exact k a H' r1 (c.turn b D')
/-- a pair of a word and a draw -/
theorem rd_pair (c : Ch d l T0 H0 T H) {n : Int} {x : Str} (hi : σ[i]? = some (some (.ref d))) {tn : TE} (htn : ∀ H' Q', Q' (V.int n) H' → tn σ H' Q') (n0 : 0 < n) (n1 : n < 2 ^ 64)
    (k : ∀ (a : Nat) (T' H' : Hp) (p : Addr), (a : Int) < n → Ch d l T0 H0 T' H' → Same T T' → Da T' (.tuple [.str x, .int (a : Nat)]) (.ref p) → Q (.ref p) H') :
    tTup (tCons (tC (.str x)) (tCons (tCall spAny [] E0 (tCons (tVar i) (tCons tn tNil))) tNil)) σ H Q := by
  refine rd_any c hi htn n0 n1 fun a H' ha c' => ⟨by show 2 ≤ sizeLine; decide, fun p np => ?_⟩
  obtain ⟨c2, s2, h2⟩ := c'.tup np (ds := [.str x, .int (a : Nat)]) (DaA.two rfl rfl)
  exact k a _ _ p ha c2 s2 h2
end
end Zc
namespace Zc
open PySem PySem.Spec PyProof.Rows L2
/-- what a list's literal asks, and hands on -/
def LstOk (Q : VK) (xs : List V) (H1 : Hp) : Prop := xs.length ≤ sizeLine ∧ ∀ p, H1 p = none → Q (.ref p) (upd H1 p (.lst xs))
/-- at p a list that stands, of things that are right -/
def Bag (G : PyData → Prop) (m : Nat) (T : Hp) (p : Addr) : Prop := ∃ (vs : List V) (es : List PyData), T p = some (.lst vs) ∧ DaA T es vs ∧ (∀ e ∈ es, G e) ∧ 0 < es.length ∧ es.length ≤ m
section
variable {d l p : Addr} {T0 H0 T H T1 : Hp} {G : PyData → Prop} {m k : Nat} {Q : VK} {vs : List V} {es : List PyData}
theorem Bag.keep (b : Bag G m T p) (s : Same T T1) : Bag G m T1 p := by
  obtain ⟨vs, es, e, h, g, n0, n1⟩ := b
  exact ⟨vs, es, s _ _ e, h.keep s, g, n0, n1⟩
theorem Bag.le (b : Bag G m T p) (h : m ≤ k) : Bag G k T p := by
  obtain ⟨vs, es, e, hd, g, n0, n1⟩ := b
  exact ⟨vs, es, e, hd, g, n0, by omega⟩
theorem rd_lst (c : Ch d l T0 H0 T H) (h : DaA T es vs) (g : ∀ e ∈ es, G e) (n0 : 0 < es.length) (hk : es.length ≤ k) (hm : k ≤ 1000)
    (nx : ∀ T' H' q, Ch d l T0 H0 T' H' → Same T T' → Bag G k T' q → Q (.ref q) H') : LstOk Q vs H := by
  refine ⟨by rw [h.len]; have : (1000 : Nat) ≤ sizeLine := by decide
             omega, fun q nq => ?_⟩
  obtain ⟨c1, s1, h1⟩ := c.lst nq h
  exact nx _ _ q c1 s1 ⟨vs, es, upd_same, h.keep s1, g, n0, hk⟩
theorem rd_cat (c : Ch d l T0 H0 T H) (b : Bag G m T p) (h : DaA T es vs) (g : ∀ e ∈ es, G e) (hk : es.length ≤ k) (hm : m + k ≤ 1000)
    (nx : ∀ T' H' q, Ch d l T0 H0 T' H' → Same T T' → Bag G (m + k) T' q → Q (.ref q) H') : LstOk (fun y H' => rCat (.ref p) y H' Q) vs H := by
  have big : (1000 : Nat) ≤ sizeLine := by decide
  obtain ⟨us, fs, e, hd, gf, n0, n1⟩ := b
  refine ⟨by rw [h.len]; omega, fun q nq => ?_⟩
  obtain ⟨c1, s1, h1⟩ := c.lst nq h
  refine ⟨p, q, us, vs, rfl, rfl, c1.sT _ _ (s1 _ _ e), upd_same, by rw [h.len, hd.len]; omega, fun r nr => ?_⟩
  have hd2 : DaA (upd T q (.lst vs)) (fs ++ es) (us ++ vs) := (hd.keep s1).app (h.keep s1)
  obtain ⟨c2, s2, h2⟩ := c1.lst nr hd2
  refine nx _ _ r c2 (s1.trans s2) ⟨_, _, upd_same, hd2.keep s2, fun x hx => (List.mem_append.mp hx).elim (gf x) (g x), by rw [List.length_append]; omega, by rw [List.length_append]; omega⟩
end
end Zc
namespace Zc
open PySem PySem.Spec PyProof.Rows L2
section
variable {σ : L2.St} {H : Hp} {Q : VK} {D : Ends} {A te ta tb : TE} {tr t : TA} {g : TG} {r : R2} {s u : TS} {i : Nat} {v : V}
theorem tl1 {Q : List V → Hp → Prop} (h : A σ H fun x H1 => tr σ H1 fun xs H2 => Q (x :: xs) H2) : tCons A tr σ H Q := h
theorem tl0 {Q : List V → Hp → Prop} (h : Q [] H) : tNil σ H Q := h
theorem tls (h : t σ H fun xs H1 => LstOk Q xs H1) : tLst t σ H Q := h
theorem ttp (h : t σ H fun xs H1 => xs.length ≤ sizeLine ∧ ∀ p, H1 p = none → Q (.ref p) (upd H1 p (.tup xs))) : tTup t σ H Q := h
theorem tas (h : te σ H fun x H1 => g x σ H1 D.nx) : tAsg te g D σ H := h
theorem tsq (h : s { D with nx := u D } σ H) : tSeq s u D σ H := h
theorem top (h : ta σ H fun x H1 => tb σ H1 fun y H2 => r x y H2 Q) : tOp r ta tb σ H Q := h
theorem tvr (e : σ[i]? = some (some v)) (h : Q v H) : tVar i σ H Q := ⟨v, e, h⟩
theorem gnm {Q : L2.St → Hp → Prop} (h : Q (σ.set i (some v)) H) : gName i v σ H Q := h
theorem trt (h : te σ H D.rt) : tRet te D σ H := h
theorem tco (h : Q v H) : tC v σ H Q := h
theorem tcl {sp : Sp} {E : XK} {dvs : List V} (h : t σ H fun vs H1 => sp (vs ++ dvs) H1 Q E) : tCall sp dvs E t σ H Q := h
end
section
variable {d l : Addr} {T0 H0 T H : Hp} {σ : L2.St} {i j : Nat} {Q : VK}
theorem rd_push (c : Ch d l T0 H0 T H) {n w : Int} {x : Str} (hj : σ[j]? = some (some (.int w))) (hi : σ[i]? = some (some (.ref d))) {tn : TE} (htn : ∀ H' Q', Q' (V.int n) H' → tn σ H' Q') (n0 : 0 < n) (n1 : n < 2 ^ 64)
    (k : ∀ (a : Nat) (T' H' : Hp) (p : Addr), (a : Int) < n → Ch d l T0 H0 T' H' → Same T T' → Da T' (.tuple [.str x, .int w, .int (a : Nat)]) (.ref p) → Q (.ref p) H') :
    tTup (tCons (tC (.str x)) (tCons (tVar j) (tCons (tCall spAny [] E0 (tCons (tVar i) (tCons tn tNil))) tNil))) σ H Q := by
  refine ⟨.int w, hj, rd_any c hi htn n0 n1 fun a H' ha c' => ⟨by show 3 ≤ sizeLine; decide, fun p np => ?_⟩⟩
  obtain ⟨c2, s2, h2⟩ := c'.tup np (ds := [.str x, .int w, .int (a : Nat)]) (DaA.three rfl rfl rfl)
  exact k a _ _ p ha c2 s2 h2
theorem rd_take (c : Ch d l T0 H0 T H) {n w : Int} {x : Str} (hj : σ[j]? = some (some (.int w))) (hi : σ[i]? = some (some (.ref d))) {tn : TE} (htn : ∀ H' Q', Q' (V.int n) H' → tn σ H' Q') (n0 : 0 < n) (n1 : n < 2 ^ 64)
    (k : ∀ (a : Nat) (T' H' : Hp) (p : Addr), (a : Int) < n → Ch d l T0 H0 T' H' → Same T T' → Da T' (.tuple [.str x, .int (a : Nat), .int w]) (.ref p) → Q (.ref p) H') :
    tTup (tCons (tC (.str x)) (tCons (tCall spAny [] E0 (tCons (tVar i) (tCons tn tNil))) (tCons (tVar j) tNil))) σ H Q := by
  refine rd_any c hi htn n0 n1 fun a H' ha c' => ⟨.int w, hj, by show 3 ≤ sizeLine; decide, fun p np => ?_⟩
  obtain ⟨c2, s2, h2⟩ := c'.tup np (ds := [.str x, .int (a : Nat), .int w]) (DaA.three rfl rfl rfl)
  exact k a _ _ p ha c2 s2 h2
theorem rd_one (c : Ch d l T0 H0 T H) {x : Str}
    (k : ∀ (T' H' : Hp) (p : Addr), Ch d l T0 H0 T' H' → Same T T' → Da T' (.tuple [.str x]) (.ref p) → Q (.ref p) H') : tTup (tCons (tC (.str x)) tNil) σ H Q := by
  refine ⟨by show 1 ≤ sizeLine; decide, fun p np => ?_⟩
  obtain ⟨c2, s2, h2⟩ := c.tup np (ds := [.str x]) (DaA.one rfl)
  exact k _ _ p c2 s2 h2
end
end Zc
end

section
set_option maxHeartbeats 2000000
/-! Lists that grow, along chains. -/
namespace Zc
open PySem PySem.Spec PyProof.Rows L2
/-- a list that is made ahead and grows by itself: B is the heap without it -/
structure Gw (d l L : Addr) (T0 H0 T B : Hp) : Prop where
  D0 : Deal H0 d l
  t0 : T0 d = none
  l0 : T0 l = none
  x : ExD d l T0 H0 T B
  DB : Deal B d l
  n0 : H0 L = none
  nd : L ≠ d
  nl : L ≠ l
  nB : B L = none
section
variable {d l L : Addr} {T0 H0 T H B T2 H2 T3 H3 : Hp} {vs : List V} {es : List PyData} {e : PyData} {v : V}
theorem Gw.begin (c : Ch d l T0 H0 T H) (n0 : H0 L = none) (tL : T L = none) (hL : H L = some (.lst [])) (nd : L ≠ d) (nl : L ≠ l) :
    Gw d l L T0 H0 T (hide H L) ∧ Grow d l L T (hide H L) T H [] [] :=
  ⟨⟨c.D0, c.t0, c.l0, c.x.hide n0 tL, c.D.hide nd nl, n0, nd, nl, hide_at⟩, Grow.start c.x c.D tL hL⟩
theorem Gw.body (w : Gw d l L T0 H0 T B) (g : Grow d l L T B T2 H2 vs es) : Ch d l T2 H2 T2 H2 := by
  obtain ⟨a, b⟩ := (ExD.trans w.D0 w.x w.DB g.x).td w.D0 w.t0 w.l0
  exact Ch.refl g.x.th g.D a b
theorem Gw.next (w : Gw d l L T0 H0 T B) (g : Grow d l L T B T2 H2 vs es) (c : Ch d l T2 H2 T3 H3) : Grow d l L T B T3 H3 vs es :=
  g.next w.DB w.nd w.nl c.x c.D
theorem Gw.app (w : Gw d l L T0 H0 T B) (g : Grow d l L T B T3 H3 vs es) (h : Da T3 e v) : Grow d l L T B T3 (upd H3 L (.lst (vs ++ [v]))) (vs ++ [v]) (es ++ [e]) :=
  g.app w.nd w.nl w.nB h
theorem Gw.fin (w : Gw d l L T0 H0 T B) (g : Grow d l L T B T2 H2 vs es) : Ch d l T0 H0 (upd T2 L (.lst vs)) H2 ∧ Same T (upd T2 L (.lst vs)) ∧ DaA (upd T2 L (.lst vs)) es vs :=
  ⟨⟨w.D0, w.t0, w.l0, g.fin w.D0 w.DB w.x w.n0, g.D⟩, g.x.tt.trans (same_new g.tL), g.da.keep (same_new g.tL)⟩
/-- another thing beside it is as it was -/
theorem Gw.beside (w : Gw d l L T0 H0 T (hide H L)) (g : Grow d l L T (hide H L) T2 H2 vs es) {b : Addr} {o : HO} (n1 : b ≠ d) (n2 : b ≠ l) (n3 : b ≠ L) (h : H b = some o) : H2 b = some o :=
  g.x.hh b o n1 n2 (by rw [hide_ne n3]; exact h)
theorem Gw.free (w : Gw d l L T0 H0 T (hide H L)) (g : Grow d l L T (hide H L) T2 H2 vs es) {b : Addr} {o : HO} (n3 : b ≠ L) (h : H b = some o) (t : T b = none) : T2 b = none :=
  g.x.out t (by rw [hide_ne n3]; exact h)
end
end Zc
end

section
set_option maxHeartbeats 2000000
/-! Expressions that build data. -/
namespace Zc
open PySem PySem.Spec PyProof.Rows L2
/-- an expression whose value is this data, where what stands in T stands -/
def Ev (d l : Addr) (T0 H0 : Hp) (te : TE) (σ : L2.St) (T : Hp) (D : PyData) : Prop :=
  ∀ (T1 H1 : Hp) (Q : VK), Ch d l T0 H0 T1 H1 → Same T T1 → (∀ T2 H2 v, Ch d l T0 H0 T2 H2 → Same T1 T2 → Da T2 D v → Q v H2) → te σ H1 Q
def EvA (d l : Addr) (T0 H0 : Hp) (t : TA) (σ : L2.St) (T : Hp) (Ds : List PyData) : Prop :=
  ∀ (T1 H1 : Hp) (Q : List V → Hp → Prop), Ch d l T0 H0 T1 H1 → Same T T1 → (∀ T2 H2 vs, Ch d l T0 H0 T2 H2 → Same T1 T2 → DaA T2 Ds vs → Q vs H2) → t σ H1 Q
section
variable {d l : Addr} {T0 H0 T : Hp} {σ : L2.St} {te ta tb : TE} {t : TA} {D : PyData} {Ds as bs : List PyData} {v : V} {i : Nat} {K : PySem.W.Frag}
theorem ev_var (e : σ[i]? = some (some v)) (h : Da T D v) : Ev d l T0 H0 (tVar i) σ T D := fun T1 H1 Q c s k => ⟨v, e, k T1 H1 v c (.refl _) (Da.keep s _ _ h)⟩
theorem ev_c (h : ∀ T, Da T D v) : Ev d l T0 H0 (tC v) σ T D := fun T1 H1 Q c s k => k T1 H1 v c (.refl _) (h _)
theorem evA_nil : EvA d l T0 H0 tNil σ T [] := fun T1 H1 Q c s k => k T1 H1 [] c (.refl _) rfl
theorem evA_cons (h : Ev d l T0 H0 te σ T D) (g : EvA d l T0 H0 t σ T Ds) : EvA d l T0 H0 (tCons te t) σ T (D :: Ds) := fun T1 H1 Q c s k =>
  h T1 H1 _ c s fun T2 H2 v c2 s2 hv => g T2 H2 _ c2 (s.trans s2) fun T3 H3 vs c3 s3 hvs => k T3 H3 _ c3 (s2.trans s3) ⟨v, vs, rfl, Da.keep s3 _ _ hv, hvs⟩
theorem ev_tup (h : EvA d l T0 H0 t σ T Ds) (n : Nat.ble Ds.length 1000 = true := by rfl) : Ev d l T0 H0 (tTup t) σ T (.tuple Ds) := fun T1 H1 Q c s k => by
  refine h T1 H1 _ c s fun T2 H2 vs c2 s2 hvs => ⟨by rw [hvs.len]; exact Nat.le_trans (Nat.le_of_ble_eq_true n) (by decide), fun p np => ?_⟩
  obtain ⟨c3, s3, h3⟩ := c2.tup np hvs
  exact k _ _ _ c3 (s2.trans s3) h3
theorem ev_lst (h : EvA d l T0 H0 t σ T Ds) (n : Ds.length ≤ 1000) : Ev d l T0 H0 (tLst t) σ T (.list Ds) := fun T1 H1 Q c s k => by
  refine h T1 H1 _ c s fun T2 H2 vs c2 s2 hvs => ⟨by rw [hvs.len]; exact Nat.le_trans n (by decide), fun p np => ?_⟩
  obtain ⟨c3, s3, h3⟩ := c2.lst np hvs
  exact k _ _ _ c3 (s2.trans s3) h3
theorem ev_len (h : Ev d l T0 H0 te σ T (.tuple Ds)) : Ev d l T0 H0 (tCB (fun xs H Q => ∃ p ys, xs = [V.ref p] ∧ (SqL K H p ys ∨ SqT K H p ys) ∧ Q (V.int ys.length) H) (tCons te tNil)) σ T (.int (Ds.length : Nat)) := fun T1 H1 Q c s k =>
  h T1 H1 _ c s fun T2 H2 v c2 s2 ⟨p, xs, ev, ep, hp⟩ => ⟨p, xs, by rw [ev], .inr (.inl (.inl (c2.sT _ _ ep))), k T2 H2 _ c2 s2 (congrArg (fun n : Nat => V.int (n : Int)) hp.len)⟩
theorem ev_listof (h : Ev d l T0 H0 te σ T (.tuple Ds)) : Ev d l T0 H0 (tCB (fun xs H Q => ∃ p ys, xs = [V.ref p] ∧ (SqL K H p ys ∨ SqT K H p ys) ∧ ∀ l, H l = none → Q (V.ref l) (upd H l (.lst ys))) (tCons te tNil)) σ T (.list Ds) := fun T1 H1 Q c s k =>
  h T1 H1 _ c s fun T2 H2 v c2 s2 ⟨p, xs, ev, ep, hp⟩ => ⟨p, xs, by rw [ev], .inr (.inl (.inl (c2.sT _ _ ep))), fun q nq => by
    obtain ⟨c3, s3, h3⟩ := c2.lst nq hp
    exact k _ _ _ c3 (s2.trans s3) h3⟩
theorem ev_cat (h : Ev d l T0 H0 ta σ T (.tuple as)) (g : Ev d l T0 H0 tb σ T (.tuple bs)) (n : as.length + bs.length ≤ 1000) : Ev d l T0 H0 (tOp (rCatA K) ta tb) σ T (.tuple (as ++ bs)) := fun T1 H1 Q c s k => by
  refine h T1 H1 _ c s fun T2 H2 v c2 s2 ⟨p, xs, ev, ep, hp⟩ => g T2 H2 _ c2 (s.trans s2) fun T3 H3 u c3 s3 ⟨p', ys, eu, ep', hp'⟩ => ?_
  subst ev eu
  refine catA_da c3.sT (s3 _ _ ep) ep' (by rw [hp.len, hp'.len]; exact Nat.le_trans n (by decide)) fun q T4 H4 x4 e4 => ?_
  exact k T4 H4 _ (c3.ext x4) (s2.trans (s3.trans x4.tt)) (Da.tup e4 ((hp.keep s3).app hp' |>.keep x4.tt))
theorem ev_add {a b : Nat} (h : Ev d l T0 H0 ta σ T (.int (a : Nat))) (g : Ev d l T0 H0 tb σ T (.int (b : Nat))) : Ev d l T0 H0 (tOp (rI0 fun i j => V.int (i + j)) ta tb) σ T (.int ((a + b : Nat) : Int)) := fun T1 H1 Q c s k =>
  h T1 H1 _ c s fun T2 H2 v c2 s2 hv => g T2 H2 _ c2 (s.trans s2) fun T3 H3 u c3 s3 hu => ⟨a, b, hv, hu, k T3 H3 _ c3 (s2.trans s3) (congrArg V.int (by omega))⟩
theorem ev_take {k : Nat} (h : Ev d l T0 H0 ta σ T (.tuple as)) (g : Ev d l T0 H0 tb σ T (.int (k : Nat))) (n : k ≤ as.length) : Ev d l T0 H0 (tSl (rSlA K) ta tNoPart (tPart tb)) σ T (.tuple (as.take k)) := fun T1 H1 Q c s kk => by
  refine h T1 H1 _ c s fun T2 H2 v c2 s2 ⟨p, xs, ev, ep, hp⟩ => noPart (g T2 H2 _ c2 (s.trans s2) fun T3 H3 u c3 s3 hu => ⟨_, hu, ?_⟩)
  subst ev
  refine slA_da c3.sT (s3 _ _ ep) fun q T4 H4 x4 e4 => ?_
  rw [cutV_take xs k (by rw [hp.len]; exact n)] at e4
  exact kk T4 H4 _ (c3.ext x4) (s2.trans (s3.trans x4.tt)) (Da.tup e4 ((hp.take k).keep (s3.trans x4.tt)))
theorem ev_drop {k : Nat} (h : Ev d l T0 H0 ta σ T (.tuple as)) (g : Ev d l T0 H0 tb σ T (.int (k : Nat))) (n : k ≤ as.length) : Ev d l T0 H0 (tSl (rSlA K) ta (tPart tb) tNoPart) σ T (.tuple (as.drop k)) := fun T1 H1 Q c s kk => by
  refine h T1 H1 _ c s fun T2 H2 v c2 s2 ⟨p, xs, ev, ep, hp⟩ => g T2 H2 _ c2 (s.trans s2) fun T3 H3 u c3 s3 hu => ⟨_, hu, noPart ?_⟩
  subst ev
  refine slA_da c3.sT (s3 _ _ ep) fun q T4 H4 x4 e4 => ?_
  rw [cutV_drop xs k (by rw [hp.len]; exact n)] at e4
  exact kk T4 H4 _ (c3.ext x4) (s2.trans (s3.trans x4.tt)) (Da.tup e4 ((hp.drop k).keep (s3.trans x4.tt)))
theorem ev_run {T1 H1 : Hp} {Q : VK} (h : Ev d l T0 H0 te σ T D) (c : Ch d l T0 H0 T1 H1) (s : Same T T1) (k : ∀ T2 H2 v, Ch d l T0 H0 T2 H2 → Same T1 T2 → Da T2 D v → Q v H2) : te σ H1 Q := h T1 H1 Q c s k
theorem evA_run {T1 H1 : Hp} {Q : List V → Hp → Prop} (h : EvA d l T0 H0 t σ T Ds) (c : Ch d l T0 H0 T1 H1) (s : Same T T1) (k : ∀ T2 H2 vs, Ch d l T0 H0 T2 H2 → Same T1 T2 → DaA T2 Ds vs → Q vs H2) : t σ H1 Q := h T1 H1 Q c s k
theorem ev_run0 {H1 : Hp} {Q : VK} (h : Ev d l T0 H0 te σ T D) (c : Ch d l T0 H0 T H1) (k : ∀ T2 H2 v, Ch d l T0 H0 T2 H2 → Same T T2 → Da T2 D v → Q v H2) : te σ H1 Q := h T H1 Q c (.refl _) k
/-- a list behind a list -/
theorem ev_catL (h : Ev d l T0 H0 ta σ T (.list as)) (g : Ev d l T0 H0 tb σ T (.list bs)) (n : as.length + bs.length ≤ 1000) : Ev d l T0 H0 (tOp rCat ta tb) σ T (.list (as ++ bs)) := fun T1 H1 Q c s k => by
  refine h T1 H1 _ c s fun T2 H2 v c2 s2 ⟨p, xs, ev, ep, hp⟩ => g T2 H2 _ c2 (s.trans s2) fun T3 H3 u c3 s3 ⟨p', ys, eu, ep', hp'⟩ => ?_
  subst ev eu
  refine ⟨p, p', xs, ys, rfl, rfl, c3.sT _ _ (s3 _ _ ep), c3.sT _ _ ep', by rw [hp.len, hp'.len]; exact Nat.le_trans n (by decide), fun q nq => ?_⟩
  obtain ⟨c4, s4, h4⟩ := c3.lst nq ((hp.keep s3).app hp')
  exact k _ _ _ c4 (s2.trans (s3.trans s4)) h4
theorem ev_mulL {m : Nat} (h : Ev d l T0 H0 ta σ T (.list as)) (n : as.length * m ≤ 1000) (n2 : m ≤ 1000) : Ev d l T0 H0 (tOp rRep ta (tC (V.int (m : Nat)))) σ T (.list (List.replicate m as).flatten) := fun T1 H1 Q c s k => by
  refine h T1 H1 _ c s fun T2 H2 v c2 s2 ⟨p, xs, ev, ep, hp⟩ => ?_
  subst ev
  refine ⟨p, (m : Int), xs, rfl, rfl, c2.sT _ _ ep, by omega, by omega, by rw [Int.toNat_natCast, hp.len]; exact Nat.le_trans n (by decide), fun q nq => ?_⟩
  have hr : ∀ m, DaA T2 (List.replicate m as).flatten (List.replicate m xs).flatten := fun m => by
    induction m with
    | zero => rfl
    | succ m ih =>
      rw [List.replicate_succ, List.replicate_succ, List.flatten_cons, List.flatten_cons]
      exact hp.app ih
  rw [Int.toNat_natCast]
  obtain ⟨c4, s4, h4⟩ := c2.lst nq (hr m)
  exact k _ _ _ c4 (s2.trans s4) h4
end
end Zc
end

section
set_option maxHeartbeats 1000000
/-! Constants of the program's top that are data. -/
namespace Zd
open PySem PySem.Spec PyProof.Rows L2 Zc
/-- a written thing is this data -/
class CDat (K : PySem.W.Frag) (v : V) (d : outParam PyData) : Prop where
  run : ∀ T : Hp, Dv K T d v
def tCD (v : V) : TE := tC v
theorem pe_cd {X : Cx} {e : Expr} {v : V} (h : PE X e (tC v)) : PE X e (tCD v) := h
def wCD (d : PyData) : WE := fun S k => k (.ad (.dat d)) S
section
variable {K : PySem.W.Frag} {TB : List Addr} {E : XK} {Ex : XD → Prop}
instance {v : V} {d : PyData} [h : CDat K v d] : DEc K TB E Ex (tCD v) (wCD d) where
  run := fun S σ H ρ T Q k w _ hk q => q (.ad (.dat d)) _ _ _ _ _ w .refl (h.run T) hk
end
/-- a class's statements -/
def clsBody : Stmt → List Stmt
  | .ClassDef (body := b) .. => b
  | _ => []
end Zd
end

section
set_option maxHeartbeats 1000000
/-! The second layer: loops by their invariants; walks in closed form. -/
namespace Zd
open PySem PySem.Spec PyProof.Rows L2 Zc
/-- a for loop over items of one's own kind -/
theorem forL_ind {α : Type} {wg : WG} {wb : WS} {W : WD} (enc : α → PyData) (I : List α → SS → Prop) (all : List α) (last : ∀ S, I all S → W.nx S)
    (turn : ∀ (pre : List α) (x : α) (post : List α) (S : SS) (N : SS → Prop), all = pre ++ x :: post → I pre S → (∀ S2 S3, Wk W.n S2 S3 → I (pre ++ [x]) S3 → N S2) →
      wg (.ad (.dat (enc x))) S fun S1 => wb { W with nx := N, ct := N, bk := W.nx } S1) : ∀ (post pre : List α) (S : SS), all = pre ++ post → I pre S → wForL wg wb W (post.map enc) S
  | [], pre, S, e, h => last S (by rw [e, List.append_nil]; exact h)
  | x :: post, pre, S, e, h => turn pre x post S _ e h fun S2 S3 wk h3 => ⟨S3, wk, forL_ind enc I all last turn post (pre ++ [x]) S3 (by rw [e, List.append_assoc]; rfl) h3⟩
/-- .. from the beginning -/
theorem forL {α : Type} {wg : WG} {wb : WS} {W : WD} {ds : List PyData} {S : SS} (enc : α → PyData) (all : List α) (hds : ds = all.map enc) (I : List α → SS → Prop) (start : I [] S) (last : ∀ S, I all S → W.nx S)
    (turn : ∀ (pre : List α) (x : α) (post : List α) (S : SS) (N : SS → Prop), all = pre ++ x :: post → I pre S → (∀ S2 S3, Wk W.n S2 S3 → I (pre ++ [x]) S3 → N S2) →
      wg (.ad (.dat (enc x))) S fun S1 => wb { W with nx := N, ct := N, bk := W.nx } S1) : wForL wg wb W ds S := by
  subst hds
  exact forL_ind enc I all last turn all [] S rfl start
/-- for k in range(n) -/
theorem forL_range {wg : WG} {wb : WS} {W : WD} {S : SS} {lo : Int} {n : Nat} (I : Nat → SS → Prop) (start : I 0 S) (last : ∀ S, I n S → W.nx S)
    (turn : ∀ (i : Nat) (S : SS) (N : SS → Prop), i < n → I i S → (∀ S2 S3, Wk W.n S2 S3 → I (i + 1) S3 → N S2) →
      wg (.ad (.dat (.int (lo + i)))) S fun S1 => wb { W with nx := N, ct := N, bk := W.nx } S1) : wForL wg wb W ((List.range n).map fun (i : Nat) => PyData.int (lo + i)) S := by
  refine forL (fun (i : Nat) => PyData.int (lo + i)) (List.range n) rfl (fun pre S => I pre.length S) start (fun S h => last S (by rw [List.length_range] at h; exact h)) fun pre x post S N e h hN => ?_
  have hx : x = pre.length ∧ pre.length < n := by
    have h1 : (List.range n)[pre.length]? = some x := by rw [e, List.getElem?_append_right (Nat.le_refl _), Nat.sub_self]; rfl
    have h2 := (List.getElem?_eq_some_iff.mp h1).1
    rw [List.length_range] at h2
    rw [List.getElem?_range h2] at h1
    exact ⟨(Option.some.inj h1).symm, h2⟩
  obtain ⟨rfl, hl⟩ := hx
  exact turn pre.length S N hl h fun S2 S3 wk h3 => hN S2 S3 wk (by rw [List.length_append]; exact h3)
section
variable {α : Type} {wg : WG} {wt : WT} {we : WE} {vs : List Nat} {s0 : List AD} {k : RD → SS → Prop} {m : List CD}
/-- [f x for x in all if p x], nothing changed -/
theorem lcL_ind (enc : α → PyData) (p : α → Bool) (f : α → PyData)
    : ∀ (all : List α) (acc : List PyData), (∀ x ∈ all, ∀ (N1 : PyData → List CD → Prop) (N0 : List CD → Prop), (p x = true → N1 (f x) m) → (p x = false → N0 m) →
        wg (.ad (.dat (enc x))) ⟨unAll vs s0, m⟩ fun S1 => wt S1 fun b S2 => if b = true then we S2 fun r S3 => asD r S3 fun d S4 => N1 d S4.m else N0 S2.m) →
      k (.new (.lst (acc ++ (all.filter p).map f))) ⟨s0, m⟩ → wLcL wg wt we vs s0 k (all.map enc) acc m
  | [], acc, _, h => by rw [List.filter_nil, List.map_nil, List.append_nil] at h; exact h
  | x :: xs, acc, turn, h => turn x List.mem_cons_self (fun d m => wLcL wg wt we vs s0 k (xs.map enc) (acc ++ [d]) m) (fun m => wLcL wg wt we vs s0 k (xs.map enc) acc m)
      (fun e => lcL_ind enc p f xs (acc ++ [f x]) (fun y hy => turn y (List.mem_cons_of_mem _ hy)) (by rw [List.filter_cons_of_pos e, List.map_cons] at h; rw [List.append_assoc]; exact h))
      (fun e => lcL_ind enc p f xs acc (fun y hy => turn y (List.mem_cons_of_mem _ hy)) (by rw [List.filter_cons_of_neg (by rw [e]; exact Bool.false_ne_true)] at h; exact h))
theorem lcL {ds : List PyData} (enc : α → PyData) (all : List α) (hds : ds = all.map enc) (p : α → Bool) (f : α → PyData)
    (turn : ∀ x ∈ all, ∀ (N1 : PyData → List CD → Prop) (N0 : List CD → Prop), (p x = true → N1 (f x) m) → (p x = false → N0 m) →
        wg (.ad (.dat (enc x))) ⟨unAll vs s0, m⟩ fun S1 => wt S1 fun b S2 => if b = true then we S2 fun r S3 => asD r S3 fun d S4 => N1 d S4.m else N0 S2.m)
    (h : k (.new (.lst ((all.filter p).map f))) ⟨s0, m⟩) : wLcL wg wt we vs s0 k ds [] m := by
  subst hds
  exact lcL_ind enc p f all [] turn h
/-- .. whose items draw: what holds of the items so far -/
theorem lcL_draw (enc : α → PyData) (Pi : List α → List PyData → Prop) (all : List α)
    (turn : ∀ (pre : List α) (x : α) (post : List α) (acc : List PyData) (N1 : PyData → List CD → Prop) (N0 : List CD → Prop), all = pre ++ x :: post → Pi pre acc → (∀ d, Pi (pre ++ [x]) (acc ++ [d]) → N1 d m) → (Pi (pre ++ [x]) acc → N0 m) →
        wg (.ad (.dat (enc x))) ⟨unAll vs s0, m⟩ fun S1 => wt S1 fun b S2 => if b = true then we S2 fun r S3 => asD r S3 fun d S4 => N1 d S4.m else N0 S2.m)
    (last : ∀ acc, Pi all acc → k (.new (.lst acc)) ⟨s0, m⟩) : ∀ (post pre : List α) (acc : List PyData), all = pre ++ post → Pi pre acc → wLcL wg wt we vs s0 k (post.map enc) acc m
  | [], pre, acc, e, h => last acc (by rw [e, List.append_nil]; exact h)
  | x :: post, pre, acc, e, h => turn pre x post acc _ _ e h (fun d hd => lcL_draw enc Pi all turn last post (pre ++ [x]) (acc ++ [d]) (by rw [e, List.append_assoc]; rfl) hd)
      (fun hd => lcL_draw enc Pi all turn last post (pre ++ [x]) acc (by rw [e, List.append_assoc]; rfl) hd)
/-- any(q x for x in all if p x), all(..) -/
theorem genL {go : Bool} {ds : List PyData} (enc : α → PyData) (all : List α) (hds : ds = all.map enc) (p q : α → Bool)
    (turn : ∀ x ∈ all, ∀ (N F : List CD → Prop), (p x = true → q x = go → N m) → (p x = true → q x ≠ go → F m) → (p x = false → N m) →
        wg (.ad (.dat (enc x))) ⟨unAll vs s0, m⟩ fun S1 => wt S1 fun b S2 => if b = true then we S2 fun r S3 => asB r fun c => if c = go then N S3.m else F S3.m else N S2.m)
    (h : k (.ad (.dat (.bool (anyAllA go q (all.filter p))))) ⟨s0, m⟩) : wGenL go wg wt we vs s0 k ds m := by
  subst hds
  induction all with
  | nil =>
    have e : anyAllA go q ([] : List α) = go := anyAllA_go fun d hd => absurd hd List.not_mem_nil
    rw [List.filter_nil, e] at h
    exact h
  | cons x xs ih =>
    refine turn x List.mem_cons_self (fun m => wGenL go wg wt we vs s0 k (xs.map enc) m) (fun m => k (.ad (.dat (.bool (!go)))) ⟨s0, m⟩) (fun e1 e2 => ih (fun y hy => turn y (List.mem_cons_of_mem _ hy)) ?_) (fun e1 e2 => ?_) (fun e1 => ih (fun y hy => turn y (List.mem_cons_of_mem _ hy)) ?_)
    · rw [List.filter_cons_of_pos e1] at h
      have : anyAllA go q (x :: xs.filter p) = anyAllA go q (xs.filter p) := by
        unfold anyAllA
        cases go with
        | true => rw [if_pos rfl, if_pos rfl, List.all_cons, e2]; rfl
        | false => rw [if_neg Bool.false_ne_true, if_neg Bool.false_ne_true, List.any_cons, e2]; rfl
      rw [this] at h
      exact h
    · rw [anyAllA_no (List.mem_filter.mpr ⟨List.mem_cons_self, e1⟩) e2] at h
      exact h
    · rw [List.filter_cons_of_neg (by rw [e1]; exact Bool.false_ne_true)] at h
      exact h
end
end Zd
end

section
set_option maxHeartbeats 1000000
/-! Equations for reading what is asked. -/
namespace Zd
open PySem PySem.Spec PyProof.Rows L2 Zc
section
variable {d e : PyData} {ds es : List PyData} {i j : Int} {n : Nat} {b c : Bool} {x y : Str} {S : SS} {k : RD → Prop} {kk : RD → SS → Prop} {kd : PyData → SS → Prop} {kp : PyData → Prop} {kb : Bool → Prop} {ki : Int → Prop} {r : RD} {rs : List RD} {v : V} {g : Int → Int → Int} {gb : Int → Int → Bool} {C : Int → Int → Prop} {neg : Bool} {ka : List AD → SS → Prop} {ks : SS → Prop} {kds : List PyData → SS → Prop} {kt : Bool → SS → Prop}
theorem e_c_int : wC (.int i) S kk = kk (.ad (.dat (.int i))) S := rfl
theorem e_c_str : wC (.str x) S kk = kk (.ad (.dat (.str x))) S := rfl
theorem e_c_bl : wC (.bl b) S kk = kk (.ad (.dat (.bool b))) S := rfl
theorem e_c_non : wC .non S kk = kk (.ad (.dat .none)) S := rfl
theorem e_c_ty {t : String} : wC (.ty t) S kk = kk (.ad (.val (.ty t))) S := rfl
theorem e_c_ref {a : Addr} : wC (.ref a) S kk = kk (.ad (.val (.ref a))) S := rfl
theorem e_asD_d : asD (.ad (.dat d)) S kd = kd d S := rfl
theorem e_asD_n : asD (.new (.lst ds)) S kd = kd (.list ds) S := rfl
theorem e_asD_l {l : Nat} : asD (.ad (.loc l)) S kd = (match S.m[l]? with | some (.lst ds) => kd (.list ds) (S.frz l ds) | _ => False) := rfl
theorem e_vwD_d : vwD (.ad (.dat d)) S kp = kp d := rfl
theorem e_vwD_n : vwD (.new (.lst ds)) S kp = kp (.list ds) := rfl
theorem e_vwD_l {l : Nat} : vwD (.ad (.loc l)) S kp = (match S.m[l]? with | some (.lst ds) => kp (.list ds) | _ => False) := rfl
theorem e_asDs_0 : asDs [] S kds = kds [] S := rfl
theorem e_asDs_1 : asDs (r :: rs) S kds = asD r S fun d S1 => asDs rs S1 fun ds S2 => kds (d :: ds) S2 := rfl
theorem e_asB : asB (.ad (.dat (.bool b))) kb = kb b := rfl
theorem e_asI : asI (.ad (.dat (.int i))) ki = ki i := rfl
theorem e_w1 {f : PyData → (RD → Prop) → Prop} : w1 f [r] S kk = vwD r S fun d => f d fun r => kk r S := rfl
theorem e_w2I {r1 r2 : RD} : w2I g [.ad (.dat (.int i)), .ad (.dat (.int j))] S kk = kk (.ad (.dat (.int (g i j)))) S := rfl
theorem e_fInt : fInt C g (.int i) (.int j) k = (C i j ∧ k (.ad (.dat (.int (g i j))))) := rfl
theorem e_fAdd_i : fAdd (.int i) (.int j) k = k (.ad (.dat (.int (i + j)))) := rfl
theorem e_fAdd_s : fAdd (.str x) (.str y) k = (x.length + y.length ≤ 1000000 ∧ k (.ad (.dat (.str (x ++ y))))) := rfl
theorem e_fAdd_l : fAdd (.list ds) (.list es) k = (ds.length + es.length ≤ 1000000 ∧ k (.new (.lst (ds ++ es)))) := rfl
theorem e_fAdd_t : fAdd (.tuple ds) (.tuple es) k = (ds.length + es.length ≤ 1000000 ∧ k (.ad (.dat (.tuple (ds ++ es))))) := rfl
theorem e_fMul_i : fMul (.int i) (.int j) k = (CMulW i j ∧ k (.ad (.dat (.int (i * j))))) := rfl
theorem e_fMul_l : fMul (.list ds) (.int j) k = (ds.length * j.toNat ≤ 1000000 ∧ j ≤ 1000000 ∧ -1000000 ≤ j ∧ k (.new (.lst (List.replicate j.toNat ds).flatten))) := rfl
theorem e_fMul_t : fMul (.tuple ds) (.int j) k = (ds ≠ [] ∧ ds.length ≤ 1000 ∧ j ≤ 1000 ∧ 0 ≤ j ∧ k (.ad (.dat (.tuple (List.replicate j.toNat ds).flatten)))) := rfl
theorem e_fCmp : fCmp gb (.int i) (.int j) k = k (.ad (.dat (.bool (gb i j)))) := rfl
theorem e_fEq_i : fEq neg (.int i) (.int j) k = k (.ad (.dat (.bool (if neg then !decide (i = j) else decide (i = j))))) := by
  unfold fEq
  rw [show scD (.int i) (.int j) = true from rfl]
  have e : PyData.eqv (.int i) (.int j) = decide (i = j) := by
    show (i == j) = _
    rw [Bool.eq_iff_iff, beq_iff_eq, decide_eq_true_iff]
  rw [e]
  simp
theorem e_fEq_s : fEq neg (.str x) (.str y) k = k (.ad (.dat (.bool (if neg then !decide (x = y) else decide (x = y))))) := by
  unfold fEq
  rw [show scD (.str x) (.str y) = true from rfl]
  have e : PyData.eqv (.str x) (.str y) = decide (x = y) := by
    show (x == y) = _
    rw [Bool.eq_iff_iff, beq_iff_eq, decide_eq_true_iff]
  rw [e]
  simp
theorem e_fEq_b : fEq neg (.bool b) (.bool c) k = k (.ad (.dat (.bool (if neg then !decide (b = c) else decide (b = c))))) := by
  unfold fEq
  rw [show scD (.bool b) (.bool c) = true from rfl]
  have e : PyData.eqv (.bool b) (.bool c) = decide (b = c) := by cases b <;> cases c <;> rfl
  rw [e]
  simp
theorem e_fEq_l : fEq neg (.list ds) (.list es) k = (eqOk (.list ds) (.list es) ∧ k (.ad (.dat (.bool (if neg then !PyData.eqvAll ds es else PyData.eqvAll ds es))))) := by
  unfold fEq
  rw [show scD (.list ds) (.list es) = false from rfl]
  simp [PyData.eqv]
theorem e_fEq_t : fEq neg (.tuple ds) (.tuple es) k = (eqOk (.tuple ds) (.tuple es) ∧ k (.ad (.dat (.bool (if neg then !PyData.eqvAll ds es else PyData.eqvAll ds es))))) := by
  unfold fEq
  rw [show scD (.tuple ds) (.tuple es) = false from rfl]
  simp [PyData.eqv]
theorem e_fIx_l : fIx (.list ds) (.int i) k = ∃ d, atI ds i = some d ∧ k (.ad (.dat d)) := rfl
theorem e_fIx_t : fIx (.tuple ds) (.int i) k = ∃ d, atI ds i = some d ∧ k (.ad (.dat d)) := rfl
theorem e_fIx_s : fIx (.str x) (.int i) k = (x.length ≤ 1000000 ∧ ∃ c, atI x.cps.toList i = some c ∧ k (.ad (.dat (.str ⟨#[c]⟩)))) := rfl
theorem e_fLen_l : fLen (.list ds) k = k (.ad (.dat (.int ds.length))) := rfl
theorem e_fLen_t : fLen (.tuple ds) k = k (.ad (.dat (.int ds.length))) := rfl
theorem e_fLen_s : fLen (.str x) k = (x.length ≤ 1000000 ∧ k (.ad (.dat (.int x.length)))) := rfl
theorem e_fTup_l : fTupOf (.list ds) k = k (.ad (.dat (.tuple ds))) := rfl
theorem e_fTup_t : fTupOf (.tuple ds) k = k (.ad (.dat (.tuple ds))) := rfl
theorem e_fLst_l : fListOf (.list ds) k = k (.new (.lst ds)) := rfl
theorem e_fLst_t : fListOf (.tuple ds) k = k (.new (.lst ds)) := rfl
theorem e_fIntO_i : fIntOf (.int i) k = k (.ad (.dat (.int i))) := rfl
theorem e_fIntO_b : fIntOf (.bool b) k = k (.ad (.dat (.int (if b then 1 else 0)))) := rfl
theorem e_fAbs : fAbs (.int i) k = k (.ad (.dat (.int (if i < 0 then -i else i)))) := rfl
theorem e_fStr : fStrI (.int i) k = (i.natAbs < 2 ^ 64 ∧ k (.ad (.dat (.str (toString i))))) := rfl
theorem e_fBool_i : fBool (.int i) k = k (.ad (.dat (.bool (i != 0)))) := rfl
theorem e_fBool_b : fBool (.bool b) k = k (.ad (.dat (.bool b))) := rfl
theorem e_fSum : fSum (.list ds) k = ∃ ns, intsOf ds = some ns ∧ k (.ad (.dat (.int ns.sum))) := rfl
theorem e_fSort : fSort (.list ds) k = ∃ ns, intsOf ds = some ns ∧ ∀ ns' : List Int, ns'.Perm ns → ns'.Pairwise (· ≤ ·) → k (.new (.lst (ns'.map PyData.int))) := rfl
theorem e_tru_n : truD .none kb = kb false := rfl
theorem e_tru_b : truD (.bool b) kb = kb b := rfl
theorem e_tru_i : truD (.int i) kb = kb (i != 0) := rfl
theorem e_tru_s : truD (.str x) kb = (x.length ≤ 1000000 ∧ kb ((x.length : Int) != 0)) := rfl
theorem e_tru_l : truD (.list ds) kb = kb (!ds.isEmpty) := rfl
theorem e_tru_t : truD (.tuple ds) kb = kb (!ds.isEmpty) := rfl
theorem e_fSl_l {l u : Option Int} : fSl (.list ds) l u k = k (.new (.lst (cutD ds l u))) := rfl
theorem e_fSl_t {l u : Option Int} : fSl (.tuple ds) l u k = k (.ad (.dat (.tuple (cutD ds l u)))) := rfl
theorem e_fSl_s {l u : Option Int} : fSl (.str x) l u k = (x.length ≤ 1000000 ∧ k (.ad (.dat (.str (cutS x l u))))) := rfl
theorem e_items_l {kx : List PyData → Prop} : itemsD (.list ds) kx = kx ds := rfl
theorem e_items_t {kx : List PyData → Prop} : itemsD (.tuple ds) kx = kx ds := rfl
theorem e_items_s {kx : List PyData → Prop} : itemsD (.str x) kx = kx (signsD x) := rfl
theorem e_isi_int : wIsi [r, .ad (.val (.ty "int"))] S kk = vwD r S fun d => kk (.ad (.dat (.bool (isIntD d || isBoolD d)))) S := by
  simp only [wIsi]
  congr 1
  funext d
  simp
theorem e_isi_bool : wIsi [r, .ad (.val (.ty "bool"))] S kk = vwD r S fun d => kk (.ad (.dat (.bool (isBoolD d)))) S := by
  simp only [wIsi]
  congr 1
  funext d
  simp
theorem e_isi_tuple : wIsi [r, .ad (.val (.ty "tuple"))] S kk = vwD r S fun d => kk (.ad (.dat (.bool (isTupD d)))) S := by
  simp only [wIsi]
  congr 1
  funext d
  simp
theorem e_isi_list : wIsi [r, .ad (.val (.ty "list"))] S kk = vwD r S fun d => kk (.ad (.dat (.bool (isLstD d)))) S := by
  simp only [wIsi]
  congr 1
  funext d
  simp
theorem e_isi_str : wIsi [r, .ad (.val (.ty "str"))] S kk = vwD r S fun d => kk (.ad (.dat (.bool (isStrD d)))) S := by
  simp only [wIsi]
  congr 1
  funext d
  simp
theorem e_is_n : wIs neg (.ad (.dat d)) (.ad (.dat .none)) S kk = kk (.ad (.dat (.bool (if neg then !isNonD d else isNonD d)))) S := by
  cases d <;> rfl
theorem e_is_b : wIs neg (.ad (.dat (.bool b))) (.ad (.dat (.bool c))) S kk = kk (.ad (.dat (.bool (if neg then !decide (b = c) else decide (b = c))))) S := rfl
theorem e_is_l {l : Nat} : wIs neg (.ad (.loc l)) (.ad (.dat .none)) S kk = kk (.ad (.dat (.bool neg))) S := rfl
theorem e_is_w {c : CD} : wIs neg (.new c) (.ad (.dat .none)) S kk = kk (.ad (.dat (.bool neg))) S := rfl
theorem e_name_a {a : AD} : wName n (.ad a) S ks = ks ⟨S.s.set n a, S.m⟩ := rfl
theorem e_name_n {c : CD} : wName n (.new c) S ks = ks ⟨S.s.set n (.loc S.m.length), S.m ++ [c]⟩ := rfl
theorem e_nameF_a {a : AD} : wNameF n (.ad a) S ks = ks ⟨S.s.set n a, S.m⟩ := rfl
theorem e_nameF_n : wNameF n (.new (.lst ds)) S ks = ks ⟨S.s.set n (.dat (.list ds)), S.m⟩ := rfl
theorem e_nm_t : wNm true n = wNameF n := rfl
theorem e_nm_f : wNm false n = wName n := rfl
theorem e_gtup {m : Nat} {wr : List PyData → SS → (SS → Prop) → Prop} : wgTup m wr (.ad (.dat (.tuple ds))) S ks = (ds.length = m ∧ wr ds S ks) := rfl
theorem e_gnil : wgNil [] S ks = ks S := rfl
theorem e_gcons {wg : WG} {wr : List PyData → SS → (SS → Prop) → Prop} : wgCons wg wr (d :: ds) S ks = wg (.ad (.dat d)) S fun S1 => wr ds S1 ks := rfl
theorem e_coA_0 : coA [] S ka = ka [] S := rfl
theorem e_coA_d : coA (.ad (.dat d) :: rs) S ka = coA rs S fun as S1 => ka (.dat d :: as) S1 := rfl
theorem e_coA_v : coA (.ad (.val v) :: rs) S ka = coA rs S fun as S1 => ka (.val v :: as) S1 := rfl
theorem e_coA_n : coA (.new (.lst ds) :: rs) S ka = coA rs S fun as S1 => ka (.dat (.list ds) :: as) S1 := rfl
theorem e_coA_l {l : Nat} : coA (.ad (.loc l) :: rs) S ka = (match S.m[l]? with | some (.lst ds) => coA rs (S.frz l ds) fun as S1 => ka (.dat (.list ds) :: as) S1 | some .gone => False | some _ => coA rs S fun as S1 => ka (.loc l :: as) S1 | Option.none => False) := rfl
theorem e_app {l : Nat} : wAppend (.ad (.loc l)) [r] S kk = asD r S fun d S1 => (match S1.m[l]? with | some (.lst ds) => ds.length < 1000000 ∧ kk (.ad (.dat .none)) ⟨S1.s, S1.m.set l (.lst (ds ++ [d]))⟩ | _ => False) := rfl
theorem e_pop {l : Nat} : wPop (.ad (.loc l)) [] S kk = (match S.m[l]? with | some (.lst ds) => ∃ d, ds[ds.length - 1]? = some d ∧ kk (.ad (.dat d)) ⟨S.s, S.m.set l (.lst ds.dropLast)⟩ | _ => False) := rfl
theorem e_popAt {l : Nat} : wPopAt (.ad (.loc l)) [.ad (.dat (.int i))] S kk = (match S.m[l]? with | some (.lst ds) => ∃ n d, ixN ds.length i = some n ∧ ds[n]? = some d ∧ ds.length < 1000000 ∧ kk (.ad (.dat d)) ⟨S.s, S.m.set l (.lst (ds.eraseIdx n))⟩ | _ => False) := rfl
theorem e_ext {l : Nat} : wExtend (.ad (.loc l)) [.new (.lst es)] S kk = (match S.m[l]? with | some (.lst ds) => ds.length + es.length ≤ 1000000 ∧ kk (.ad (.dat .none)) ⟨S.s, S.m.set l (.lst (ds ++ es))⟩ | _ => False) := by
  show (match PyData.list es, S.m[l]? with | PyData.list es, some (.lst ds) => ds.length + es.length ≤ 1000000 ∧ kk (.ad (.dat PyData.none)) ⟨S.s, S.m.set l (.lst (ds ++ es))⟩ | _, _ => False) = _
  cases S.m[l]? with
  | none => rfl
  | some c => cases c <;> rfl
theorem e_setL {l : Nat} : wSetL (.ad (.loc l)) (.ad (.dat (.int i))) r S ks = asD r S fun d S1 => (match S1.m[l]? with | some (.lst ds) => ∃ n, ixN ds.length i = some n ∧ ks ⟨S1.s, S1.m.set l (.lst (ds.set n d))⟩ | _ => False) := rfl
theorem e_ty_s : tyOk "str" (.ad (.dat (.str x))) S = True := by simp [tyOk]
theorem e_ty_n : tyOk "list" (.new (.lst ds)) S = True := by simp [tyOk]
theorem e_ty_d : tyOk "list" (.ad (.dat (.list ds))) S = True := by simp [tyOk]
theorem e_ty_l {l : Nat} {ty : String} : tyOk ty (.ad (.loc l)) S = (match S.m[l]? with | some (.lst _) => ty = "list" | some (.lsa _) => ty = "list" | some (.dcK _) => ty = "dict" | _ => False) := rfl
theorem e_aug {we : WE} {W : WD} : wAug n we g W S = (match S.s[n]? with | some (.dat (.int a)) => we S fun r S1 => asI r fun b => W.nx ⟨S1.s.set n (.dat (.int (g a b))), S1.m⟩ | _ => False) := rfl
theorem e_par {fi fj : Bool} {p q : Nat} {w : WA} {W : WD} : wPar fi fj p q w W S = w S fun rs S1 => match rs with | [r1, r2] => wNm fi p r1 S1 fun S2 => wNm fj q r2 S2 W.nx | _ => False := rfl
theorem e_rng1 {w : WA} : wRng1 w S kds = w S fun rs S1 => match rs with | [.ad (.dat (.int n))] => -1000000000 ≤ n ∧ n ≤ 1000000000 ∧ kds ((List.range n.toNat).map fun (i : Nat) => PyData.int (0 + i)) S1 | _ => False := rfl
theorem e_fin_d {B : List CD} {m : List CD} : finR B (.ad (.dat d)) m k = (m.take B.length = B ∧ k (.ad (.dat d))) := rfl
theorem e_fin_v {B : List CD} {m : List CD} : finR B (.ad (.val v)) m k = (m.take B.length = B ∧ k (.ad (.val v))) := rfl
theorem e_fin_n {B : List CD} {m : List CD} : finR B (.new (.lst ds)) m k = (m.take B.length = B ∧ k (.new (.lst ds))) := rfl
theorem e_fin_l {B : List CD} {m : List CD} {l : Nat} : finR B (.ad (.loc l)) m k = (m.take B.length = B ∧ B.length ≤ l ∧ match m[l]? with | some (.lst ds) => k (.new (.lst ds)) | _ => False) := rfl
end
end Zd
end

section
set_option maxHeartbeats 1000000
/-! Natural numbers, lots and orders as data. -/
namespace Zd
open PySem PySem.Spec PyProof.Rows L2 Zc
abbrev natD (n : Nat) : PyData := .int (n : Int)
def natsT (l : List Nat) : PyData := .tuple (l.map natD)
def natsL (l : List Nat) : PyData := .list (l.map natD)
def ordD (O : List (List Nat)) : PyData := .tuple (O.map natsT)
theorem eqv_nat (a b : Nat) : PyData.eqv (natD a) (natD b) = decide (a = b) := by
  show ((a : Int) == (b : Int)) = _
  rw [Bool.eq_iff_iff, beq_iff_eq, decide_eq_true_iff]
  omega
theorem eqv_int (a b : Int) : PyData.eqv (.int a) (.int b) = decide (a = b) := by
  show (a == b) = _
  rw [Bool.eq_iff_iff, beq_iff_eq, decide_eq_true_iff]
theorem inD_nats (n : Nat) (l : List Nat) : inD (natD n) (l.map natD) = decide (n ∈ l) := by
  unfold inD
  rw [Bool.eq_iff_iff, List.any_eq_true, decide_eq_true_iff]
  constructor
  · rintro ⟨d, hd, e⟩
    obtain ⟨m, hm, rfl⟩ := List.mem_map.mp hd
    rw [eqv_nat, decide_eq_true_iff] at e
    exact e ▸ hm
  · intro h
    exact ⟨natD n, List.mem_map.mpr ⟨n, h, rfl⟩, by rw [eqv_nat]; exact decide_eq_true rfl⟩
theorem flat_natsD (l : List Nat) : (l.map natD).all flatD = true := by
  rw [List.all_map]
  exact List.all_eq_true.mpr fun _ _ => rfl
/-- x in a tuple of numbers, in a list of numbers -/
theorem in_natsT {neg : Bool} {n : Nat} {l : List Nat} {k : RD → Prop} (h : k (.ad (.dat (.bool (if neg then !decide (n ∈ l) else decide (n ∈ l)))))) : fIn neg (natD n) (natsT l) k :=
  ⟨⟨rfl, flat_natsD l⟩, by rw [inD_nats]; exact h⟩
theorem in_natsL {neg : Bool} {n : Nat} {l : List Nat} {k : RD → Prop} (h : k (.ad (.dat (.bool (if neg then !decide (n ∈ l) else decide (n ∈ l)))))) : fIn neg (natD n) (.list (l.map natD)) k :=
  ⟨.inl ⟨rfl, flat_natsD l⟩, by rw [inD_nats]; exact h⟩
theorem at_map {α : Type} {f : α → PyData} {l : List α} {i : Nat} {a : α} (h : l[i]? = some a) : atI (l.map f) (i : Int) = some (f a) := atI_nat (by rw [List.getElem?_map, h]; rfl)
theorem at_getD {α : Type} {f : α → PyData} {l : List α} {i : Nat} {z : α} (h : i < l.length) : atI (l.map f) (i : Int) = some (f (l.getD i z)) := at_map (by rw [List.getD_eq_getElem?_getD, List.getElem?_eq_getElem h]; rfl)
theorem ix_natsT {l : List Nat} {i : Nat} {k : RD → Prop} (h : i < l.length) (hk : k (.ad (.dat (natD (l.getD i 0))))) : fIx (natsT l) (natD i) k := ⟨_, at_getD h, hk⟩
theorem ix_ord {O : List (List Nat)} {i : Nat} {k : RD → Prop} (h : i < O.length) (hk : k (.ad (.dat (natsT (O.getD i []))))) : fIx (ordD O) (natD i) k := ⟨_, at_getD h, hk⟩
theorem range_natD (n : Nat) : (List.range n).map (fun (i : Nat) => PyData.int (0 + (i : Int))) = (List.range n).map natD := List.map_congr_left fun i _ => by rw [Int.zero_add]
/-- for k in range(n), the number itself -/
theorem forL_nat {wg : WG} {wb : WS} {W : WD} {S : SS} {n : Nat} (I : Nat → SS → Prop) (start : I 0 S) (last : ∀ S, I n S → W.nx S)
    (turn : ∀ (i : Nat) (S : SS) (N : SS → Prop), i < n → I i S → (∀ S2 S3, Wk W.n S2 S3 → I (i + 1) S3 → N S2) →
      wg (.ad (.dat (natD i))) S fun S1 => wb { W with nx := N, ct := N, bk := W.nx } S1) : wForL wg wb W ((List.range n).map fun (i : Nat) => PyData.int (0 + i)) S :=
  forL_range I start last fun i S N hi hI hN => by
    rw [Int.zero_add]
    exact turn i S N hi hI hN
end Zd
end

section
set_option maxHeartbeats 2000000
/-! Base.__init__(self, ..), Base an exception class of one's own that takes ValueError's -/
namespace Zc
open PySem PySem.Spec PyProof.Rows L2
theorem pe_ownInit {X : Cx} {B : Addr} {e : Expr} {es : List Expr} {ta : TA} {x : Str} {p1 p2 pos : Pos} {pl : Sem Bool} (hg : Gl X x) (hm : X.mg x = some (.ref B)) (kB : PySem.W.keepIn X.K (.ref B) = true)
    (tB : PySem.W.typeIn X.K (.ref B) = some (.type "type")) (rB : PySem.W.readsIn X.K B (.type "type") = true)
    (ga : PySem.W.specialIn X.K (.ref B) "__getattribute__" = some (some (.builtin "type.__getattribute__"))) (fi : PySem.W.findCls X.K (.ref B) (.type "type") "__init__" = some (.val (.builtin "ValueError.__init__"))) (ha : PA X (e :: es) ta)
    (hc : eval (.Call (.Attribute (.Name x p1) "__init__" p2) (e :: es) [] pos) X.env = (do
      let ov ← eval (.Name x p1) X.env
      standAt p2.atName
      let (f, first) ← holding [ov] (getMethod ov "__init__" pl)
      callWith pos f first (backTo pos (starEach (e :: es) X.env)) (backToKw pos (keywordEach [] X.env))) := by rfl)
    (hdb : (x == ("__debug__" : Str)) = false := by decide) (he : starEach (e :: es) X.env = (false, eval e X.env) :: starEach es X.env := by rfl) (hpl : (backTo pos (starEach es X.env)).any (·.1) = false := by rfl) :
    PE X (.Call (.Attribute (.Name x p1) "__init__" p2) (e :: es) [] pos) (tVeI X.K ta) := by
  constructor
  intro pins s σ H Q I h
  apply PySem.W.methodCall_KW (ld_glob I hg hm ?_ hdb) hc
  obtain ⟨m, fr⟩ := I.fr
  apply PySem.W.method_of_cls fr I.ok.mod.kin ga
  apply PySem.W.cls_val fr I.ok.mod.kin tB rB fi (by decide +kernel)
  apply PyProof.Rows.callWith_method1 (thn (ha.run pos pins _ σ H _ (I.tok _) h) ?_) he hpl
  rintro us s1 ⟨vs, H1, I1, r1, a, C, ws, rfl, hl, T, ea, q⟩
  cases r1 with
  | @cons _ u0 _ ur ra rw' =>
    obtain rfl : u0 = Value.ref a := ra
    have hlen : ur.length ≤ sizeLine := by
      rw [← Paired.length rw', sizeLine_eq]
      omega
    exact oinit_ok T I1 ea hlen fun s' J => ⟨.non, H1, J, rfl, q⟩
end Zc
end

section
set_option maxHeartbeats 1000000
/-! Own exceptions that keep "at": raised, let through. -/
namespace Zd
open PySem PySem.Spec PyProof.Rows L2 Zc
/-- the base class -/
structure BasC (K : PySem.W.Frag) (mg : Str → Option Value) (x : Str) (B : Addr) : Prop where
  g : mg x = some (.ref B)
  k : PySem.W.keepIn K (.ref B) = true
  t : PySem.W.typeIn K (.ref B) = some (.type "type")
  r : PySem.W.readsIn K B (.type "type") = true
  ga : PySem.W.specialIn K (.ref B) "__getattribute__" = some (some (.builtin "type.__getattribute__"))
  fi : PySem.W.findCls K (.ref B) (.type "type") "__init__" = some (.val (.builtin "ValueError.__init__"))
/-- a class whose errors keep "at" -/
structure ErrC (K : PySem.W.Frag) (mg : Str → Option Value) (x qual : Str) (st : Stmt) (C f : Addr) (fd : FuncData) : Prop where
  g : mg x = some (.ref C)
  T : OexC K C
  X : XfC K C
  no : PySem.W.findIn K (.ref C) "at" = some none
  iC : PySem.W.findIn K (.ref C) "__init__" = some (some (.ref f))
  tI : PySem.W.typeIn K (.ref f) = some (.type "function")
  F : Fun K "__init__" qual st f fd
  b : Binds K fd ["self", "at"] []
  ex : PySem.W.exmOne K (.ref C) (.ref C) = some true
def spInit (C : Addr) : Sp := fun vs H Q _ => ∃ (a : Addr) (y : V), vs = [.ref a, y] ∧ H a = some (exo a C none) ∧
  ∀ dx, H dx = none → dx ≠ a → Q .non (upd (upd H dx (exd dx [("at", y)])) a (exo a C (some dx)))
theorem made {C a : Addr} {y : V} {H : Hp} {R : List (Str × V) → Addr → Hp → Prop} {E : XK} (na : H a = none)
    (q : ∀ (d : Addr) (H' : Hp), Same H H' → H d = none → H' d = some (.xd [("at", y)]) → R [("at", y)] d H') :
    spInit C [.ref a, y] (upd H a (exo a C none)) (fun v H2 => v = .non ∧ ∃ (d : Addr) (fs : List (Str × V)),
      H2 a = some (exo a C (some d)) ∧ H2 d = some (exd d fs) ∧ H d = none ∧ R fs d (upd (L2.del H2 a) d (.xd fs))) E := by
  refine ⟨a, y, rfl, upd_same, fun dx ndx ne => ⟨rfl, dx, [("at", y)], upd_same, by rw [upd_ne ne, upd_same], ?_, ?_⟩⟩
  · rw [upd_ne ne] at ndx
    exact ndx
  · rw [upd_ne ne] at ndx
    apply q dx _ ?_ ndx upd_same
    intro b o e
    have n1 : b ≠ dx := ne_of_none e ndx
    have n2 : b ≠ a := ne_of_none e na
    rw [upd_ne n1, L2.del_ne n2, upd_ne n2, upd_ne n1, upd_ne n2]
    exact e
/-- raise C(e) -/
def tRaiseO (E : XK) (C : Addr) (ta : TA) : TS := fun _ σ H => tMkO C (spInit C) [] ta σ H fun cls d H' => E cls d H'
theorem zps_raise {X : Cx} {st : Stmt} {E : XK} {C : Addr} {ta : TA} (h : PS X st (fun _ σ H => tMkO C (spInit C) [] ta σ H fun cls d H' => (fun cls d (_ : L2.St) H => E cls d H) cls d σ H')) : PS X st (tRaiseO E C ta) := h
def wRaise (Ex : XD → Prop) (C : Addr) (we : WE) : WS := fun _ S => we S fun r S1 => asD r S1 fun d _ => Ex (.at C d)
section
variable {K : PySem.W.Frag} {TB : List Addr} {E : XK} {Ex : XD → Prop} {te : TE} {we : WE} {C : Addr}
theorem stp_same {ρ : List Addr} {T H H' : Hp} (s : Same H H') : Stp ρ T H ρ T H' := ⟨⟨[], by rw [List.append_nil], fun _ h => absurd h List.not_mem_nil⟩, .refl T, fun _ h => .inl h, fun _ _ _ h => s _ _ h, fun _ _ _ h => s _ _ h⟩
instance [hE : DEc K TB E Ex te we] : DSc K TB E Ex (tRaiseO E C (tCons te tNil)) (wRaise Ex C we) where
  run := fun ρ0 T0 H0 Tb S σ H ρ T D W w s tb rx h d => by
    refine hE.run S σ H ρ T _ _ w (rx.go s w.lv) h fun r S1 H1 ρ1 T1 v w1 s1 r1 h1 => ?_
    obtain ⟨y, S2, T2, w2, f2, d2, h2, _⟩ := asD_run w1 r1 h1
    refine ⟨(show (1 : Nat) ≤ 1000 by decide), fun a na => ?_⟩
    have s2 := s.trans (s1.fz f2) w.lv
    refine made na fun dx H' sm n0 e' => ?_
    have lv : ∀ a ∈ ρ1, H' a ≠ none := fun a ha z => by
      cases q : H1 a with
      | none => exact w2.lv a ha q
      | some o => rw [sm _ _ q] at z; cases z
    exact (rx.go s2 w2.lv).field C y H' ρ1 T2 dx v (stp_same sm) lv (w2.wm.sT.trans sm) n0 e' d2 h2
end
section
variable {P : Program} {w : World} {K : PySem.W.Frag} {TB : List Addr} {mg : Str → Option Value} {base : Heap}
/-- a def that may raise, by its body -/
theorem fnDX {x qual : Str} {st : Stmt} {f : Addr} {fd : FuncData} {N ps : List Str} {k : Nat} {B : List CD} {psp : PSp} (F : Fun K x qual st f fd) (S : FnScope N ps (defScope st)) (hB : B.all (okC B.length) = true)
    (body : ∀ (cdv : Value) (A : Around) (outer : List Env) (s : Shared) (H : Hp) (E : XK), Room k (A.deeper (envOfC qual (defScope st) s.heap.objs.size f cdv)) →
      ∃ (t : TS) (w' : (XD → Prop) → WS), PSs (cxOf (L2.CX P w) P w K mg base N qual (defScope st) f cdv A outer s H E) (defBody st) t ∧ (∀ Ex, DSc K TB E Ex t (w' Ex)) ∧ ∀ as k Ex, psp as k Ex → as.length = ps.length → w' Ex (WDof B k) ⟨ent N.length as, B⟩) :
    FnOk P w K mg base (L2.CX P w) (k + 1) f fd ps (toSp K TB B ps.length psp) :=
  F.okX S (fun vs H Q E h => toSp_len vs H Q E h) fun cdv A outer s H vs Q E hr h => by
    obtain ⟨t, w', ht, hd, hw⟩ := body cdv A outer s H E hr
    exact ⟨t, ht, body_run hB h fun as k Ex hp hl => ⟨Ex, _, hd Ex, id, hw as k Ex hp hl⟩⟩
/-- .. whose code object is known -/
theorem fnDXC {x qual : Str} {st : Stmt} {f c : Addr} {fd : FuncData} {N ps : List Str} {k : Nat} {B : List CD} {psp : PSp} (F : Fun K x qual st f fd) (hc : fd.code = .ref c) (S : FnScope N ps (defScope st)) (hB : B.all (okC B.length) = true)
    (body : ∀ (A : Around) (outer : List Env) (s : Shared) (H : Hp) (E : XK), Room k (A.deeper (envOfC qual (defScope st) s.heap.objs.size f (.ref c))) →
      ∃ (t : TS) (w' : (XD → Prop) → WS), PSs (cxOf (L2.CX P w) P w K mg base N qual (defScope st) f (.ref c) A outer s H E) (defBody st) t ∧ (∀ Ex, DSc K TB E Ex t (w' Ex)) ∧ ∀ as k Ex, psp as k Ex → as.length = ps.length → w' Ex (WDof B k) ⟨ent N.length as, B⟩) :
    FnOk P w K mg base (L2.CX P w) (k + 1) f fd ps (toSp K TB B ps.length psp) := by
  obtain ⟨oc, od, kV, doc, pm, an, cdv, ct, osl, rfl, lk, hcd⟩ := F.ex
  have e : cdv = .ref c := hc
  subst e
  refine fn_of lk hcd S (fun vs H Q E h => toSp_len vs H Q E h) fun A outer s H vs Q E hr h => ?_
  obtain ⟨t, w', ht, hd, hw⟩ := body A outer s H E hr
  exact ⟨t, ht, body_run (E' := E) hB h fun as k Ex hp hl => ⟨Ex, _, hd Ex, id, hw as k Ex hp hl⟩⟩
end
end Zd
end

section
set_option maxHeartbeats 1000000
/-! Lists whose items are things of one's own. -/
namespace Zd
open PySem PySem.Spec PyProof.Rows L2 Zc
/-- [..] whose items are kept as they are -/
def tLcA (wi : TI) (g : TG) (tt : TT) (te : TE) (vs : List Nat) : TE := tLc wi g tt te vs
theorem zlcA {X : Cx} {wi : TI} {g : TG} {tt : TT} {te : TE} {own : List (Str × Nat)} {e : Expr} (vs : List Nat) (h : PE X e (tLc wi g tt te (own.map (·.2)))) (hv : own.map (·.2) = vs := by rfl) : PE X e (tLcA wi g tt te vs) := hv ▸ h
theorem zslcA {X : Cx} {wi : TI} {g : TG} {tt : TT} {te : TE} {own : List (Str × Nat)} {i : Nat} {st : Stmt} (vs : List Nat) (h : PS X st (tAsg (tLc wi g tt te (own.map (·.2))) (gName i))) (hv : own.map (·.2) = vs := by rfl) : PS X st (tAsg (tLcA wi g tt te vs) (gName i)) := hv ▸ h
def ownA : RD → SS → (AD → SS → Prop) → Prop
  | .ad a, S, k => k a S
  | .new c, S, k => k (.loc S.m.length) ⟨S.s, S.m ++ [c]⟩
def wLcAL (wg : WG) (wt : WT) (we : WE) (vs : List Nat) (s0 : List AD) (k : RD → SS → Prop) : List PyData → List AD → List CD → Prop
  | [], acc, m => k (.new (.lsa acc)) ⟨s0, m⟩
  | x :: xs, acc, m => wg (.ad (.dat x)) ⟨unAll vs s0, m⟩ fun S1 => wt S1 fun b S2 => if b = true then we S2 fun r S3 => ownA r S3 fun a S4 => wLcAL wg wt we vs s0 k xs (acc ++ [a]) S4.m else wLcAL wg wt we vs s0 k xs acc S2.m
def wLcA (W : WI) (wg : WG) (wt : WT) (we : WE) (vs : List Nat) : WE := fun S k => W S fun ds S1 => ds.length < 1000000 ∧ wLcAL wg wt we vs S1.s k ds [] S1.m
section
variable {K : PySem.W.Frag} {TB : List Addr} {E : XK} {Ex : XD → Prop} {T T' T0 H H' H0 : Hp} {ρ ρ' ρ0 : List Addr} {S S' : SS} {σ : L2.St} {a b D : Addr} {v u : V} {r : RD} {n i j : Nat} {te : TE} {we : WE} {tt : TT} {wt : WT} {g : TG} {wg : WG} {wi : TI} {W : WI} {vs : List Nat} {o : HO} {as : List AD}
theorem ARs.snoc : ∀ {as : List AD} {vs : List V} {x : AD} {v : V}, ARs K T ρ as vs → AR K T ρ x v → ARs K T ρ (as ++ [x]) (vs ++ [v])
  | [], _, x, v, h, g => by cases (show _ = _ from h); exact ⟨v, [], rfl, g, rfl⟩
  | a :: as, _, x, v, ⟨u, us, e, h, r⟩, g => by subst e; exact ⟨u, us ++ [v], rfl, h, ARs.snoc r g⟩
theorem lsa_side (h : RR K T ρ H H0 (.new (.lsa as)) (.ref D)) : H0 D = none ∧ D ∉ ρ ∧ T D = none ∧ ∃ ys, H D = some (.lst ys) ∧ ARs K T ρ as ys := by
  obtain ⟨p, e, n0, n1, out, tp, ⟨ys, hp, hd⟩, ok⟩ := h
  cases e
  exact ⟨n0, out, tp, ys, hp, hd⟩
theorem lsa_new (w : Wd K TB S σ H ρ T) (np : H D = none) (b : ∀ b, H b = none → H0 b = none) :
    Wd K TB S σ (upd H D (.lst [])) ρ T ∧ Stp ρ T H ρ T (upd H D (.lst [])) ∧ RR K T ρ (upd H D (.lst [])) H0 (.new (.lsa [])) (.ref D) := by
  obtain ⟨c, s⟩ := w.by np (.lst [])
  exact ⟨c, s, D, rfl, b D np, by rw [upd_same]; exact (fun z => nomatch z), w.wm.out np, w.wm.sT.free np, ⟨[], upd_same, rfl⟩, rfl⟩
instance [hI : DIc K TB E Ex wi W] [hG : DGc K TB E Ex g wg] [hO : GOn vs g] [hT : DTc K TB E Ex tt wt] [hE : DEc K TB E Ex te we] : DEc K TB E Ex (tLcA wi g tt te vs) (wLcA W wg wt we vs) where
  run := fun S σ H0 ρ0 T0 Q k w rx h q => hI.run S σ H0 ρ0 T0 _ _ w rx h fun ds S1 H1 ρ1 T1 J w1 s1 G h1 => by
    intro D nD
    obtain ⟨hz, h1⟩ := h1
    have old1 : H0 D = none := s1.ne w1.lv nD
    obtain ⟨w1', s1', r1'⟩ := lsa_new (H0 := H0) w1 nD (fun b z => s1.ne w1.lv z)
    refine ⟨fun i m H => m = ds.length - i ∧ i ≤ ds.length ∧ ∃ acc mm ρ T, Wd K TB ⟨S1.s, mm⟩ σ H ρ T ∧ Stp ρ0 T0 H0 ρ T H ∧ (∀ (k : Nat) (a : Addr), ρ1[k]? = some a → ρ[k]? = some a) ∧ Same T1 T ∧ RR K T ρ H H0 (.new (.lsa acc)) (.ref D) ∧ acc.length ≤ i ∧ wLcAL wg wt we vs S1.s k (ds.drop i) acc mm,
      ⟨_, rfl, Nat.zero_le _, [], S1.m, ρ1, T1, w1', s1.trans s1' w1.lv, fun _ _ z => z, .refl T1, r1', Nat.le_refl _, h1⟩, ?_⟩
    rintro i m H ⟨rfl, hi, acc, mm, ρ, T, w, s, up, tt1, rD, la, h⟩
    have ntb : D ∉ TB := fun z => by
      have := (w1.wm.tb D z).1
      rw [nD] at this
      cases this
    by_cases hlt : i < ds.length
    · refine .inr ⟨G.go i H hlt (tt1.trans w.wm.sT), fun H' => ∃ acc mm ρ T, Wd K TB ⟨S1.s, mm⟩ σ H' ρ T ∧ Stp ρ0 T0 H0 ρ T H' ∧ (∀ (k : Nat) (a : Addr), ρ1[k]? = some a → ρ[k]? = some a) ∧ Same T1 T ∧ RR K T ρ H' H0 (.new (.lsa acc)) (.ref D) ∧ acc.length ≤ i + 1 ∧ wLcAL wg wt we vs S1.s k (ds.drop (i + 1)) acc mm, fun H' z => ⟨_, by omega, rfl, hlt, z⟩, fun v H2 y => ?_⟩
      obtain ⟨x, T2, hx, w2, s2, s2', d2⟩ := G.item w s tt1 hlt y
      rw [List.drop_eq_getElem_cons hlt] at h
      rw [List.getElem?_eq_getElem hlt] at hx
      cases hx
      have tt2 := tt1.trans s2'.tt
      have rD2 := rD.go s2'
      have wv : Wd K TB ⟨unAll vs S1.s, mm⟩ (wipe σ vs) H2 ρ T2 := w2.slots w2.sl.wipe
      have rx2 : Rx K E Ex ρ T2 H2 := rx.go s2 w2.lv
      have all := hO.run v (wipe σ vs) H2 _ (hG.run ρ T2 H2 ⟨unAll vs S1.s, mm⟩ (wipe σ vs) H2 ρ T2 (.ad (.dat ds[i])) v (fun σ' H' => tt σ' H' fun b H3 => if b = true then te σ' H3 fun y H4 => ∃ acc, H4 D = some (.lst acc) ∧ acc.length < sizeLine ∧ (fun H' => ∃ acc mm ρ T, Wd K TB ⟨S1.s, mm⟩ σ H' ρ T ∧ Stp ρ0 T0 H0 ρ T H' ∧ (∀ (k : Nat) (a : Addr), ρ1[k]? = some a → ρ[k]? = some a) ∧ Same T1 T ∧ RR K T ρ H' H0 (.new (.lsa acc)) (.ref D) ∧ acc.length ≤ i + 1 ∧ wLcAL wg wt we vs S1.s k (ds.drop (i + 1)) acc mm) (upd H4 D (.lst (acc ++ [y]))) else (fun H' => ∃ acc mm ρ T, Wd K TB ⟨S1.s, mm⟩ σ H' ρ T ∧ Stp ρ0 T0 H0 ρ T H' ∧ (∀ (k : Nat) (a : Addr), ρ1[k]? = some a → ρ[k]? = some a) ∧ Same T1 T ∧ RR K T ρ H' H0 (.new (.lsa acc)) (.ref D) ∧ acc.length ≤ i + 1 ∧ wLcAL wg wt we vs S1.s k (ds.drop (i + 1)) acc mm) H3) _ wv .refl rx2 d2 h ?_)
      · rw [wipe_wipe] at all
        exact all
      intro S3 σ3 H3 ρ3 T3 w3 s3 t3 h3
      have rx3 := rx2.go s3 w3.lv
      have rD3 := rD2.go s3
      refine hT.run S3 σ3 H3 ρ3 T3 _ _ w3 rx3 h3 fun b S4 H4 ρ4 T4 w4 s4 h4 => ?_
      have s04 : Stp ρ0 T0 H0 ρ4 T4 H4 := (s2.trans s3 w2.lv).trans s4 w3.lv
      have tt4 : Same T1 T4 := tt2.trans (s3.tt.trans s4.tt)
      have rD4 := rD3.go s4
      have up4 : ∀ (k : Nat) (a : Addr), ρ1[k]? = some a → ρ4[k]? = some a := fun k a z => s4.at (s3.at (s2'.at (up k a z)))
      have base : ∀ {mm ρ T H}, Wm K TB mm H ρ T → (∀ (k : Nat) (a : Addr), ρ1[k]? = some a → ρ[k]? = some a) → Same T1 T → Wd K TB ⟨S1.s, mm⟩ σ H ρ T := fun wm up tt => ⟨w1.sl.go tt up, wm⟩
      cases b with
      | false =>
        rw [if_neg Bool.false_ne_true] at h4 ⊢
        exact ⟨acc, S4.m, ρ4, T4, base w4.wm up4 tt4, s04, up4, tt4, rD4, by omega, h4⟩
      | true =>
        rw [if_pos rfl] at h4 ⊢
        refine hE.run S4 σ3 H4 ρ4 T4 _ _ w4 (rx3.go s4 w4.lv) h4 fun r S5 H5 ρ5 T5 y w5 s5 r5 h5 => ?_
        obtain ⟨_, _, _, y4, hD4, _⟩ := lsa_side rD4
        obtain ⟨n0, out5, tD5, ys, hD, hd⟩ := lsa_side (rD4.go s5)
        have up5 : ∀ (k : Nat) (a : Addr), ρ1[k]? = some a → ρ5[k]? = some a := fun k a z => s5.at (up4 k a z)
        have tt5 : Same T1 T5 := tt4.trans s5.tt
        have s05 : Stp ρ0 T0 H0 ρ5 T5 H5 := s04.trans s5 w4.lv
        have fin : ∀ {x : AD} {m6 : List CD} {ρ6 : List Addr}, Wm K TB m6 H5 ρ6 T5 → (∀ (k : Nat) (a : Addr), ρ5[k]? = some a → ρ6[k]? = some a) → Stp ρ0 T0 H0 ρ6 T5 H5 → D ∉ ρ6 → AR K T5 ρ6 x y → wLcAL wg wt we vs S1.s k (ds.drop (i + 1)) (acc ++ [x]) m6 →
            ∃ acc, H5 D = some (.lst acc) ∧ acc.length < sizeLine ∧ ∃ acc' mm ρ T, Wd K TB ⟨S1.s, mm⟩ σ (upd H5 D (.lst (acc ++ [y]))) ρ T ∧ Stp ρ0 T0 H0 ρ T (upd H5 D (.lst (acc ++ [y]))) ∧ (∀ (k : Nat) (a : Addr), ρ1[k]? = some a → ρ[k]? = some a) ∧ Same T1 T ∧ RR K T ρ (upd H5 D (.lst (acc ++ [y]))) H0 (.new (.lsa acc')) (.ref D) ∧ acc'.length ≤ i + 1 ∧ wLcAL wg wt we vs S1.s k (ds.drop (i + 1)) acc' mm := by
          intro x m6 ρ6 wm6 up6 s06 out6 hx h6
          refine ⟨ys, hD, by rw [hd.len]; exact size_lt (by omega), acc ++ [x], m6, ρ6, T5, base (wm6.side out6 tD5 ntb (fun b c q z => by
            have n1 : b ≠ D := fun y => by rw [y, hD] at z; unfold LamX.CodeO at z; cases z
            rw [upd_ne n1]; exact z)) (fun k a z => up6 k a (up5 k a z)) tt5, s06.side n0, fun k a z => up6 k a (up5 k a z), tt5, ?_, by rw [List.length_append, List.length_singleton]; omega, h6⟩
          exact ⟨D, rfl, n0, by rw [upd_same]; exact (fun z => nomatch z), out6, tD5, ⟨ys ++ [y], upd_same, (hd.go (.refl T5) up6).snoc hx⟩, rfl⟩
        cases r with
        | ad x => exact fin w5.wm (fun _ _ z => z) s05 out5 r5 h5
        | new c =>
          obtain ⟨p, rfl, w6, s6, r6, up6⟩ := new_cell w5 s05 (r5.older fun b z => s04.ne w4.lv z)
          refine fin w6.wm up6 s6 (fun z => ?_) r6 h5
          rcases List.mem_append.mp z with z | z
          · exact out5 z
          · obtain ⟨p', e, n4, _⟩ := r5
            cases e
            rw [List.mem_singleton.mp z] at hD4
            rw [hD4] at n4
            cases n4
    · have ei : i = ds.length := by omega
      subst ei
      rw [List.drop_length] at h
      exact .inl ⟨G.stop H (tt1.trans w.wm.sT), q _ _ _ _ _ _ w s rD h⟩
end
end Zd
end

section
set_option maxHeartbeats 1000000
/-! Rows of one's own. -/
namespace Zd
open PySem PySem.Spec PyProof.Rows L2 Zc
/-- xs[i], the thing itself -/
def tIxA (K : PySem.W.Frag) (to ti : TE) : TE := tOp (rIx K) to ti
theorem zixA {X : Cx} {e : Expr} {K : PySem.W.Frag} {to ti : TE} (h : PE X e (tOp (rIx K) to ti)) : PE X e (tIxA K to ti) := h
def wIxA (wo wi : WE) : WE := fun S k => wo S fun x S1 => wi S1 fun y S2 => match x with
  | .ad (.loc j) => (match S2.m[j]? with
    | some (.lsa as) => asI y fun i => ∃ n a, ixN as.length i = some n ∧ as[n]? = some a ∧ k (.ad a) S2
    | some (.lst ds) => asI y fun i => ∃ n d, ixN ds.length i = some n ∧ ds[n]? = some d ∧ k (.ad (.dat d)) S2
    | _ => False)
  | _ => False
section
variable {K : PySem.W.Frag} {TB : List Addr} {E : XK} {Ex : XD → Prop} {T T' T0 H H' H0 : Hp} {ρ ρ' ρ0 : List Addr} {S S' : SS} {σ : L2.St} {a b D : Addr} {v u : V} {r : RD} {n i j : Nat} {to ti : TE} {wo wi : WE} {as : List AD} {ts : TS} {ws : WS}
theorem ARs.len' : ∀ {as : List AD} {vs : List V}, ARs K T ρ as vs → vs.length = as.length
  | [], _, h => by cases (show _ = _ from h); rfl
  | a :: as, _, ⟨v, us, e, h, r⟩ => by rw [e, List.length_cons, List.length_cons, ARs.len' r]
theorem ARs.at : ∀ {as : List AD} {vs : List V} {i : Nat} {x : AD}, ARs K T ρ as vs → as[i]? = some x → ∃ v, vs[i]? = some v ∧ AR K T ρ x v
  | [], _, i, x, h, e => by cases e
  | a :: as, _, 0, x, ⟨v, us, q, h, r⟩, e => by subst q; cases e; exact ⟨v, rfl, h⟩
  | a :: as, _, i + 1, x, ⟨v, us, q, h, r⟩, e => by subst q; exact ARs.at (i := i) r e
instance [hO : DEc K TB E Ex to wo] [hI : DEc K TB E Ex ti wi] : DEc K TB E Ex (tIxA K to ti) (wIxA wo wi) where
  run := fun S σ H ρ T Q k w rx h q => by
    refine hO.run S σ H ρ T _ _ w rx h fun x S1 H1 ρ1 T1 v w1 s1 r1 h1 => ?_
    refine hI.run S1 σ H1 ρ1 T1 _ _ w1 (rx.go s1 w1.lv) h1 fun y S2 H2 ρ2 T2 u w2 s2 r2 h2 => ?_
    have s12 := s1.trans s2 w1.lv
    have r1' := r1.go s2
    split at h2
    · rename_i j
      split at h2
      · rename_i as hj
        obtain ⟨i, rfl, n, x, hn, hx, hk⟩ := asI_run r2 h2
        obtain ⟨a, ea, rfl⟩ := r1'
        obtain ⟨a', ea', ys, ey, hy⟩ := w2.wm.cell hj
        rw [ea] at ea'
        cases ea'
        obtain ⟨v, ev, hv⟩ := hy.at hx
        refine .inl ⟨a, ys, i, v, rfl, rfl, .inl (.inl ey), ?_, q (.ad x) _ _ _ _ _ w2 s12 hv hk⟩
        unfold atI
        rw [hy.len', hn]
        exact ev
      · rename_i ds hj
        obtain ⟨i, rfl, n, d, hn, hx, hk⟩ := asI_run r2 h2
        obtain ⟨a, ea, rfl⟩ := r1'
        obtain ⟨ys, ey, hy⟩ := lst_cell w2 hj ea
        obtain ⟨v, ev, hv⟩ := hy.at hx
        refine .inl ⟨a, ys, i, v, rfl, rfl, .inl (.inl ey), ?_, q (.ad (.dat d)) _ _ _ _ _ w2 s12 hv hk⟩
        unfold atI
        rw [hy.len, hn]
        exact ev
      · exact h2.elim
    · exact h2.elim
/-- something is forgotten here -/
def tGhost (ts : TS) : TS := ts
theorem zghost {X : Cx} {b : List Stmt} {ts : TS} (h : PSs X b ts) : PSs X b (tGhost ts) := h
def wGhost (ws : WS) : WS := fun W S => ∃ S', Wk W.n S S' ∧ ws W S'
instance [h : DSc K TB E Ex ts ws] : DSc K TB E Ex (tGhost ts) (wGhost ws) where
  run := fun ρ0 T0 H0 Tb S σ H ρ T D W w s tb rx hh d => by
    obtain ⟨S', wk, hw⟩ := hh
    obtain ⟨ρ', T', w', s', tt⟩ := wk.run w s d.n
    exact h.run ρ0 T0 H0 Tb S' σ H ρ' T' D W w' s' (tb.trans tt) rx hw d
end
/-! ### rows -/
/-- the numbers of the rows' cells -/
def rowL (n L : Nat) : List AD := (List.range L).map fun i => .loc (n + i)
/-- the rows, then the list of them -/
def rowsM (m0 : List CD) (rows : List (List PyData)) : List CD := m0 ++ rows.map CD.lst ++ [.lsa (rowL m0.length rows.length)]
section
variable {m0 : List CD} {i : Nat} {r : List PyData} {s : List AD} {n : Nat}
theorem rowsM_out {rows : List (List PyData)} : (rowsM m0 rows)[m0.length + rows.length]? = some (.lsa (rowL m0.length rows.length)) := by
  unfold rowsM
  rw [List.getElem?_append_right (by simp), List.length_append, List.length_map, Nat.sub_self]
  rfl
theorem rowsM_row {rows : List (List PyData)} (h : rows[i]? = some r) : (rowsM m0 rows)[m0.length + i]? = some (.lst r) := by
  have hi := (List.getElem?_eq_some_iff.mp h).1
  unfold rowsM
  rw [List.getElem?_append_left (by simp; omega), List.getElem?_append_right (by omega), Nat.add_sub_cancel_left, List.getElem?_map, h]
  rfl
theorem rowsM_set {rows : List (List PyData)} (h : i < rows.length) : (rowsM m0 rows).set (m0.length + i) (.lst r) = rowsM m0 (rows.set i r) := by
  unfold rowsM
  rw [List.length_set, List.set_append_left _ _ (by simp; omega), List.set_append_right _ _ (by omega), Nat.add_sub_cancel_left, List.map_set]
theorem rowL_at {n L i : Nat} (h : i < L) : (rowL n L)[i]? = some (.loc (n + i)) := by
  unfold rowL
  rw [List.getElem?_map, List.getElem?_range h]
  rfl
theorem rowL_len {n L : Nat} : (rowL n L).length = L := by
  unfold rowL
  rw [List.length_map, List.length_range]
theorem rowL_tail {n L : Nat} : rowL n (L + 1) = .loc n :: rowL (n + 1) L := by
  unfold rowL
  rw [List.range_succ_eq_map, List.map_cons, List.map_map]
  congr 1
  refine List.map_congr_left fun i _ => ?_
  show AD.loc (n + (i + 1)) = AD.loc (n + 1 + i)
  rw [Nat.add_assoc, Nat.add_comm i 1]
/-- nothing but what is told stands for these rows -/
def clearA (n L : Nat) : AD → Bool
  | .loc j => decide (j < n) || decide (n + L ≤ j)
  | _ => true
theorem sub_clear {n L k : Nat} {d : PyData} {a : AD} (h : clearA n L a = true) (h1 : n ≤ k) (h2 : k < n + L) : sub k d a = a := by
  cases a with
  | loc j =>
    show (if j = k then AD.dat d else AD.loc j) = _
    rw [if_neg]
    have h' : (decide (j < n) || decide (n + L ≤ j)) = true := h
    rw [Bool.or_eq_true, decide_eq_true_iff, decide_eq_true_iff] at h'
    omega
  | _ => rfl
theorem okA_clear {n L : Nat} {a : AD} (h : okA n a = true) : clearA n L a = true := by
  cases a with
  | loc j =>
    show (decide (j < n) || _) = true
    rw [show decide (j < n) = true from h]
    rfl
  | _ => rfl
theorem subC_ok {n k : Nat} {d : PyData} {c : CD} (h : okC n c = true) (h1 : n ≤ k) : subC k d c = c := by
  have one : ∀ {a : AD}, okA n a = true → sub k d a = a := fun h => sub_clear (n := n) (L := k + 1) (okA_clear h) h1 (by omega)
  have all : ∀ {as : List AD}, as.all (okA n) = true → as.map (sub k d) = as := fun {as} h => by
    rw [List.all_eq_true] at h
    exact (List.map_congr_left fun a ha => one (h a ha)).trans (List.map_id' as)
  cases c with
  | lsa as => exact congrArg CD.lsa (all h)
  | ins C fs =>
    refine congrArg (CD.ins C) ((List.map_congr_left fun f hf => ?_).trans (List.map_id' fs))
    exact Prod.ext rfl (one (List.all_eq_true.mp h f hf))
  | dcK fs =>
    refine congrArg CD.dcK ((List.map_congr_left fun f hf => ?_).trans (List.map_id' fs))
    exact Prod.ext rfl (one (List.all_eq_true.mp h f hf))
  | dcT fs =>
    refine congrArg CD.dcT ((List.map_congr_left fun f hf => ?_).trans (List.map_id' fs))
    exact Prod.ext rfl (one (List.all_eq_true.mp h f hf))
  | _ => rfl
/-- the rows are frozen, one by one -/
theorem Wk.rowsF {n : Nat} {s : List AD} : ∀ (rows done : List (List PyData)) (p : List CD), n ≤ p.length → (∀ a ∈ s, clearA p.length rows.length a = true) → (∀ c ∈ p, ∀ k d, p.length ≤ k → k < p.length + rows.length → subC k d c = c) →
    Wk n ⟨s, p ++ rows.map CD.lst ++ [.lsa (done.map (fun r => AD.dat (.list r)) ++ rowL p.length rows.length)]⟩ ⟨s, p ++ List.replicate rows.length .gone ++ [.lsa ((done ++ rows).map fun r => AD.dat (.list r))]⟩
  | [], done, p, _, _, _ => by
    have e0 : done.map (fun r => AD.dat (.list r)) ++ rowL p.length ([] : List (List PyData)).length = (done ++ []).map fun r => AD.dat (.list r) := by
      rw [List.append_nil]
      exact List.append_nil _
    rw [e0]
    exact .refl _
  | r :: rows, done, p, hn, hs, hp => by
    have hj : (p ++ (r :: rows).map CD.lst ++ [CD.lsa (done.map (fun r => AD.dat (.list r)) ++ rowL p.length (r :: rows).length)])[p.length]? = some (.lst r) := by
      rw [List.append_assoc, List.getElem?_append_right (Nat.le_refl _), Nat.sub_self]
      rfl
    refine .trans (.frz p.length r _ hn hj) ?_
    have e : SS.frz ⟨s, p ++ (r :: rows).map CD.lst ++ [CD.lsa (done.map (fun r => AD.dat (.list r)) ++ rowL p.length (r :: rows).length)]⟩ p.length r =
        ⟨s, (p ++ [.gone]) ++ rows.map CD.lst ++ [.lsa ((done ++ [r]).map (fun r => AD.dat (.list r)) ++ rowL (p ++ [CD.gone]).length rows.length)]⟩ := by
      unfold SS.frz
      congr 1
      · refine (List.map_congr_left fun a ha => ?_).trans (List.map_id' s)
        exact sub_clear (hs a ha) (Nat.le_refl _) (by rw [List.length_cons]; omega)
      · rw [List.map_append, List.map_append]
        have e1 : p.map (subC p.length (.list r)) = p := (List.map_congr_left fun c hc => hp c hc p.length _ (Nat.le_refl _) (by rw [List.length_cons]; omega)).trans (List.map_id' p)
        have e2 : ((r :: rows).map CD.lst).map (subC p.length (.list r)) = (r :: rows).map CD.lst := by
          rw [List.map_map]
          rfl
        have e3 : (done.map (fun r => AD.dat (.list r)) ++ rowL p.length (r :: rows).length).map (sub p.length (.list r)) = (done ++ [r]).map (fun r => AD.dat (.list r)) ++ rowL (p ++ [CD.gone]).length rows.length := by
          have e4 : (rowL (p.length + 1) rows.length).map (sub p.length (.list r)) = rowL (p.length + 1) rows.length := by
            refine (List.map_congr_left fun a ha => ?_).trans (List.map_id' _)
            obtain ⟨i, hi, rfl⟩ := List.mem_map.mp ha
            show (if p.length + 1 + i = p.length then _ else _) = _
            rw [if_neg (by omega)]
          have e5 : sub p.length (.list r) (.loc p.length) = .dat (.list r) := if_pos rfl
          rw [List.length_cons, rowL_tail, List.map_append, List.map_cons, e4, e5, List.map_map, List.length_append, List.length_singleton, List.map_append, List.append_assoc]
          rfl
        have e6 : [CD.lsa (done.map (fun r => AD.dat (.list r)) ++ rowL p.length (r :: rows).length)].map (subC p.length (.list r)) = [CD.lsa ((done ++ [r]).map (fun r => AD.dat (.list r)) ++ rowL (p ++ [CD.gone]).length rows.length)] := by
          rw [← e3]
          rfl
        rw [e1, e2, e6, List.map_cons, List.append_assoc, List.set_append_right _ _ (Nat.le_refl _), Nat.sub_self, List.append_assoc, List.append_assoc]
        rfl
    rw [e]
    have ih := Wk.rowsF (n := n) (s := s) rows (done ++ [r]) (p ++ [.gone]) (by rw [List.length_append]; omega) (fun a ha => ?_) (fun c hc k d h1 h2 => ?_)
    · refine .trans ih ?_
      have e2 : (p ++ [CD.gone]) ++ List.replicate rows.length CD.gone = p ++ List.replicate (r :: rows).length CD.gone := by
        rw [List.append_assoc]
        rfl
      rw [e2, List.append_assoc done]
      exact .refl _
    · have := hs a ha
      cases a with
      | loc j =>
        have h' : (decide (j < p.length) || decide (p.length + (rows.length + 1) ≤ j)) = true := this
        rw [Bool.or_eq_true, decide_eq_true_iff, decide_eq_true_iff] at h'
        show (decide (j < (p ++ [CD.gone]).length) || decide ((p ++ [CD.gone]).length + rows.length ≤ j)) = true
        rw [Bool.or_eq_true, decide_eq_true_iff, decide_eq_true_iff, List.length_append, List.length_singleton]
        omega
      | _ => rfl
    · rw [List.length_append, List.length_singleton] at h1 h2
      rcases List.mem_append.mp hc with hc | hc
      · exact hp c hc k d (by omega) (by rw [List.length_cons]; omega)
      · rw [List.mem_singleton.mp hc]
        rfl
/-- all rows stand from now on -/
theorem Wk.rows {n : Nat} {rows : List (List PyData)} (hn : n ≤ m0.length) (hs : s.all (clearA m0.length rows.length) = true) (hm : m0.all (okC m0.length) = true) : Wk n ⟨s, rowsM m0 rows⟩ ⟨s, m0 ++ List.replicate rows.length .gone ++ [.lst (rows.map PyData.list)]⟩ := by
  rw [List.all_eq_true] at hs hm
  have h := Wk.rowsF (n := n) (s := s) rows [] m0 hn hs fun c hc k d h1 _ => subC_ok (hm c hc) h1
  refine .trans h ?_
  have e : ([] ++ rows).map (fun r => AD.dat (.list r)) = (rows.map PyData.list).map AD.dat := by rw [List.map_map]; rfl
  rw [e]
  have hj : (m0 ++ List.replicate rows.length CD.gone ++ [CD.lsa ((rows.map PyData.list).map AD.dat)])[m0.length + rows.length]? = some (.lsa ((rows.map PyData.list).map AD.dat)) := by
    rw [List.getElem?_append_right (by simp), List.length_append, List.length_replicate, Nat.sub_self]
    rfl
  have := Wk.lsD (n0 := n) (m0.length + rows.length) _ ⟨s, m0 ++ List.replicate rows.length CD.gone ++ [CD.lsa ((rows.map PyData.list).map AD.dat)]⟩ (by omega) hj
  rw [List.set_append_right _ _ (by simp), List.length_append, List.length_replicate, Nat.sub_self] at this
  exact this
/-- [[..] for x in all] -/
theorem lcA_rows {α : Type} {wg : WG} {we : WE} {vs : List Nat} {s0 : List AD} {k : RD → SS → Prop} (enc : α → PyData) (f : α → List PyData) (n0 : Nat) :
    ∀ (all : List α) (acc : List AD) (m : List CD), (∀ x ∈ all, ∀ (m : List CD) (N : RD → SS → Prop), (∀ s', N (.new (.lst (f x))) ⟨s', m⟩) → wg (.ad (.dat (enc x))) ⟨unAll vs s0, m⟩ fun S1 => we S1 N) →
      k (.new (.lsa (acc ++ rowL m.length all.length))) ⟨s0, m ++ all.map fun x => .lst (f x)⟩ → wLcAL wg (fun S k => k true S) we vs s0 k (all.map enc) acc m
  | [], acc, m, _, h => by
    rw [List.map_nil, List.append_nil] at h
    have e : acc ++ rowL m.length 0 = acc := List.append_nil acc
    rw [List.length_nil, e] at h
    exact h
  | x :: xs, acc, m, turn, h => by
    show wg (.ad (.dat (enc x))) ⟨unAll vs s0, m⟩ fun S1 => if true = true then we S1 fun r S3 => ownA r S3 fun a S4 => wLcAL wg (fun S k => k true S) we vs s0 k (xs.map enc) (acc ++ [a]) S4.m else _
    simp only [if_true]
    refine turn x List.mem_cons_self m _ fun s' => ?_
    show wLcAL wg (fun S k => k true S) we vs s0 k (xs.map enc) (acc ++ [.loc m.length]) (m ++ [.lst (f x)])
    refine lcA_rows enc f n0 xs _ _ (fun y hy => turn y (List.mem_cons_of_mem _ hy)) ?_
    rw [List.length_append, List.length_singleton, List.append_assoc, List.append_assoc]
    rw [List.length_cons, rowL_tail] at h
    exact h
end
end Zd
end

section
set_option maxHeartbeats 1000000
/-! Dicts by numbers and texts; stars in displays. -/
namespace Zd
open PySem PySem.Spec PyProof.Rows L2 Zc
def getA (kvs : List (Key × AD)) (k : Key) : Option AD := (kvs.find? fun kv => decide (kv.1 = k)).map (·.2)
def putA (kvs : List (Key × AD)) (k : Key) (v : AD) : List (Key × AD) :=
  if (kvs.any fun kv => decide (kv.1 = k)) = true then kvs.map (fun kv => if kv.1 = k then (kv.1, v) else kv) else kvs ++ [(k, v)]
/-- as a key -/
def asKey (r : RD) (k : Key → Prop) : Prop := match r with
  | .ad (.dat (.int i)) => k (.inl i)
  | .ad (.dat (.str z)) => k (.inr z)
  | _ => False
section
variable {K : PySem.W.Frag} {TB : List Addr} {E : XK} {Ex : XD → Prop} {T T' T0 H H' H0 : Hp} {ρ ρ' ρ0 : List Addr} {S S' : SS} {σ : L2.St} {a b D : Addr} {v u : V} {x : AD} {r : RD} {n i j : Nat} {te ty td tv tk : TE} {we wy wd wv wk : WE} {t : TA} {w : WA}
theorem asKey_run {k : Key → Prop} (hr : RR K T ρ H H0 r v) (h : asKey r k) : ∃ key, v = kV key ∧ k key := by
  unfold asKey at h
  split at h
  · exact ⟨.inl _, hr, h⟩
  · exact ⟨.inr _, hr, h⟩
  · exact h.elim
theorem KRs.len : ∀ {as : List (Key × AD)} {vs : List (Key × V)}, KRs K T ρ as vs → vs.length = as.length
  | [], _, h => by cases (show _ = _ from h); rfl
  | a :: as, _, ⟨v, us, e, h, r⟩ => by rw [e, List.length_cons, List.length_cons, KRs.len r]
theorem getA_pos {p : Key × AD} {r : List (Key × AD)} {k : Key} (e : p.1 = k) : getA (p :: r) k = some p.2 := by simp [getA, List.find?_cons, e]
theorem getA_neg {p : Key × AD} {r : List (Key × AD)} {k : Key} (e : ¬ p.1 = k) : getA (p :: r) k = getA r k := by simp [getA, List.find?_cons, e]
theorem KRs.get (k : Key) : ∀ {as : List (Key × AD)} {vs : List (Key × V)}, KRs K T ρ as vs → (getA as k = none ∧ valV vs k = none) ∨ ∃ x v, getA as k = some x ∧ valV vs k = some v ∧ AR K T ρ x v
  | [], _, h => by cases (show _ = _ from h); exact .inl ⟨rfl, rfl⟩
  | a :: as, _, ⟨v, us, e, h, r⟩ => by
    subst e
    by_cases q : a.1 = k
    · exact .inr ⟨a.2, v, getA_pos q, valV_pos q, h⟩
    · rw [getA_neg q, valV_neg (p := (a.1, v)) q]
      exact KRs.get k r
theorem KRs.any (k : Key) : ∀ {as : List (Key × AD)} {vs : List (Key × V)}, KRs K T ρ as vs → (vs.any fun kv => decide (kv.1 = k)) = as.any fun kv => decide (kv.1 = k)
  | [], _, h => by cases (show _ = _ from h); rfl
  | a :: as, _, ⟨v, us, e, h, r⟩ => by subst e; rw [List.any_cons, List.any_cons, KRs.any k r]
theorem KRs.map (k : Key) (hx : AR K T ρ x v) : ∀ {as : List (Key × AD)} {vs : List (Key × V)}, KRs K T ρ as vs → KRs K T ρ (as.map fun kv => if kv.1 = k then (kv.1, x) else kv) (vs.map fun kv => if kv.1 = k then (kv.1, v) else kv)
  | [], _, h => by cases (show _ = _ from h); rfl
  | a :: as, _, ⟨u, us, e, h, r⟩ => by
    subst e
    rw [List.map_cons, List.map_cons]
    by_cases q : a.1 = k
    · rw [if_pos q, if_pos q]
      exact ⟨v, _, rfl, hx, KRs.map k hx r⟩
    · rw [if_neg q, if_neg q]
      exact ⟨u, _, rfl, h, KRs.map k hx r⟩
theorem KRs.snoc (k : Key) (hx : AR K T ρ x v) : ∀ {as : List (Key × AD)} {vs : List (Key × V)}, KRs K T ρ as vs → KRs K T ρ (as ++ [(k, x)]) (vs ++ [(k, v)])
  | [], _, h => by cases (show _ = _ from h); exact ⟨v, [], rfl, hx, rfl⟩
  | a :: as, _, ⟨u, us, e, h, r⟩ => by subst e; exact ⟨u, us ++ [(k, v)], rfl, h, KRs.snoc k hx r⟩
theorem KRs.put (k : Key) (hx : AR K T ρ x v) {as : List (Key × AD)} {vs : List (Key × V)} (h : KRs K T ρ as vs) : KRs K T ρ (putA as k x) (putK vs k v) := by
  unfold putA putK
  rw [h.any k]
  split
  · exact h.map k hx
  · exact h.snoc k hx
theorem dck_cell (w : Wd K TB S σ H ρ T) {j : Nat} {kvs : List (Key × AD)} (hj : S.m[j]? = some (.dcK kvs)) (ea : ρ[j]? = some a) : ∃ ks, H a = some (.dK ks) ∧ KRs K T ρ kvs ks := by
  obtain ⟨a', ea', ys, ey, hy⟩ := w.wm.cell hj
  rw [ea] at ea'
  cases ea'
  exact ⟨ys, ey, hy⟩
/-- a dict of one's own -/
def asDc (r : RD) (S : SS) (k : Nat → List (Key × AD) → Prop) : Prop := match r with
  | .ad (.loc j) => (match S.m[j]? with
    | some (.dcK kvs) => k j kvs
    | _ => False)
  | _ => False
theorem asDc_run (w : Wd K TB S σ H ρ T) {k : Nat → List (Key × AD) → Prop} (hr : RR K T ρ H H0 r v) (h : asDc r S k) : ∃ j kvs a ks, v = .ref a ∧ ρ[j]? = some a ∧ S.m[j]? = some (.dcK kvs) ∧ H a = some (.dK ks) ∧ KRs K T ρ kvs ks ∧ k j kvs := by
  unfold asDc at h
  split at h
  · rename_i j
    split at h
    · rename_i kvs hj
      obtain ⟨a, ea, rfl⟩ := hr
      obtain ⟨ks, e, hk⟩ := dck_cell w hj ea
      exact ⟨j, kvs, a, ks, rfl, ea, hj, e, hk, h⟩
    · exact h.elim
  · exact h.elim
/-- k in d, k not in d -/
def wDIn (neg : Bool) (wy wd : WE) : WE := fun S k => wy S fun y S1 => wd S1 fun x S2 => asKey y fun key => asDc x S2 fun _ kvs => k (.ad (.dat (.bool (if neg then !(getA kvs key).isSome else (getA kvs key).isSome)))) S2
instance [hY : DEc K TB E Ex ty wy] [hD : DEc K TB E Ex td wd] : DEc K TB E Ex (tDIn ty td) (wDIn false wy wd) where
  run := fun S σ H ρ T Q k w rx h q => by
    refine hY.run S σ H ρ T _ _ w rx h fun y S1 H1 ρ1 T1 u w1 s1 r1 h1 => ?_
    refine hD.run S1 σ H1 ρ1 T1 _ _ w1 (rx.go s1 w1.lv) h1 fun x S2 H2 ρ2 T2 v w2 s2 r2 h2 => ?_
    obtain ⟨key, rfl, h3⟩ := asKey_run r1 h2
    obtain ⟨j, kvs, a, ks, rfl, _, _, e, hk, h4⟩ := asDc_run w2 r2 h3
    refine ⟨a, valV ks key, rfl, .k e, ?_⟩
    have : (valV ks key).isSome = (getA kvs key).isSome := by
      rcases hk.get key with ⟨e1, e2⟩ | ⟨x, v, e1, e2, _⟩ <;> rw [e1, e2] <;> rfl
    rw [this]
    exact q (.ad (.dat (.bool _))) _ _ _ _ _ w2 (s1.trans s2 w1.lv) rfl h4
instance [hY : DEc K TB E Ex ty wy] [hD : DEc K TB E Ex td wd] : DEc K TB E Ex (tDNotIn ty td) (wDIn true wy wd) where
  run := fun S σ H ρ T Q k w rx h q => by
    refine hY.run S σ H ρ T _ _ w rx h fun y S1 H1 ρ1 T1 u w1 s1 r1 h1 => ?_
    refine hD.run S1 σ H1 ρ1 T1 _ _ w1 (rx.go s1 w1.lv) h1 fun x S2 H2 ρ2 T2 v w2 s2 r2 h2 => ?_
    obtain ⟨key, rfl, h3⟩ := asKey_run r1 h2
    obtain ⟨j, kvs, a, ks, rfl, _, _, e, hk, h4⟩ := asDc_run w2 r2 h3
    refine ⟨a, valV ks key, rfl, .k e, ?_⟩
    have : (valV ks key).isSome = (getA kvs key).isSome := by
      rcases hk.get key with ⟨e1, e2⟩ | ⟨x, v, e1, e2, _⟩ <;> rw [e1, e2] <;> rfl
    rw [this]
    exact q (.ad (.dat (.bool _))) _ _ _ _ _ w2 (s1.trans s2 w1.lv) rfl h4
/-- d[k] -/
def wDGet (wd wy : WE) : WE := fun S k => wd S fun x S1 => wy S1 fun y S2 => asKey y fun key => asDc x S2 fun _ kvs => ∃ z, getA kvs key = some z ∧ k (.ad z) S2
instance [hY : DEc K TB E Ex ty wy] [hD : DEc K TB E Ex td wd] : DEc K TB E Ex (tDGet td ty) (wDGet wd wy) where
  run := fun S σ H ρ T Q k w rx h q => by
    refine hD.run S σ H ρ T _ _ w rx h fun x S1 H1 ρ1 T1 v w1 s1 r1 h1 => ?_
    refine hY.run S1 σ H1 ρ1 T1 _ _ w1 (rx.go s1 w1.lv) h1 fun y S2 H2 ρ2 T2 u w2 s2 r2 h2 => ?_
    obtain ⟨key, rfl, h3⟩ := asKey_run r2 h2
    obtain ⟨j, kvs, a, ks, rfl, _, _, e, hk, z, hz, h4⟩ := asDc_run w2 (r1.go s2) h3
    rcases hk.get key with ⟨e1, e2⟩ | ⟨x, v, e1, e2, hx⟩
    · rw [hz] at e1; cases e1
    · rw [hz] at e1
      cases e1
      exact ⟨a, v, rfl, by rw [← e2]; exact .k e, q (.ad z) _ _ _ _ _ w2 (s1.trans s2 w1.lv) hx h4⟩
/-- d[k] = v -/
def wSetD : RD → RD → RD → SS → (SS → Prop) → Prop := fun x y r S k => asKey y fun key => ownA r S fun z S1 => asDc x S1 fun j kvs => kvs.length < 1000000 ∧ k ⟨S1.s, S1.m.set j (.dcK (putA kvs key z))⟩
instance : StL K TB rSetD wSetD where
  run := fun ρ0 T0 H0 S σ H ρ T x y r o i v Q k w s rx ry hr h q => by
    obtain ⟨key, rfl, h⟩ := asKey_run ry h
    have fin : ∀ {z : AD} {S1 : SS} {ρ1 : List Addr}, Wd K TB S1 σ H ρ1 T → Stp ρ0 T0 H0 ρ1 T H → AR K T ρ1 z v → RR K T ρ1 H H0 x o → (asDc x S1 fun j kvs => kvs.length < 1000000 ∧ k ⟨S1.s, S1.m.set j (.dcK (putA kvs key z))⟩) → rSetD o (kV key) v H Q := by
      intro z S1 ρ1 w1 s1 hz rx1 h1
      obtain ⟨j, kvs, a, ks, rfl, ea, hj, e, hk, hl, h4⟩ := asDc_run w1 rx1 h1
      refine ⟨a, _, rfl, .k e (by rw [hk.len]; exact size_lt hl), ?_⟩
      exact q ⟨S1.s, S1.m.set j (.dcK (putA kvs key z))⟩ _ ρ1 T ⟨w1.sl, w1.wm.write hj rfl (fun z => nomatch z) (fun l z => nomatch z) ea (by exact ⟨_, upd_same, hk.put key hz⟩)⟩ (s1.trans (.write (List.mem_of_getElem? ea) ((w1.wm.ce _ _ _ hj ea).nc rfl (fun z => nomatch z))) w1.lv) (.refl T) h4
    cases r with
    | ad z => exact fin w s hr rx h
    | new c =>
      obtain ⟨p, rfl, w2, s2, r2, up⟩ := new_cell w s hr
      refine fin w2 s2 r2 ?_ h
      cases x with
      | ad z => exact AR.go rx (.refl T) up
      | new c =>
        exact False.elim h
/-- {}, {k: v} -/
def wDNew : WE := fun S k => k (.new (.dcK [])) S
theorem dck_new {kvs : List (Key × AD)} {ks : List (Key × V)} (w : Wd K TB S σ H ρ T) (hk : KRs K T ρ kvs ks) (np : H a = none) (b : ∀ b, H b = none → H0 b = none) :
    Wd K TB S σ (upd H a (.dK ks)) ρ T ∧ Stp ρ T H ρ T (upd H a (.dK ks)) ∧ RR K T ρ (upd H a (.dK ks)) H0 (.new (.dcK kvs)) (.ref a) := by
  obtain ⟨c, s⟩ := w.by np (.dK ks)
  exact ⟨c, s, a, rfl, b a np, by rw [upd_same]; exact (fun z => nomatch z), w.wm.out np, w.wm.sT.free np, ⟨ks, upd_same, hk⟩, rfl⟩
instance : DEc K TB E Ex tDNewK wDNew where
  run := fun S σ H ρ T Q k w rx h q p np => by
    obtain ⟨w1, s1, r1⟩ := dck_new (kvs := []) (ks := []) w rfl np (fun b z => z)
    exact q _ _ _ _ _ _ w1 s1 r1 h
def asA (r : RD) (k : AD → Prop) : Prop := match r with
  | .ad a => k a
  | _ => False
theorem asA_run {k : AD → Prop} (hr : RR K T ρ H H0 r v) (h : asA r k) : ∃ x, r = .ad x ∧ AR K T ρ x v ∧ k x := by
  cases r with
  | ad x => exact ⟨x, rfl, hr, h⟩
  | new c => exact h.elim
def wDisp1 (wk wv : WE) : WE := fun S k => wk S fun x S1 => asKey x fun key => wv S1 fun y S2 => asA y fun z => k (.new (.dcK [(key, z)])) S2
instance [hK : DEc K TB E Ex tk wk] [hV : DEc K TB E Ex tv wv] : DEc K TB E Ex (tDisp [(tk, tv)]) (wDisp1 wk wv) where
  run := fun S σ H ρ T Q k w rx h q p np => by
    obtain ⟨w0, s0, r0⟩ := dck_new (H0 := H) (kvs := []) (ks := []) w rfl np (fun b z => z)
    refine hK.run S σ _ ρ T _ _ w0 (rx.go s0 w0.lv) h fun x S1 H1 ρ1 T1 u w1 s1 r1 h1 => ?_
    obtain ⟨key, rfl, h1⟩ := asKey_run r1 h1
    have s01 := s0.trans s1 w0.lv
    refine hV.run S1 σ H1 ρ1 T1 _ _ w1 (rx.go s01 w1.lv) h1 fun y S2 H2 ρ2 T2 v w2 s2 r2 h2 => ?_
    obtain ⟨z, rfl, hz, h2⟩ := asA_run r2 h2
    have s02 := s01.trans s2 w1.lv
    obtain ⟨p', e, n0, n1, out, tp, ⟨ks, hp, hk⟩, ok⟩ := (r0.go s1).go s2
    cases e
    cases (show ks = _ from hk)
    have ntb : p ∉ TB := fun z => by
      have := (w2.wm.tb p z).1
      rw [hp] at this
      cases this
    refine ⟨hp, [(key, v)], rfl, (show (1 : Nat) ≤ 15 by decide), ?_⟩
    have cd : ∀ b c q, H2 b = some (LamX.CodeO c q) → upd H2 p (.dK [(key, v)]) b = some (LamX.CodeO c q) := fun b c q z => by
      have n1 : b ≠ p := fun y => by rw [y, hp] at z; unfold LamX.CodeO at z; cases z
      rw [upd_ne n1]
      exact z
    exact q (.new (.dcK [(key, z)])) S2 _ ρ2 T2 _ ⟨w2.sl, w2.wm.side out tp ntb cd⟩ (s02.side np) ⟨p, rfl, np, by rw [upd_same]; exact (fun z => nomatch z), out, tp, ⟨[(key, v)], upd_same, v, [], rfl, hz, rfl⟩, rfl⟩ h2
/-! ### stars -/
theorem zpa_star {X : Cx} {es : List Expr} (K : PySem.W.Frag) {te : TE} {t : TA} (hK : X.K = K) (h : PA X es (StX.tStar X.K te t)) : PA X es (StX.tStar K te t) := hK ▸ h
def wStar (we : WE) (w : WA) : WA := fun S k => we S fun r S1 => vwD r S1 fun d => match d with
  | .list ds => w S1 fun rs S2 => k (ds.map RD.d ++ rs) S2
  | .tuple ds => w S1 fun rs S2 => k (ds.map RD.d ++ rs) S2
  | _ => False
theorem RRs.dats : ∀ {ds : List PyData} {xs : List V} {rs : List RD} {us : List V}, DvA K T ds xs → RRs K T ρ H H0 rs us → RRs K T ρ H H0 (ds.map RD.d ++ rs) (xs ++ us)
  | [], _, rs, us, h, g => by cases (show _ = _ from h); exact g
  | d :: ds, _, rs, us, ⟨v, vs, e, h, r⟩, g => by
    subst e
    exact ⟨v, vs ++ us, H0, rfl, h, fun b z => z, fun p z => (by cases z), RRs.dats r g⟩
instance [hE : DEc K TB E Ex te we] [hA : DAc K TB E Ex t w] : DAc K TB E Ex (StX.tStar K te t) (wStar we w) where
  run := fun S σ H ρ T Q k wd rx h q => by
    refine hE.run S σ H ρ T _ _ wd rx h fun r S1 H1 ρ1 T1 v w1 s1 r1 h1 => ?_
    obtain ⟨d, hd, h1⟩ := vwD_run w1 r1 h1
    have go : ∀ {ds : List PyData} {xs : List V} {a : Addr}, v = .ref a → (SqT K H1 a xs ∨ SqL K H1 a xs) → DvA K T1 ds xs → (w S1 fun rs S2 => k (ds.map RD.d ++ rs) S2) → ∃ p xs, v = .ref p ∧ (SqT K H1 p xs ∨ SqL K H1 p xs) ∧ t σ H1 fun ys H2 => Q (xs ++ ys) H2 := by
      intro ds xs a ev hs hx h2
      refine ⟨a, xs, ev, hs, hA.run S1 σ H1 ρ1 T1 _ _ w1 (rx.go s1 w1.lv) h2 fun rs S2 H2 ρ2 T2 us w2 s2 r2 h3 => ?_⟩
      exact q _ _ _ _ _ _ w2 (s1.trans s2 w1.lv) (RRs.dats (DvA.keep s2.tt _ _ hx) (RRs.older (fun b z => s1.ne w1.lv z) r2)) h3
    cases d <;> first | exact h1.elim | skip
    · obtain ⟨a, xs, ev, e, hx⟩ := hd.lst w1.wm.sT
      exact go ev (.inr (.inl (.inl e))) hx h1
    · obtain ⟨a, xs, ev, e, hx⟩ := hd.tup w1.wm.sT
      exact go ev (.inl e) hx h1
theorem asDs_dats {rs : List RD} : ∀ {ds : List PyData} {S : SS} {k : List PyData → SS → Prop}, asDs (ds.map RD.d ++ rs) S k = asDs rs S fun es S1 => k (ds ++ es) S1
  | [], _, _ => rfl
  | d :: ds, S, k => by
    show (asDs (ds.map RD.d ++ rs) S fun es S1 => k (d :: es) S1) = _
    rw [asDs_dats]
    rfl
theorem e_own_a {a : AD} {S : SS} {k : AD → SS → Prop} : ownA (.ad a) S k = k a S := rfl
theorem e_own_n {c : CD} {S : SS} {k : AD → SS → Prop} : ownA (.new c) S k = k (.loc S.m.length) ⟨S.s, S.m ++ [c]⟩ := rfl
theorem e_asA {a : AD} {k : AD → Prop} : asA (.ad a) k = k a := rfl
theorem e_asKey_i {i : Int} {k : Key → Prop} : asKey (.ad (.dat (.int i))) k = k (.inl i) := rfl
theorem e_asKey_s {i : Str} {k : Key → Prop} : asKey (.ad (.dat (.str i))) k = k (.inr i) := rfl
theorem e_asDc {j : Nat} {S : SS} {k : Nat → List (Key × AD) → Prop} : asDc (.ad (.loc j)) S k = (match S.m[j]? with | some (.dcK kvs) => k j kvs | _ => False) := rfl
theorem e_setD {x y r : RD} {S : SS} {k : SS → Prop} : wSetD x y r S k = asKey y fun key => ownA r S fun z S1 => asDc x S1 fun j kvs => kvs.length < 1000000 ∧ k ⟨S1.s, S1.m.set j (.dcK (putA kvs key z))⟩ := rfl
end
end Zd
end

section
set_option maxHeartbeats 1000000
/-! The same, said so that what comes later stays put until it is come to. -/
namespace Zd
open PySem PySem.Spec PyProof.Rows L2 Zc
section
variable {S : SS} {W : WD} {k : RD → SS → Prop} {kt : Bool → SS → Prop} {ka : List RD → SS → Prop} {ks : SS → Prop} {ki : List PyData → SS → Prop} {kd : PyData → SS → Prop} {kds : List PyData → SS → Prop} {kad : List AD → SS → Prop} {ko : Option Int → SS → Prop}
variable {we wa wb wc wy wd : WE} {wt w1 w2 : WT} {w : WA} {wg : WG} {ws wu : WS} {wi : WI} {wl wh : WO} {r x y : RD} {rs : List RD} {d : PyData} {ds : List PyData} {n i j : Nat} {vs : List Nat} {s0 : List AD} {m : List CD} {acc : List PyData}
/-! statements -/
def kAsg (wg : WG) (W : WD) (r : RD) (S1 : SS) : Prop := wg r S1 W.nx
theorem q_asg : wAsg we wg W S = we S (kAsg wg W) := rfl
def kDrop (W : WD) (_ : RD) (S1 : SS) : Prop := W.nx S1
theorem q_drop : wDrop we W S = we S (kDrop W) := rfl
def kRet (W : WD) (r : RD) (S1 : SS) : Prop := W.rt r S1
theorem q_ret : wRet we W S = we S (kRet W) := rfl
def kIfS (a b : WS) (W : WD) (c : Bool) (S1 : SS) : Prop := if c = true then a W S1 else b W S1
theorem q_ifS : wIfS wt ws wu W S = wt S (kIfS ws wu W) := rfl
def kAug2 (W : WD) (i : Nat) (f : Int → Int → Int) (a : Int) (S1 : SS) (b : Int) : Prop := W.nx ⟨S1.s.set i (.dat (.int (f a b))), S1.m⟩
def kAug (W : WD) (i : Nat) (f : Int → Int → Int) (a : Int) (r : RD) (S1 : SS) : Prop := asI r (kAug2 W i f a S1)
theorem q_aug {f : Int → Int → Int} : wAug i we f W S = (match S.s[i]? with
  | some (.dat (.int a)) => we S (kAug W i f a)
  | _ => False) := rfl
def kPar2 (fj : Bool) (j : Nat) (r2 : RD) (W : WD) (S2 : SS) : Prop := wNm fj j r2 S2 W.nx
def kPar (fi fj : Bool) (i j : Nat) (W : WD) (rs : List RD) (S1 : SS) : Prop := match rs with
  | [r1, r2] => wNm fi i r1 S1 (kPar2 fj j r2 W)
  | _ => False
theorem q_par {fi fj : Bool} : wPar fi fj i j w W S = w S (kPar fi fj i j W) := rfl
theorem q_kPar {fi fj : Bool} {r1 r2 : RD} : kPar fi fj i j W [r1, r2] S = wNm fi i r1 S (kPar2 fj j r2 W) := rfl
def kFor (wg : WG) (wb : WS) (W : WD) (ds : List PyData) (S1 : SS) : Prop := wForL wg wb W ds S1
theorem q_for : wFor wi wg ws W S = wi S (kFor wg ws W) := rfl
def kRaise (Ex : XD → Prop) (C : Addr) (d : PyData) (_ : SS) : Prop := Ex (.at C d)
def kRaise1 (Ex : XD → Prop) (C : Addr) (r : RD) (S1 : SS) : Prop := asD r S1 (kRaise Ex C)
theorem q_raise {Ex : XD → Prop} {C : Addr} : wRaise Ex C we W S = we S (kRaise1 Ex C) := rfl
/-! arguments -/
def kCons2 (r : RD) (ka : List RD → SS → Prop) (rs : List RD) (S2 : SS) : Prop := ka (r :: rs) S2
def kCons (w : WA) (ka : List RD → SS → Prop) (r : RD) (S1 : SS) : Prop := w S1 (kCons2 r ka)
theorem q_cons : wCons we w S ka = we S (kCons w ka) := rfl
def kStar2 (ds : List PyData) (ka : List RD → SS → Prop) (rs : List RD) (S2 : SS) : Prop := ka (ds.map RD.d ++ rs) S2
def kStar1 (w : WA) (ka : List RD → SS → Prop) (S1 : SS) (d : PyData) : Prop := match d with
  | .list ds => w S1 (kStar2 ds ka)
  | .tuple ds => w S1 (kStar2 ds ka)
  | _ => False
def kStar (w : WA) (ka : List RD → SS → Prop) (r : RD) (S1 : SS) : Prop := vwD r S1 (kStar1 w ka S1)
theorem q_star : wStar we w S ka = we S (kStar w ka) := rfl
theorem q_kStar_l : kStar1 w ka S (.list ds) = w S (kStar2 ds ka) := rfl
theorem q_kStar_t : kStar1 w ka S (.tuple ds) = w S (kStar2 ds ka) := rfl
def kAs2 (d : PyData) (kds : List PyData → SS → Prop) (ds : List PyData) (S2 : SS) : Prop := kds (d :: ds) S2
def kAs (rs : List RD) (kds : List PyData → SS → Prop) (d : PyData) (S1 : SS) : Prop := asDs rs S1 (kAs2 d kds)
theorem q_as : asDs (r :: rs) S kds = asD r S (kAs rs kds) := rfl
def kDats (ds : List PyData) (kds : List PyData → SS → Prop) (es : List PyData) (S1 : SS) : Prop := kds (ds ++ es) S1
theorem q_dats : asDs (ds.map RD.d ++ rs) S kds = asDs rs S (kDats ds kds) := asDs_dats
def kCo (a : AD) (kad : List AD → SS → Prop) (as : List AD) (S1 : SS) : Prop := kad (a :: as) S1
theorem q_co_d : coA (.ad (.dat d) :: rs) S kad = coA rs S (kCo (.dat d) kad) := rfl
theorem q_co_v {v : V} : coA (.ad (.val v) :: rs) S kad = coA rs S (kCo (.val v) kad) := rfl
theorem q_co_n : coA (.new (.lst ds) :: rs) S kad = coA rs S (kCo (.dat (.list ds)) kad) := rfl
theorem q_co_l {l : Nat} : coA (.ad (.loc l) :: rs) S kad = (match S.m[l]? with
  | some (.lst ds) => coA rs (S.frz l ds) (kCo (.dat (.list ds)) kad)
  | some .gone => False
  | some _ => coA rs S (kCo (.loc l) kad)
  | Option.none => False) := rfl
/-! expressions -/
def kTup2 (k : RD → SS → Prop) (ds : List PyData) (S2 : SS) : Prop := ds.length ≤ 1000000 ∧ k (.ad (.dat (.tuple ds))) S2
def kTup (k : RD → SS → Prop) (rs : List RD) (S1 : SS) : Prop := asDs rs S1 (kTup2 k)
theorem q_tup : wTup w S k = w S (kTup k) := rfl
def kLst2 (k : RD → SS → Prop) (ds : List PyData) (S2 : SS) : Prop := ds.length ≤ 1000000 ∧ k (.new (.lst ds)) S2
def kLst (k : RD → SS → Prop) (rs : List RD) (S1 : SS) : Prop := asDs rs S1 (kLst2 k)
theorem q_lst : wLst w S k = w S (kLst k) := rfl
def kOp2 (wr : RD → RD → SS → (RD → SS → Prop) → Prop) (x : RD) (k : RD → SS → Prop) (y : RD) (S2 : SS) : Prop := wr x y S2 k
def kOp (wr : RD → RD → SS → (RD → SS → Prop) → Prop) (wb : WE) (k : RD → SS → Prop) (x : RD) (S1 : SS) : Prop := wb S1 (kOp2 wr x k)
theorem q_op {wr : RD → RD → SS → (RD → SS → Prop) → Prop} : wOp wr wa wb S k = wa S (kOp wr wb k) := rfl
def kCB (wr : List RD → SS → (RD → SS → Prop) → Prop) (k : RD → SS → Prop) (xs : List RD) (S1 : SS) : Prop := wr xs S1 k
theorem q_cb {wr : List RD → SS → (RD → SS → Prop) → Prop} : wCB wr w S k = w S (kCB wr k) := rfl
def kBM2 (wr : RD → List RD → SS → (RD → SS → Prop) → Prop) (x : RD) (k : RD → SS → Prop) (xs : List RD) (S2 : SS) : Prop := wr x xs S2 k
def kBM (ty : String) (wr : RD → List RD → SS → (RD → SS → Prop) → Prop) (w : WA) (k : RD → SS → Prop) (x : RD) (S1 : SS) : Prop := tyOk ty x S1 ∧ w S1 (kBM2 wr x k)
theorem q_bm {ty : String} {wr : RD → List RD → SS → (RD → SS → Prop) → Prop} : wBM ty wr we w S k = we S (kBM ty wr w k) := rfl
def kBM0 (ty : String) (wr : RD → List RD → SS → (RD → SS → Prop) → Prop) (k : RD → SS → Prop) (x : RD) (S1 : SS) : Prop := tyOk ty x S1 ∧ wr x [] S1 k
theorem q_bm0 {ty : String} {wr : RD → List RD → SS → (RD → SS → Prop) → Prop} : wBM0 ty wr we S k = we S (kBM0 ty wr k) := rfl
def kR (S : SS) (k : RD → SS → Prop) (r : RD) : Prop := k r S
def k22 (f : PyData → PyData → (RD → Prop) → Prop) (d : PyData) (S : SS) (k : RD → SS → Prop) (e : PyData) : Prop := f d e (kR S k)
def k21 (f : PyData → PyData → (RD → Prop) → Prop) (y : RD) (S : SS) (k : RD → SS → Prop) (d : PyData) : Prop := vwD y S (k22 f d S k)
theorem q_w2 {f : PyData → PyData → (RD → Prop) → Prop} : Zd.w2 f x y S k = vwD x S (k21 f y S k) := rfl
def k1 (f : PyData → (RD → Prop) → Prop) (S : SS) (k : RD → SS → Prop) (d : PyData) : Prop := f d (kR S k)
theorem q_w1 {f : PyData → (RD → Prop) → Prop} : Zd.w1 f [r] S k = vwD r S (k1 f S k) := rfl
/-- which kinds a thing is of -/
def kIsi (g : PyData → Bool) (S : SS) (k : RD → SS → Prop) (d : PyData) : Prop := k (.ad (.dat (.bool (g d)))) S
theorem q_isi_int : wIsi [r, .ad (.val (.ty "int"))] S k = vwD r S (kIsi (fun d => isIntD d || isBoolD d) S k) := e_isi_int
theorem q_isi_bool : wIsi [r, .ad (.val (.ty "bool"))] S k = vwD r S (kIsi isBoolD S k) := e_isi_bool
theorem q_isi_tuple : wIsi [r, .ad (.val (.ty "tuple"))] S k = vwD r S (kIsi isTupD S k) := e_isi_tuple
theorem q_isi_list : wIsi [r, .ad (.val (.ty "list"))] S k = vwD r S (kIsi isLstD S k) := e_isi_list
theorem q_isi_str : wIsi [r, .ad (.val (.ty "str"))] S k = vwD r S (kIsi isStrD S k) := e_isi_str
def kIsLT (k : RD → SS → Prop) (r : RD) (S1 : SS) : Prop := vwD r S1 (kIsi (fun d => isLstD d || isTupD d) S1 k)
theorem q_isLT : wIsLT we S k = we S (kIsLT k) := rfl
def kB (S : SS) (kt : Bool → SS → Prop) (b : Bool) : Prop := kt b S
def kTest (kt : Bool → SS → Prop) (r : RD) (S1 : SS) : Prop := asB r (kB S1 kt)
theorem q_test : wTest we S kt = we S (kTest kt) := rfl
def kTru2 (kt : Bool → SS → Prop) (S1 : SS) (d : PyData) : Prop := truD d (kB S1 kt)
def kTru (kt : Bool → SS → Prop) (r : RD) (S1 : SS) : Prop := vwD r S1 (kTru2 kt S1)
theorem q_tru : Zd.wTru we S kt = we S (kTru kt) := rfl
def kAnd (w2 : WT) (kt : Bool → SS → Prop) (b : Bool) (S1 : SS) : Prop := if b = true then w2 S1 kt else kt false S1
theorem q_and : Zd.wAnd w1 w2 S kt = w1 S (kAnd w2 kt) := rfl
def kOr (w2 : WT) (kt : Bool → SS → Prop) (b : Bool) (S1 : SS) : Prop := if b = true then kt true S1 else w2 S1 kt
theorem q_or : Zd.wOr w1 w2 S kt = w1 S (kOr w2 kt) := rfl
def kNot (kt : Bool → SS → Prop) (b : Bool) (S1 : SS) : Prop := kt (!b) S1
theorem q_not : Zd.wNot w1 S kt = w1 S (kNot kt) := rfl
def kAndV2 (wb : WE) (k : RD → SS → Prop) (S1 : SS) (b : Bool) : Prop := if b = true then wb S1 k else k (.ad (.dat (.bool false))) S1
def kAndV (wb : WE) (k : RD → SS → Prop) (r : RD) (S1 : SS) : Prop := asB r (kAndV2 wb k S1)
theorem q_andV : wAndV wa wb S k = wa S (kAndV wb k) := rfl
def kOrV2 (wb : WE) (k : RD → SS → Prop) (S1 : SS) (b : Bool) : Prop := if b = true then k (.ad (.dat (.bool true))) S1 else wb S1 k
def kOrV (wb : WE) (k : RD → SS → Prop) (r : RD) (S1 : SS) : Prop := asB r (kOrV2 wb k S1)
theorem q_orV : wOrV wa wb S k = wa S (kOrV wb k) := rfl
def kNotV2 (k : RD → SS → Prop) (S1 : SS) (b : Bool) : Prop := k (.ad (.dat (.bool (!b)))) S1
def kNotV (k : RD → SS → Prop) (r : RD) (S1 : SS) : Prop := asB r (kNotV2 k S1)
theorem q_notV : wNotV wa S k = wa S (kNotV k) := rfl
def kIf (wa wb : WE) (k : RD → SS → Prop) (b : Bool) (S1 : SS) : Prop := if b = true then wa S1 k else wb S1 k
theorem q_if : wIf wt wa wb S k = wt S (kIf wa wb k) := rfl
def kPart2 (ko : Option Int → SS → Prop) (S1 : SS) (i : Int) : Prop := ko (some i) S1
def kPart (ko : Option Int → SS → Prop) (r : RD) (S1 : SS) : Prop := asI r (kPart2 ko S1)
theorem q_part : wPart we S ko = we S (kPart ko) := rfl
def kSl3 (l u : Option Int) (k : RD → SS → Prop) (S3 : SS) (d : PyData) : Prop := fSl d l u (kR S3 k)
def kSl2 (x : RD) (l : Option Int) (k : RD → SS → Prop) (u : Option Int) (S3 : SS) : Prop := vwD x S3 (kSl3 l u k S3)
def kSl1 (wh : WO) (x : RD) (k : RD → SS → Prop) (l : Option Int) (S2 : SS) : Prop := wh S2 (kSl2 x l k)
def kSl (wl wh : WO) (k : RD → SS → Prop) (x : RD) (S1 : SS) : Prop := wl S1 (kSl1 wh x k)
theorem q_sl : wSl we wl wh S k = we S (kSl wl wh k) := rfl
def kRevT2 (k : RD → SS → Prop) (S1 : SS) (d : PyData) : Prop := match d with
  | .tuple ds => k (.ad (.dat (.tuple ds.reverse))) S1
  | _ => False
def kRevT (k : RD → SS → Prop) (r : RD) (S1 : SS) : Prop := vwD r S1 (kRevT2 k S1)
theorem q_revT : wRevT we S k = we S (kRevT k) := rfl
theorem q_kRevT : kRevT2 k S (.tuple ds) = k (.ad (.dat (.tuple ds.reverse))) S := rfl
def kRevL2 (k : RD → SS → Prop) (S1 : SS) (d : PyData) : Prop := match d with
  | .list ds => k (.new (.lst ds.reverse)) S1
  | _ => False
def kRevL (k : RD → SS → Prop) (r : RD) (S1 : SS) : Prop := vwD r S1 (kRevL2 k S1)
theorem q_revL : wRevL we S k = we S (kRevL k) := rfl
theorem q_kRevL : kRevL2 k S (.list ds) = k (.new (.lst ds.reverse)) S := rfl
def kUn2 (g : Int → Int) (k : RD → SS → Prop) (S1 : SS) (i : Int) : Prop := k (.ad (.dat (.int (g i)))) S1
def kUn (g : Int → Int) (k : RD → SS → Prop) (r : RD) (S1 : SS) : Prop := asI r (kUn2 g k S1)
theorem q_un {g : Int → Int} : wUn g we S k = we S (kUn g k) := rfl
def kLr2 (k : RD → SS → Prop) (S1 : SS) (n : Int) : Prop := 0 ≤ n ∧ n ≤ 1000000 ∧ k (.new (.lst (rgD 0 n))) S1
def kLr (k : RD → SS → Prop) (r : RD) (S1 : SS) : Prop := asI r (kLr2 k S1)
theorem q_lstRg1 : wLstRg1 we S k = we S (kLr k) := rfl
def kLs4 (k : RD → SS → Prop) (S2 : SS) (i j : Int) : Prop := (-1000000 ≤ i ∧ i ≤ 1000000 ∧ -1000000 ≤ j ∧ j ≤ 1000000) ∧ k (.new (.lst (rgD i j))) S2
def kLs3 (y : RD) (k : RD → SS → Prop) (S2 : SS) (i : Int) : Prop := asI y (kLs4 k S2 i)
def kLs2 (x : RD) (k : RD → SS → Prop) (y : RD) (S2 : SS) : Prop := asI x (kLs3 y k S2)
def kLs (wb : WE) (k : RD → SS → Prop) (x : RD) (S1 : SS) : Prop := wb S1 (kLs2 x k)
theorem q_lstRg2 : wLstRg2 wa wb S k = wa S (kLs wb k) := rfl
def kChain4 (wr' : RD → RD → SS → (RD → SS → Prop) → Prop) (e : PyData) (k : RD → SS → Prop) (u : RD) (S4 : SS) : Prop := wr' (.ad (.dat e)) u S4 k
def kChain3 (wr' : RD → RD → SS → (RD → SS → Prop) → Prop) (wc : WE) (e : PyData) (k : RD → SS → Prop) (S3 : SS) (b : Bool) : Prop := if b = true then wc S3 (kChain4 wr' e k) else k (.ad (.dat (.bool false))) S3
def kChain2 (wr' : RD → RD → SS → (RD → SS → Prop) → Prop) (wc : WE) (e : PyData) (k : RD → SS → Prop) (z : RD) (S3 : SS) : Prop := asB z (kChain3 wr' wc e k S3)
def kChain1 (wr wr' : RD → RD → SS → (RD → SS → Prop) → Prop) (wc : WE) (x : RD) (k : RD → SS → Prop) (y : RD) (S2 : SS) : Prop := match x, y with
  | .ad (.dat d), .ad (.dat e) => wr (.ad (.dat d)) (.ad (.dat e)) S2 (kChain2 wr' wc e k)
  | _, _ => False
def kChain (wr wr' : RD → RD → SS → (RD → SS → Prop) → Prop) (wb wc : WE) (k : RD → SS → Prop) (x : RD) (S1 : SS) : Prop := wb S1 (kChain1 wr wr' wc x k)
theorem q_chain {wr wr' : RD → RD → SS → (RD → SS → Prop) → Prop} : wChain wr wr' wa wb wc S k = wa S (kChain wr wr' wb wc k) := rfl
theorem q_kChain {wr wr' : RD → RD → SS → (RD → SS → Prop) → Prop} {d e : PyData} : kChain1 wr wr' wc (.ad (.dat d)) k (.ad (.dat e)) S = wr (.ad (.dat d)) (.ad (.dat e)) S (kChain2 wr' wc e k) := rfl
/-! methods, targets -/
def kApp (j : Nat) (k : RD → SS → Prop) (d : PyData) (S1 : SS) : Prop := match S1.m[j]? with
  | some (.lst ds) => ds.length < 1000000 ∧ k (.ad (.dat .none)) ⟨S1.s, S1.m.set j (.lst (ds ++ [d]))⟩
  | _ => False
theorem q_app {l : Nat} : wAppend (.ad (.loc l)) [r] S k = asD r S (kApp l k) := rfl
def kgCons (wr : List PyData → SS → (SS → Prop) → Prop) (ds : List PyData) (ks : SS → Prop) (S1 : SS) : Prop := wr ds S1 ks
theorem q_gcons {wr : List PyData → SS → (SS → Prop) → Prop} : wgCons wg wr (d :: ds) S ks = wg (.ad (.dat d)) S (kgCons wr ds ks) := rfl
def kgSub2 (wt : RD → RD → RD → SS → (SS → Prop) → Prop) (x r : RD) (ks : SS → Prop) (y : RD) (S2 : SS) : Prop := wt x y r S2 ks
def kgSub (wi : WE) (wt : RD → RD → RD → SS → (SS → Prop) → Prop) (r : RD) (ks : SS → Prop) (x : RD) (S1 : SS) : Prop := wi S1 (kgSub2 wt x r ks)
theorem q_gsub {wt : RD → RD → RD → SS → (SS → Prop) → Prop} : wgSub wa wb wt r S ks = wa S (kgSub wb wt r ks) := rfl
def kSetL (j : Nat) (i : Int) (ks : SS → Prop) (d : PyData) (S1 : SS) : Prop := match S1.m[j]? with
  | some (.lst ds) => ∃ n, ixN ds.length i = some n ∧ ks ⟨S1.s, S1.m.set j (.lst (ds.set n d))⟩
  | _ => False
theorem q_setL {l : Nat} {i : Int} : wSetL (.ad (.loc l)) (.ad (.dat (.int i))) r S ks = asD r S (kSetL l i ks) := rfl
def kSetD3 (key : Key) (z : AD) (ks : SS → Prop) (S1 : SS) (j : Nat) (kvs : List (Key × AD)) : Prop := kvs.length < 1000000 ∧ ks ⟨S1.s, S1.m.set j (.dcK (putA kvs key z))⟩
def kSetD2 (x : RD) (key : Key) (ks : SS → Prop) (z : AD) (S1 : SS) : Prop := asDc x S1 (kSetD3 key z ks S1)
def kSetD (x r : RD) (S : SS) (ks : SS → Prop) (key : Key) : Prop := ownA r S (kSetD2 x key ks)
theorem q_setD : wSetD x y r S ks = asKey y (kSetD x r S ks) := rfl
/-! walks -/
def kSeq3 (ki : List PyData → SS → Prop) (S2 : SS) (ds : List PyData) : Prop := ki ds S2
def kSeq2 (ki : List PyData → SS → Prop) (d : PyData) (S2 : SS) : Prop := itemsD d (kSeq3 ki S2)
def kSeq1 (ki : List PyData → SS → Prop) (r : RD) (S1 : SS) : Prop := asD r S1 (kSeq2 ki)
theorem q_seqI : wSeqI we S ki = we S (kSeq1 ki) := rfl
def kRng1 (ki : List PyData → SS → Prop) (rs : List RD) (S1 : SS) : Prop := match rs with
  | [.ad (.dat (.int n))] => -1000000000 ≤ n ∧ n ≤ 1000000000 ∧ ki ((List.range n.toNat).map fun (i : Nat) => PyData.int (0 + i)) S1
  | _ => False
theorem q_rng1 : wRng1 w S ki = w S (kRng1 ki) := rfl
theorem q_kRng1 {n : Int} : kRng1 ki [.ad (.dat (.int n))] S = (-1000000000 ≤ n ∧ n ≤ 1000000000 ∧ ki ((List.range n.toNat).map fun (i : Nat) => PyData.int (0 + i)) S) := rfl
def kRng2 (ki : List PyData → SS → Prop) (rs : List RD) (S1 : SS) : Prop := match rs with
  | [.ad (.dat (.int a)), .ad (.dat (.int b))] => (-1000000000 ≤ a ∧ a ≤ 1000000000 ∧ -1000000000 ≤ b ∧ b ≤ 1000000000) ∧ ki ((List.range (b - a).toNat).map fun (i : Nat) => PyData.int (a + i)) S1
  | _ => False
theorem q_rng2 : wRng2 w S ki = w S (kRng2 ki) := rfl
theorem q_kRng2 {a b : Int} : kRng2 ki [.ad (.dat (.int a)), .ad (.dat (.int b))] S = ((-1000000000 ≤ a ∧ a ≤ 1000000000 ∧ -1000000000 ≤ b ∧ b ≤ 1000000000) ∧ ki ((List.range (b - a).toNat).map fun (i : Nat) => PyData.int (a + i)) S) := rfl
def kEnum2 (ki : List PyData → SS → Prop) (d : PyData) (S2 : SS) : Prop := match d with
  | .list ds => ki (enumD ds) S2
  | _ => False
def kEnum (ki : List PyData → SS → Prop) (rs : List RD) (S1 : SS) : Prop := match rs with
  | [r] => asD r S1 (kEnum2 ki)
  | _ => False
theorem q_enum : wEnum w S ki = w S (kEnum ki) := by
  unfold wEnum
  congr 1
theorem q_kEnum : kEnum ki [r] S = asD r S (kEnum2 ki) := rfl
theorem q_kEnum2 : kEnum2 ki (.list ds) S = ki (enumD ds) S := rfl
def kZip2 (ki : List PyData → SS → Prop) (xs : List PyData) (S2 : SS) : Prop := match xs with
  | [.list ds, .list es] => ki (zipD ds es) S2
  | _ => False
def kZip (ki : List PyData → SS → Prop) (rs : List RD) (S1 : SS) : Prop := asDs rs S1 (kZip2 ki)
theorem q_zip : wZip w S ki = w S (kZip ki) := rfl
theorem q_kZip {es : List PyData} : kZip2 ki [.list ds, .list es] S = ki (zipD ds es) S := rfl
def kLc (wg : WG) (wt : WT) (we : WE) (vs : List Nat) (k : RD → SS → Prop) (ds : List PyData) (S1 : SS) : Prop := ds.length < 1000000 ∧ wLcL wg wt we vs S1.s k ds [] S1.m
theorem q_lc : wLc wi wg wt we vs S k = wi S (kLc wg wt we vs k) := rfl
def kLcA (wg : WG) (wt : WT) (we : WE) (vs : List Nat) (k : RD → SS → Prop) (ds : List PyData) (S1 : SS) : Prop := ds.length < 1000000 ∧ wLcAL wg wt we vs S1.s k ds [] S1.m
theorem q_lcA : wLcA wi wg wt we vs S k = wi S (kLcA wg wt we vs k) := rfl
def kGen (go : Bool) (wg : WG) (wt : WT) (we : WE) (vs : List Nat) (k : RD → SS → Prop) (ds : List PyData) (S1 : SS) : Prop := wGenL go wg wt we vs S1.s k ds S1.m
theorem q_gen {TB : List Addr} {P : Addr} {go : Bool} : wGen TB P go wi wg wt we vs S k = (P ∈ TB ∧ wi S (kGen go wg wt we vs k)) := rfl
/-! calls -/
def kCall3 (k : RD → SS → Prop) (S2 : SS) (r : RD) : Prop := k r S2
def kCall2 (Ex : XD → Prop) (n : Nat) (psp : PSp) (k : RD → SS → Prop) (as : List AD) (S2 : SS) : Prop := as.length = n ∧ as.all nl = true ∧ psp as (kCall3 k S2) Ex
def kCall1 (Ex : XD → Prop) (n : Nat) (psp : PSp) (k : RD → SS → Prop) (rs : List RD) (S1 : SS) : Prop := coA rs S1 (kCall2 Ex n psp k)
theorem q_callP {Ex : XD → Prop} {psp : PSp} : wCallP Ex n psp w S k = w S (kCall1 Ex n psp k) := rfl
def kDeal2 (Ex : XD → Prop) (n : Nat) (psp : PSp) (k : RD → SS → Prop) (as : List AD) (S2 : SS) : Prop := as.length = n ∧ match as with
  | .loc j :: as' => as'.all nl = true ∧ onlyAt j S2.m = true ∧ (match S2.m[j]? with
    | some (.deal _) => True
    | _ => False) ∧ psp as' (kCall3 k S2) Ex
  | _ => False
def kDeal1 (Ex : XD → Prop) (n : Nat) (psp : PSp) (k : RD → SS → Prop) (rs : List RD) (S1 : SS) : Prop := coA rs S1 (kDeal2 Ex n psp k)
theorem q_callD {Ex : XD → Prop} {psp : PSp} : wCallD Ex n psp w S k = w S (kDeal1 Ex n psp k) := rfl
theorem q_kDeal2 {Ex : XD → Prop} {psp : PSp} {as : List AD} : kDeal2 Ex n psp k (.loc j :: as) S = ((AD.loc j :: as).length = n ∧ as.all nl = true ∧ onlyAt j S.m = true ∧ (match S.m[j]? with
    | some (.deal _) => True
    | _ => False) ∧ psp as (kCall3 k S) Ex) := rfl
/-! things of one's own -/
def kIxA2 (j : Nat) (k : RD → SS → Prop) (y : RD) (S2 : SS) : Prop := match S2.m[j]? with
  | some (.lsa as) => asI y fun i => ∃ n a, ixN as.length i = some n ∧ as[n]? = some a ∧ k (.ad a) S2
  | some (.lst ds) => asI y fun i => ∃ n d, ixN ds.length i = some n ∧ ds[n]? = some d ∧ k (.ad (.dat d)) S2
  | _ => False
def kIxA1 (x : RD) (k : RD → SS → Prop) (y : RD) (S2 : SS) : Prop := match x with
  | .ad (.loc j) => kIxA2 j k y S2
  | _ => False
def kIxA (wi : WE) (k : RD → SS → Prop) (x : RD) (S1 : SS) : Prop := wi S1 (kIxA1 x k)
theorem q_ixA : wIxA wa wb S k = wa S (kIxA wb k) := rfl
theorem q_kIxA1 : kIxA1 (.ad (.loc j)) k y S = kIxA2 j k y S := rfl
def kDIn3 (neg : Bool) (key : Key) (k : RD → SS → Prop) (S2 : SS) (_ : Nat) (kvs : List (Key × AD)) : Prop := k (.ad (.dat (.bool (if neg then !(getA kvs key).isSome else (getA kvs key).isSome)))) S2
def kDIn2 (neg : Bool) (x : RD) (k : RD → SS → Prop) (S2 : SS) (key : Key) : Prop := asDc x S2 (kDIn3 neg key k S2)
def kDIn1 (neg : Bool) (y : RD) (k : RD → SS → Prop) (x : RD) (S2 : SS) : Prop := asKey y (kDIn2 neg x k S2)
def kDIn (neg : Bool) (wd : WE) (k : RD → SS → Prop) (y : RD) (S1 : SS) : Prop := wd S1 (kDIn1 neg y k)
theorem q_dIn {neg : Bool} : wDIn neg wy wd S k = wy S (kDIn neg wd k) := rfl
def kDGet3 (key : Key) (k : RD → SS → Prop) (S2 : SS) (_ : Nat) (kvs : List (Key × AD)) : Prop := ∃ z, getA kvs key = some z ∧ k (.ad z) S2
def kDGet2 (x : RD) (k : RD → SS → Prop) (S2 : SS) (key : Key) : Prop := asDc x S2 (kDGet3 key k S2)
def kDGet1 (x : RD) (k : RD → SS → Prop) (y : RD) (S2 : SS) : Prop := asKey y (kDGet2 x k S2)
def kDGet (wy : WE) (k : RD → SS → Prop) (x : RD) (S1 : SS) : Prop := wy S1 (kDGet1 x k)
theorem q_dGet : wDGet wd wy S k = wd S (kDGet wy k) := rfl
def kDisp4 (key : Key) (k : RD → SS → Prop) (S2 : SS) (z : AD) : Prop := k (.new (.dcK [(key, z)])) S2
def kDisp3 (key : Key) (k : RD → SS → Prop) (y : RD) (S2 : SS) : Prop := asA y (kDisp4 key k S2)
def kDisp2 (wv : WE) (k : RD → SS → Prop) (S1 : SS) (key : Key) : Prop := wv S1 (kDisp3 key k)
def kDisp1 (wv : WE) (k : RD → SS → Prop) (x : RD) (S1 : SS) : Prop := asKey x (kDisp2 wv k S1)
theorem q_disp1 : wDisp1 wa wb S k = wa S (kDisp1 wb k) := rfl
/-! loops -/
def kTurn (N1 : PyData → List CD → Prop) (d : PyData) (S4 : SS) : Prop := N1 d S4.m
def kElt (N1 : PyData → List CD → Prop) (r : RD) (S3 : SS) : Prop := asD r S3 (kTurn N1)
def kCond (we : WE) (k1 : RD → SS → Prop) (N0 : List CD → Prop) (b : Bool) (S2 : SS) : Prop := if b = true then we S2 k1 else N0 S2.m
def kItem (wt : WT) (we : WE) (k1 : RD → SS → Prop) (N0 : List CD → Prop) (S1 : SS) : Prop := wt S1 (kCond we k1 N0)
def kGo (go : Bool) (N F : List CD → Prop) (S3 : SS) (c : Bool) : Prop := if c = go then N S3.m else F S3.m
def kGenE (go : Bool) (N F : List CD → Prop) (r : RD) (S3 : SS) : Prop := asB r (kGo go N F S3)
end
section
variable {α : Type} {wg : WG} {wb : WS} {W : WD} {wt : WT} {we : WE} {vs : List Nat} {s0 : List AD} {k : RD → SS → Prop} {m : List CD}
theorem forQ {ds : List PyData} {S : SS} (enc : α → PyData) (all : List α) (hds : ds = all.map enc) (I : List α → SS → Prop) (start : I [] S) (last : ∀ S, I all S → W.nx S)
    (turn : ∀ (pre : List α) (x : α) (post : List α) (S : SS) (N : SS → Prop), all = pre ++ x :: post → I pre S → (∀ S2 S3, Wk W.n S2 S3 → I (pre ++ [x]) S3 → N S2) →
      wg (.ad (.dat (enc x))) S (wb { W with nx := N, ct := N, bk := W.nx })) : wForL wg wb W ds S := forL enc all hds I start last turn
theorem forQ_nat {S : SS} {n : Nat} (I : Nat → SS → Prop) (start : I 0 S) (last : ∀ S, I n S → W.nx S)
    (turn : ∀ (i : Nat) (S : SS) (N : SS → Prop), i < n → I i S → (∀ S2 S3, Wk W.n S2 S3 → I (i + 1) S3 → N S2) →
      wg (.ad (.dat (natD i))) S (wb { W with nx := N, ct := N, bk := W.nx })) : wForL wg wb W ((List.range n).map fun (i : Nat) => PyData.int (0 + i)) S := forL_nat I start last turn
theorem lcQ {ds : List PyData} (enc : α → PyData) (all : List α) (hds : ds = all.map enc) (p : α → Bool) (f : α → PyData)
    (turn : ∀ x ∈ all, ∀ (N1 : PyData → List CD → Prop) (N0 : List CD → Prop), (p x = true → N1 (f x) m) → (p x = false → N0 m) → wg (.ad (.dat (enc x))) ⟨unAll vs s0, m⟩ (kItem wt we (kElt N1) N0))
    (h : k (.new (.lst ((all.filter p).map f))) ⟨s0, m⟩) : wLcL wg wt we vs s0 k ds [] m := lcL enc all hds p f turn h
theorem lcQ_draw {ds : List PyData} (enc : α → PyData) (all : List α) (hds : ds = all.map enc) (Pi : List α → List PyData → Prop) (start : Pi [] [])
    (turn : ∀ (pre : List α) (x : α) (post : List α) (acc : List PyData) (N1 : PyData → List CD → Prop) (N0 : List CD → Prop), all = pre ++ x :: post → Pi pre acc → (∀ d, Pi (pre ++ [x]) (acc ++ [d]) → N1 d m) → (Pi (pre ++ [x]) acc → N0 m) →
        wg (.ad (.dat (enc x))) ⟨unAll vs s0, m⟩ (kItem wt we (kElt N1) N0))
    (last : ∀ acc, Pi all acc → k (.new (.lst acc)) ⟨s0, m⟩) : wLcL wg wt we vs s0 k ds [] m := by
  subst hds
  exact lcL_draw enc Pi all turn last all [] [] rfl start
theorem genQ {go : Bool} {ds : List PyData} (enc : α → PyData) (all : List α) (hds : ds = all.map enc) (p q : α → Bool)
    (turn : ∀ x ∈ all, ∀ (N F : List CD → Prop), (p x = true → q x = go → N m) → (p x = true → q x ≠ go → F m) → (p x = false → N m) → wg (.ad (.dat (enc x))) ⟨unAll vs s0, m⟩ (kItem wt we (kGenE go N F) N))
    (h : k (.ad (.dat (.bool (anyAllA go q (all.filter p))))) ⟨s0, m⟩) : wGenL go wg wt we vs s0 k ds m := genL enc all hds p q turn h
theorem q_any {n : Int} {k : RD → Prop} {Ex : XD → Prop} : anyP [.dat (.int n)] k Ex = (0 < n ∧ n < 2 ^ 64 ∧ ∀ a : Nat, (a : Int) < n → k (.ad (.dat (.int (a : Nat))))) := by
  apply propext
  constructor
  · rintro ⟨m, e, h⟩
    cases e
    exact h
  · exact fun h => ⟨n, rfl, h⟩
theorem q_of {ds : List PyData} {k : RD → Prop} {Ex : XD → Prop} : ofP [.dat (.list ds)] k Ex = (0 < ds.length ∧ ds.length ≤ 1000 ∧ ∀ d ∈ ds, k (.ad (.dat d))) := by
  apply propext
  constructor
  · rintro ⟨m, e, h⟩
    cases e
    exact h
  · exact fun h => ⟨ds, rfl, h⟩
/-- small enough to be told apart -/
theorem mulW {i j : Int} (hi : i.natAbs < 2 ^ 64) (hj : j.natAbs < 2 ^ 64) : CMulW i j := by
  have log : ∀ {n : Nat}, n < 2 ^ 64 → n.log2 < 64 := fun {n} h => by
    by_cases e : n = 0
    · rw [e]; decide
    · exact (Nat.log2_lt e).mpr h
  have h1 := log hi
  have h2 := log hj
  show i.natAbs.log2 + j.natAbs.log2 < 1000000
  omega
end
end Zd
end

section
set_option maxHeartbeats 1000000
/-! Calls by keywords, the last parameter's first. -/
namespace Zd
open PySem PySem.Spec PyProof.Rows L2 Zc
def kCallK2 (Ex : XD → Prop) (n : Nat) (psp : PSp) (k : RD → SS → Prop) (as : List AD) (S2 : SS) : Prop := as.length = n ∧ as.all nl = true ∧ psp as.reverse (kCall3 k S2) Ex
def kCallK1 (Ex : XD → Prop) (n : Nat) (psp : PSp) (k : RD → SS → Prop) (rs : List RD) (S1 : SS) : Prop := coA rs S1 (kCallK2 Ex n psp k)
def wCallK (Ex : XD → Prop) (n : Nat) (psp : PSp) (w : WA) : WE := fun S k => w S (kCallK1 Ex n psp k)
section
variable {K : PySem.W.Frag} {TB : List Addr} {E : XK} {Ex : XD → Prop} {T T' T0 H H' H0 : Hp} {ρ ρ' ρ0 β : List Addr} {S S' : SS} {σ : L2.St} {n : Nat} {t : TA} {w : WA} {m : List CD}
theorem ARs.app : ∀ {as bs : List AD} {vs us : List V}, ARs K T ρ as vs → ARs K T ρ bs us → ARs K T ρ (as ++ bs) (vs ++ us)
  | [], _, _, _, h, g => by cases (show _ = _ from h); exact g
  | a :: as, _, _, _, ⟨v, us, e, h, r⟩, g => by subst e; exact ⟨v, us ++ _, rfl, h, ARs.app r g⟩
theorem ARs.rev : ∀ {as : List AD} {vs : List V}, ARs K T ρ as vs → ARs K T ρ as.reverse vs.reverse
  | [], _, h => by cases (show _ = _ from h); rfl
  | a :: as, _, ⟨v, us, e, h, r⟩ => by
    subst e
    rw [List.reverse_cons, List.reverse_cons]
    exact ARs.app (ARs.rev r) ⟨v, [], rfl, h, rfl⟩
theorem callK_run {Q : VK} {k : RD → SS → Prop} {E' : XK} {Ex' : XD → Prop} {psp : PSp} [hA : DAc K TB E Ex t w] (wd : Wd K TB S σ H ρ T) (rx : Rx K E Ex ρ T H) (rx' : ∀ {S ρ T H}, Wd K TB S σ H ρ T → Rx K E Ex ρ T H → Rx K E' Ex' [] T H) (h : wCallK Ex' n psp w S k)
    (q : ∀ r S' H' ρ' T' v, Wd K TB S' σ H' ρ' T' → Stp ρ T H ρ' T' H' → RR K T' ρ' H' H r v → k r S' → Q v H') : t σ H fun zs H1 => spP K TB n psp (revK [] zs) H1 Q E' := by
  refine hA.run S σ H ρ T _ _ wd rx h fun rs S1 H1 ρ1 T1 vs w1 s1 r1 h1 => ?_
  obtain ⟨as, S2, T2, w2, f2, d2, hl, hn, hp⟩ := coA_run w1 r1 h1
  have s2 := s1.fz f2
  refine ⟨as.reverse, [], T2, fun r => k r S2, Ex', by rw [List.length_reverse]; exact hl, ?_, w2.wm.empty, hp, rx' w2 (rx.go s2 w2.lv), fun r H' T' v fl wm s hr hk => ?_⟩
  · exact (d2.nl hn).rev
  · obtain ⟨w3, s3⟩ := w2.after wm s
    exact q r S2 H' ρ1 T' v w3 (s2.trans s3 w2.lv) ((hr.out fl w2.lv).older fun b z => s2.ne w2.lv z) hk
instance {psp : PSp} [hA : DAc K TB E Ex t w] : DEc K TB E Ex (L2.tCallK (toSp K TB [] n psp) revK E0 tNil t) (wCallK (fun _ => False) n psp w) where
  run := fun S σ H ρ T Q k wd rx h q => callK_run (E' := E0) wd rx (fun _ _ => .none) h q
instance {psp : PSp} [hA : DAc K TB E Ex t w] : DEc K TB E Ex (L2.tCallK (toSp K TB [] n psp) revK E tNil t) (wCallK Ex n psp w) where
  run := fun S σ H ρ T Q k wd rx h q => callK_run (E' := E) wd rx (fun w rx => rx.out w) h q
end
end Zd
end

section
set_option maxHeartbeats 2000000
/-! A lambda handed to a def: what its making turns in the heap, told more closely. -/
namespace Zd
open PySem PySem.Spec PyProof.Rows L2 Zc LamX
/-- nothing turned, or the table at P grew by a new code object -/
def LamTo (P : Addr) (q : Str) (H H1 : Hp) : Prop := H1 = H ∨ ∃ (ps ps' : Array Value) (c : Addr), H P = some (.tbl ps) ∧ H c = none ∧ H1 = upd (upd H P (.tbl ps')) c (CodeO c q)
theorem LamTo.ext {P : Addr} {q : Str} {H H1 : Hp} (l : LamTo P q H H1) {b : Addr} {o : HO} (n : b ≠ P) (e : H b = some o) : H1 b = some o := by
  rcases l with rfl | ⟨ps, ps', c, _, nc, rfl⟩
  · exact e
  · rw [upd_ne (ne_of_none e nc), upd_ne n]
    exact e
section
variable {X : Cx} {pins : List (Addr × Obj)} {σ : L2.St} {H : Hp} {s : Shared}
abbrev lamQ (X : Cx) : Str := X.env.qual ++ "<lambda>"
abbrev lamO (X : Cx) (params : Arguments) (body : Expr) (scope : Scope) (pm : Value) (c : Addr) (ct : Value) : Obj := PySem.W.kla_obj "<lambda>" (lamQ X) params body scope (cloFrom X.env.cells scope.names []) pm c ct
theorem lam_made {P c : Addr} {params : Arguments} {body : Expr} {scope : Scope} {pos : Pos} {E : Value → Shared → Prop} {Q : Value → Shared → Prop} (I : Inv X pins σ H s) (tb : LamX.TabB X.base X.mg c P) (hc : X.env.code = .ref c) (tab : TabS H P (lamQ X))
    (hd : defaultsOf params X.env = ([], [])) (hf : ∀ y ∈ scope.names, y.2 = .free → ∃ c, X.env.cells.lookup y.1 = some c)
    (next : ∀ (f k : Addr) (pm ct : Value) (H1 : Hp) (s' : Shared), Inv X pins σ H1 s' → LamTo P (lamQ X) H H1 → TabS H1 P (lamQ X) → s'.heap.get? f = some (lamO X params body scope pm k ct) → H1 f = none → f ∉ frs X.stack → H1 k = some (CodeO k (lamQ X)) → Q (.ref f) s') :
    wpAny (model X.prog X.w) X.A (eval (.Lambda params body scope pos) X.env) Q E s := by
  obtain ⟨ps, eP, tri, among⟩ := tab
  have gP : s.heap.get? P = some { cls := .none, data := .fields ps } := I.hok P _ eP
  have far : ∀ f, s.heap.objs.size ≤ f → f ∉ frs X.stack := fun f le z => (List.mem_cons.mp (I.stkSub f z)).elim (fun e => by
    have l := I.lt
    rw [← e] at l
    exact Nat.lt_irrefl _ (Nat.lt_of_lt_of_le l le)) (I.nofs le)
  refine PySem.W.kla_eval hd ?_
  have bP : s.heap.BuiltinsAt X.mg P := tb.bm.keeps I.bk
  have clo := closure_ok hf
  have glob := I.mod.glob.keeps I.bk
  have cod := tb.code.keeps I.bk
  cases found : codeAmong pos ps.toList with
  | some cv =>
    obtain ⟨k, rfl, hk⟩ := among pos cv found
    exact PySem.W.kla_makeFunctionHit clo I.ok.glob glob hc cod gP tri found bP fun ct h' tk up le =>
      next _ k _ ct H _ (I.kept (t' := tk) fun b o e => Heap.get?_push_of_some _ (up b o e)) (.inl rfl) ⟨ps, eP, tri, among⟩ (Heap.get?_push_size _ rfl) (I.hok.fresh le) (far _ le) hk
  | none =>
    refine PySem.W.kla_makeFunction clo I.ok.glob glob hc cod gP tri found tb.gP bP fun k ct h' tk up ge lt rec there => ?_
    obtain ⟨k2, oc, vs, t, ek, g1, g2, g3⟩ := rec
    cases ek
    have le : s.heap.objs.size ≤ h'.objs.size := by omega
    have nk : H k = none := I.hok.fresh ge
    obtain ⟨ps', ep⟩ : ∃ ps', ps' = ps ++ #[rawInt pos.line, rawInt pos.col, .ref k] := ⟨_, rfl⟩
    have J := inv_table (t' := tk) (h' := h'.push (lamO X params body scope ((X.mg "__name__").getD .none) k ct)) I eP (fun b o n e => Heap.get?_push_of_some _ (up b o n e)) (Heap.get?_push_of_some _ there) ge ⟨oc, vs, t, Heap.get?_push_of_some _ g1, g2, g3⟩
    rw [← ep] at J
    have to : LamTo P (lamQ X) H _ := .inr ⟨ps, ps', k, eP, nk, rfl⟩
    have el : ps'.toList = ps.toList ++ [rawInt pos.line, rawInt pos.col, .ref k] := by rw [ep, Array.toList_append]
    refine next _ k _ ct _ _ J to ⟨ps', by rw [upd_ne (ne_of_none eP nk), upd_same], ?_, fun p cv hcv => ?_⟩ (Heap.get?_push_size _ rfl) ?_ (far _ le) upd_same
    · rw [el]
      exact PySem.TriplesOk_snoc _ _ _ _ tri
    · rw [el] at hcv
      rcases among_app ps.toList tri hcv with z | z
      · obtain ⟨k0, e1, e2⟩ := among p cv z
        have n0 : k0 ≠ P := fun y => by
          rw [y, eP] at e2
          exact codeO_ne _ (Option.some.inj e2).symm
        exact ⟨k0, e1, to.ext n0 e2⟩
      · exact ⟨k, z, upd_same⟩
    · rw [upd_ne (Nat.ne_of_gt lt), upd_ne (Nat.ne_of_gt (Nat.lt_of_lt_of_le (Heap.lt_size gP) le))]
      exact I.hok.fresh le
end
/-- x(lambda: ..) -/
def tLamX (P : Addr) (q : Str) (TT : (XK → Hp → VK → Prop) → Hp → VK → Prop) (t : XK → TE) : TE := fun σ H Q => TabS H P q ∧ ∀ H1, LamTo P q H H1 → TabS H1 P q → TT (fun E H' Q' => t E σ H' Q') H1 Q
section
variable {X : Cx} {TT : (XK → Hp → VK → Prop) → Hp → VK → Prop} {x a : Str} {g c P : Addr} {k : Nat} {fd : FuncData} {sg : Scope} {bg : List Stmt} {cdg : Value} {Ng : List Str} {params : Arguments} {body : Expr} {scope : Scope} {t : XK → TE} {p lpos pos : Pos}
theorem pe_lamX {st : Stmt} (D : At X.K X.mg x st [a] g fd) (hg : Gl X x) (hcd : fd.code = cdg) (Sg : FnScope Ng [a] (defScope st)) (hN : Ng[0]? = some a) (hva : Vis (defScope st) a)
    (hG : GivesTo X Ng x (defScope st) g cdg (defBody st) a (lamQ X) TT) (tb : LamX.TabB X.base X.mg c P) (hc : X.env.code = .ref c) (hr : Room (k + 2) X.A) (L : LamS X.env.scope scope) (hdef : defaultsOf params X.env = ([], []))
    (bind : ∀ (q : Str) (cl : List (Str × Addr)) (pm cv ct : Value), bindArgs (PySem.W.kla_fn "<lambda>" q params body scope cl pm cv ct) ⟨[], []⟩ = pure [])
    (hbody : ∀ (A : Around) (outer : List Env) (s : Shared) (H : Hp) (E : XK) (f k' : Addr), Room k (A.deeper (lamEnv X scope s.heap.objs.size f k')) → PE (lamCx X A outer s H E scope f k') body (t E))
    (hdb : (x == ("__debug__" : Str)) = false := by decide) (hd : (a == ("__debug__" : Str)) = false := by decide) (hcl : (a == ("__classdict__" : Str)) = false := by decide) :
    PE X (.Call (.Name x p) [.Lambda params body scope lpos] [] pos) (tLamX P (lamQ X) TT t) := by
  constructor
  rintro pins s σ H Q I ⟨tab, h⟩
  obtain ⟨oc, od, kV, doc, pm, an, cdv, ct, osl, rfl, lk, hcode⟩ := D.F.ex
  have ec : cdv = cdg := hcd
  subst ec
  refine wpAny_Call_Name_kw (ld_glob I hg D.g (PySem.W.callWith_K (h₀ := X.base) I.ok.mod.kin D.F.kp ?_ (by rfl) (by rfl)) hdb)
  show wpAny _ _ (spliced ((false, eval (.Lambda params body scope lpos) X.env) :: backTo pos (starEach [] X.env))) _ _ s
  refine Calls.spliced_cons (lam_made I tb hc tab hdef (L.has I.ok) fun f k' pm' ct' H1 s1 I1 to tab1 e1 e2 e3 e4 => Calls.spliced_nil ⟨I1.kIn, ?_⟩)
  refine wpAny_call (codeAny_mono (run_ofS (CX := C8.CX0) (E := C8.E0) (Q := Q) (us := [.ref f]) (vs := [.ref f]) lk hcode Sg hr I1.env0 (D.b s1 [.ref f] I1.kIn rfl) (.cons rfl .nil) rfl fun room => ?_) fun r s2 hq => ?_)
  · obtain ⟨t', ht, hq⟩ := hG f k' s1 H1 Q (fun E H' Q' => t E σ H' Q') (fun W pn xe E p1 p2 tk hW => pe_act (i := 0) I1 L e1 e2 e3 (bind _ _ _ _ _) tk hW room (fun A outer s H r2 => hbody A outer s H E f k' r2) hN hva hd hcl) e4 (h H1 to tab1)
    exact ⟨t', ht.nox, hq⟩
  · cases r with
    | error e => exact False.elim hq
    | ok fl => cases fl <;> first | exact I1.after hq | exact False.elim hq
end
end Zd
end

section
set_option maxHeartbeats 2000000
/-! x(lambda: f(..)), x telling what f's error has kept. -/
namespace Zd
open PySem PySem.Spec PyProof.Rows L2 Zc LamX
/-- told: try: return a() / except X as n: return [n.at] -/
def TTold (CE : Addr) : (XK → Hp → VK → Prop) → Hp → VK → Prop := fun tl H Q =>
  tl (fun cls d H' => cls = .ref CE ∧ ∃ (dd : Addr) (y : V), d = some dd ∧ H' dd = some (.xd [("at", y)]) ∧ ∀ p, H' p = none → Q (.ref p) (upd H' p (.lst [y]))) H Q
theorem takes_len {X : Cx} {W : WX} (t : L2.Takes X W) : L2.Takes X (fun cls d σ H => σ.length = X.N.length → W cls d σ H) := fun u s' ⟨a, B, sI, pins, σ, H, cls, d, e, I, nb, up, sky, na, os, ag, w⟩ =>
  t u s' ⟨a, B, sI, pins, σ, H, cls, d, e, I, nb, up, sky, na, os, ag, w I.len⟩
theorem told_at {X : Cx} {Ng : List Str} {x a e n q qual : Str} {st0 : Stmt} {sg : Scope} {g CE i0 : Addr} {fi : FuncData} {cdg : Value} {p1 p2 p3 p4 p5 p6 p7 p8 p9 p10 : Pos} (R : ErrC X.K X.mg e qual st0 CE i0 fi)
    (hge : sg.names.lookup e = some .globalImplicit) (hde : (e == ("__debug__" : Str)) = false) (nd : Ng.Nodup) (h1 : Ng[1]? = some n) (hl : sg.names.lookup n = some .local) (hdn : (n == ("__debug__" : Str)) = false) (hcn : (n == ("__classdict__" : Str)) = false)
    (hs : ∀ f : Addr, L2.start Ng [V.ref f] = [some (.ref f), none]) :
    GivesTo X Ng x sg g cdg [.Try [.Return (some (.Call (.Name a p1) [] [] p2)) p3] [.ExceptHandler (some (.Name e p4)) (some n) [.Return (some (.List [.Attribute (.Name n p5) "at" p6] p7)) p8] p9] [] [] p10] a q (TTold CE) := by
  intro f c' s H Q tl act hc h
  have hgl : Gl (cxOf C8.CX0 X.prog X.w X.K X.mg X.base Ng x sg g cdg X.A X.stack s H C8.E0).nox e := hge
  refine ⟨_, pss_one (L2.ps_try_as (X := (cxOf C8.CX0 X.prog X.w X.K X.mg X.base Ng x sg g cdg X.A X.stack s H C8.E0).nox) (i := 1) (c := .ref CE)
      (tb := fun W D σ H => ∃ Ech : XK, (∀ cls d σ' H', σ'.length = Ng.length → Ech cls d H' → W cls d σ' H') ∧ σ[0]? = some (some (.ref f)) ∧ H c' = some (CodeO c' q) ∧ tl Ech H D.rt)
      (ts := fun a cls d => tRet (tLst (tCons (tXf a cls d CE "at" (tVar 1)) tNil)))
      rfl rfl nd h1 hl ⟨hgl, hde, .inl R.g⟩ L2.takes0 (fun W pn xe tk _ => ?_) (fun a oe cls d pn hz hf => pss_one (ps_ret (pe_lst (pa_cons (pe_xf R.X R.no hz hf (pe_var h1 (.inl hl) hdn hcn)) pa_nil))))), ?_⟩
  · refine ⟨fun pins s' σ H' D I h' => ?_⟩
    obtain ⟨Ech, hW, h1, h2, h3⟩ := h'
    have hp := act (fun cls d σ H => σ.length = Ng.length → W cls d σ H) pn xe Ech p1 p2 (takes_len tk) fun cls d σ' H' e l => hW cls d σ' H' l e
    have hq := pss_one (ps_ret (pos := p3) hp)
    exact hq.run pins s' σ H' D I ⟨h1, h2, h3⟩
  · rw [hs]
    refine ⟨fun cls d H' => cls = .ref CE ∧ ∃ (dd : Addr) (y : V), d = some dd ∧ H' dd = some (.xd [("at", y)]) ∧ ∀ p, H' p = none → Q (.ref p) (upd H' p (.lst [y])), ?_, rfl, hc, h⟩
    rintro cls d σ' H' hlen ⟨rfl, dd, y, rfl, e1, e2⟩
    refine ⟨true, R.ex, fun _ a na => ?_, fun z => nomatch z⟩
    have l1 : 1 < σ'.length := by
      rw [hlen]
      exact (List.getElem?_eq_some_iff.mp h1).1
    refine ⟨.ref a, List.getElem?_set_self l1, rfl, rfl, dd, _, y, rfl, e1, rfl, ?_⟩
    exact ⟨(show (1 : Nat) ≤ sizeLine by decide), e2⟩
/-! ### by data -/
/-- what is heard -/
def hears (CE : Addr) (k : RD → SS → Prop) (S2 : SS) : XD → Prop
  | .at C d => C = CE ∧ k (.new (.lst [d])) S2
  | .bare _ => False
def kTold2 (CE : Addr) (n : Nat) (psp : PSp) (rev : Bool) (k : RD → SS → Prop) (as : List AD) (S2 : SS) : Prop := as.length = n ∧ as.all nl = true ∧ psp (if rev = true then as.reverse else as) (kCall3 k S2) (hears CE k S2)
def kTold1 (CE : Addr) (n : Nat) (psp : PSp) (rev : Bool) (k : RD → SS → Prop) (rs : List RD) (S1 : SS) : Prop := coA rs S1 (kTold2 CE n psp rev k)
def wTold (P : Addr) (q : Str) (CE : Addr) (n : Nat) (psp : PSp) (rev : Bool) (w : WA) : WE := fun S k => (∃ j : Nat, S.m[j]? = some (CD.tab P q)) ∧ w S (kTold1 CE n psp rev k)
theorem q_told {P : Addr} {q : Str} {CE : Addr} {n : Nat} {psp : PSp} {rev : Bool} {w : WA} {S : SS} {k : RD → SS → Prop} : wTold P q CE n psp rev w S k = ((∃ j : Nat, S.m[j]? = some (CD.tab P q)) ∧ w S (kTold1 CE n psp rev k)) := rfl
theorem q_callK {Ex : XD → Prop} {n : Nat} {psp : PSp} {w : WA} {S : SS} {k : RD → SS → Prop} : wCallK Ex n psp w S k = w S (kCallK1 Ex n psp k) := rfl
theorem e_hears {CE C : Addr} {k : RD → SS → Prop} {S : SS} {d : PyData} : hears CE k S (.at C d) = (C = CE ∧ k (.new (.lst [d])) S) := rfl
theorem zlamX {X : Cx} {e : Expr} {P : Addr} {q : Str} {TT : (XK → Hp → VK → Prop) → Hp → VK → Prop} {t : XK → TE} (h : PE X e (tLamX P (lamQ X) TT t)) (hq : lamQ X = q := by rfl) : PE X e (tLamX P q TT t) := hq ▸ h
section
variable {K : PySem.W.Frag} {TB : List Addr} {E : XK} {Ex : XD → Prop} {T T' T0 H H' H0 H1 : Hp} {ρ ρ' ρ0 β : List Addr} {S S' : SS} {σ : L2.St} {n j : Nat} {t : TA} {w : WA} {P CE : Addr} {q : Str} {psp : PSp}
/-- a lambda has been made -/
theorem Wd.lam (wd : Wd K TB S σ H ρ T) (hj : S.m[j]? = some (CD.tab P q)) (to : LamTo P q H H1) (tab : TabS H1 P q) : Wd K TB S σ H1 ρ T ∧ Stp ρ T H ρ T H1 := by
  obtain ⟨a, ea, rfl, tab0⟩ := wd.wm.cell hj
  have hP := tab0
  obtain ⟨ps, eP, _⟩ := hP
  have ma := List.mem_of_getElem? ea
  have cd : ∀ b c q', H b = some (CodeO c q') → H1 b = some (CodeO c q') := fun b c q' e => to.ext (fun z => by rw [z, eP] at e; exact codeO_ne _ (Option.some.inj e).symm) e
  have keep : ∀ b o, b ∉ ρ → H b = some o → H1 b = some o := fun b o nb e => to.ext (fun z => nb (z ▸ ma)) e
  have tP : T a = none := wd.wm.tn j _ a hj rfl ea
  refine ⟨⟨wd.sl, wd.wm.len, wd.wm.nd, fun k c b h e => ?_, fun b hb z => ?_, wd.wm.tn, wd.wm.dl, fun b o h => ?_, fun p hp => ⟨?_, (wd.wm.tb p hp).2⟩⟩, ⟨⟨[], by rw [List.append_nil], fun _ h => absurd h List.not_mem_nil⟩, .refl T, fun _ h => .inl h, keep, cd⟩⟩
  · by_cases z : k = j
    · subst z
      rw [hj] at h
      cases h
      rw [ea] at e
      cases e
      exact ⟨rfl, tab⟩
    · have nb : b ≠ a := nd_ne wd.wm.nd e ea z
      refine (wd.wm.ce k c b h e).go (.refl T) (fun _ _ z => z) (fun o g => to.ext nb g) (fun l b' hc eb' o g => to.ext ?_ g) cd
      subst hc
      have hl := wd.wm.dl k l h
      exact nd_ne wd.wm.nd eb' ea fun y => by
        subst y
        rw [hj] at hl
        cases hl
  · by_cases e : b = a
    · obtain ⟨ps1, e1, _⟩ := tab
      rw [e, e1] at z
      cases z
    · cases g : H b with
      | none => exact wd.lv b hb g
      | some o => rw [to.ext e g] at z; cases z
  · exact to.ext (fun z => by rw [z, tP] at h; cases h) (wd.wm.sT _ _ h)
  · exact to.ext (fun z => (wd.wm.tb p hp).2 (z ▸ ma)) (wd.wm.tb p hp).1
theorem told_run {Q : VK} {k : RD → SS → Prop} {rev : Bool} [hA : DAc K TB E Ex t w] (wd : Wd K TB S σ H ρ T) (rx : Rx K E Ex ρ T H) (h : w S (kTold1 CE n psp rev k))
    (fin : ∀ r S' H' ρ' T' v, Wd K TB S' σ H' ρ' T' → Stp ρ T H ρ' T' H' → RR K T' ρ' H' H r v → k r S' → Q v H') : t σ H fun zs H1 => spP K TB n psp (if rev = true then zs.reverse else zs) H1 Q
      (fun cls d H' => cls = .ref CE ∧ ∃ (dd : Addr) (y : V), d = some dd ∧ H' dd = some (.xd [("at", y)]) ∧ ∀ p, H' p = none → Q (.ref p) (upd H' p (.lst [y]))) := by
  refine hA.run S σ H ρ T _ _ wd rx h fun rs S1 H1 ρ1 T1 vs w1 s1 r1 h1 => ?_
  obtain ⟨as, S2, T2, w2, f2, d2, hl, hn, hp⟩ := coA_run w1 r1 h1
  have s2 := s1.fz f2
  refine ⟨if rev = true then as.reverse else as, [], T2, fun r => k r S2, hears CE k S2, ?_, ?_, w2.wm.empty, hp, ⟨fun C d H' ρ' T' dx v st lv sT n0 e dv hx => ?_, fun C H' ρ' T' st lv sT hx => hx.elim⟩, fun r H' T' v fl wm s hr hk => ?_⟩
  · cases rev with
    | true => rw [if_pos rfl, List.length_reverse]; exact hl
    | false => rw [if_neg Bool.false_ne_true]; exact hl
  · cases rev with
    | true => rw [if_pos rfl, if_pos rfl]; exact (d2.nl hn).rev
    | false => rw [if_neg Bool.false_ne_true, if_neg Bool.false_ne_true]; exact d2.nl hn
  · obtain ⟨rfl, hk⟩ := hx
    refine ⟨rfl, dx, v, rfl, e, fun p np => ?_⟩
    have st0 : Stp [] T2 H1 [] T' H' := by
      have := st.cut (n := 0) (Nat.le_refl 0)
      rwa [List.take_zero] at this
    have wm : Wm K TB [] H' [] T' := ⟨rfl, .nil, fun k c a h => (by cases h), fun a ha => absurd ha List.not_mem_nil, fun k c a h => (by cases h), fun k l h => (by cases h), sT, fun P hP => ⟨st0.hh _ _ List.not_mem_nil (w2.wm.tb P hP).1, List.not_mem_nil⟩⟩
    obtain ⟨w3, s3⟩ := w2.after wm st0
    have s03 := s2.trans s3 w2.lv
    obtain ⟨w4, s4, r4⟩ := lst_new (H0 := H) w3 (DvA.one dv) np (fun b z => s03.ne w3.lv z)
    exact fin _ S2 _ ρ1 T' _ w4 (s03.trans s4 w3.lv) r4 hk
  · obtain ⟨w3, s3⟩ := w2.after wm s
    exact fin r S2 H' ρ1 T' v w3 (s2.trans s3 w2.lv) ((hr.out fl w2.lv).older fun b z => s2.ne w2.lv z) hk
instance [hA : DAc K TB E Ex t w] : DEc K TB E Ex (tLamX P q (TTold CE) (fun E' => L2.tCallK (toSp K TB [] n psp) revK E' tNil t)) (wTold P q CE n psp true w) where
  run := fun S σ H ρ T Q k wd rx ⟨⟨j, hj⟩, h⟩ fin => by
    obtain ⟨a, ea, rfl, tab⟩ := wd.wm.cell hj
    refine ⟨tab, fun H1 to tab1 => ?_⟩
    obtain ⟨w1, s1⟩ := wd.lam hj to tab1
    exact told_run (rev := true) w1 (rx.go s1 w1.lv) h fun r S' H' ρ' T' v w2 s2 r2 hk => fin r S' H' ρ' T' v w2 (s1.trans s2 w1.lv) (r2.older fun b z => s1.ne w1.lv z) hk
instance [hA : DAc K TB E Ex t w] : DEc K TB E Ex (tLamX P q (TTold CE) (fun E' => tCall (toSp K TB [] n psp) [] E' t)) (wTold P q CE n psp false w) where
  run := fun S σ H ρ T Q k wd rx ⟨⟨j, hj⟩, h⟩ fin => by
    obtain ⟨a, ea, rfl, tab⟩ := wd.wm.cell hj
    refine ⟨tab, fun H1 to tab1 => ?_⟩
    obtain ⟨w1, s1⟩ := wd.lam hj to tab1
    have := told_run (rev := false) (t := t) w1 (rx.go s1 w1.lv) h fun r S' H' ρ' T' v w2 s2 r2 hk => fin r S' H' ρ' T' v w2 (s1.trans s2 w1.lv) (r2.older fun b z => s1.ne w1.lv z) hk
    show t σ H1 fun vs H2 => toSp K TB [] n psp (vs ++ []) H2 Q _
    refine Eq.mp ?_ this
    congr 1
    funext vs H2
    rw [List.append_nil]
    rfl
end
end Zd
end

section
set_option maxHeartbeats 4000000
/-! A law's end where it hands lambdas out beside generator expressions. -/
namespace Zd
open PySem PySem.Spec PyProof.Rows L2 Zc
/-- the lambdas' tables are empty yet -/
def Lams (ls : List (Addr × Addr)) (H : Hp) : Prop := ∀ p ∈ ls, H p.2 = some (.tbl #[])
/-- the heap at the law's entry -/
def hpL (cs ls : List (Addr × Addr)) (a : Option (Addr × HO)) : Hp := fun b =>
  if b ∈ cs.map (·.2) then some (tabX b) else if b ∈ ls.map (·.2) then some (.tbl #[]) else match a with
    | some q => if b = q.1 then some q.2 else none
    | none => none
theorem hpL_tab {cs ls : List (Addr × Addr)} {a : Option (Addr × HO)} : Tabs cs (hpL cs ls a) := fun p hp => if_pos (List.mem_map.mpr ⟨p, hp, rfl⟩)
theorem hpL_lam {cs ls : List (Addr × Addr)} {a : Option (Addr × HO)} (dis : ∀ p ∈ ls, p.2 ∉ cs.map (·.2)) : Lams ls (hpL cs ls a) := fun p hp => (if_neg (dis p hp)).trans (if_pos (List.mem_map.mpr ⟨p, hp, rfl⟩))
theorem hpL_in {cs ls : List (Addr × Addr)} {a : Option (Addr × HO)} {b : Addr} (hb : b ∈ cs.map (·.2)) : hpL cs ls a b = some (tabX b) := if_pos hb
theorem hpL_inl {cs ls : List (Addr × Addr)} {a : Option (Addr × HO)} {b : Addr} (nb : b ∉ cs.map (·.2)) (hb : b ∈ ls.map (·.2)) : hpL cs ls a b = some (.tbl #[]) := (if_neg nb).trans (if_pos hb)
theorem hpL_out {cs ls : List (Addr × Addr)} {b : Addr} (hb : b ∉ cs.map (·.2)) (hl : b ∉ ls.map (·.2)) : hpL cs ls none b = none := (if_neg hb).trans (if_neg hl)
theorem hpL_at {cs ls : List (Addr × Addr)} {q : Addr × HO} (hb : q.1 ∉ cs.map (·.2)) (hl : q.1 ∉ ls.map (·.2)) : hpL cs ls (some q) q.1 = some q.2 := (if_neg hb).trans ((if_neg hl).trans (if_pos rfl))
theorem hpL_else {cs ls : List (Addr × Addr)} {q : Addr × HO} {b : Addr} (hb : b ∉ cs.map (·.2)) (hl : b ∉ ls.map (·.2)) (hq : b ≠ q.1) : hpL cs ls (some q) b = none := (if_neg hb).trans ((if_neg hl).trans (if_neg hq))
section
variable {P : Program} {w : World} {K : PySem.W.Frag} {mg : Str → Option Value}
theorem callGTL {mb : Str → Option Value} {k : Nat} {fa a : Addr} {fd : FuncData} {x : Str} {sp : Sp} {cs ls : List (Addr × Addr)}
    {s₁ : Shared} {vs : List Value} {ns : List Int}
    (KX : K.In s₁.heap) (gl : s₁.heap.Ns mainGlobals mg) (bn : s₁.heap.Ns builtinsNs mb)
    (bb : ∀ x : Str, x ≠ "__name__" → mb x = bootBuiltins x)
    (lim : s₁.heap.NoLimit) (gens : s₁.gens = #[])
    (tabs : ∀ p ∈ cs ++ ls, s₁.heap.get? p.2 = some { cls := .none, data := .fields #[] } ∧ K.lookup p.2 = none ∧ PySem.W.CodeHd s₁.heap p.1 p.2)
    (dis : ∀ p ∈ ls, p.2 ∉ cs.map (·.2))
    (main_ : ∃ (bm : Addr) (ob : Obj), mg "__builtins__" = some (.ref bm) ∧ bm ≠ builtinsNs ∧ s₁.heap.get? bm = some ob ∧ ob.cls = .type "module" ∧ ob.dict = some builtinsNs ∧ ob.data = .plain)
    (ha : s₁.heap.get? a = some { cls := .type "list", data := .seq vs.toArray })
    (hi : IntsAre vs ns) (hl : ns.length ≤ sizeLine) (hr : Room k callerA)
    (F : ∀ base : Heap, K.In base → base.Ns mainGlobals mg → (∀ p ∈ cs, GxR.TabB base mg p.1 p.2) → (∀ p ∈ ls, LamX.TabB base mg p.1 p.2) → FnG P w K mg base k fa fd [x] sp)
    (bind : ∀ (s : Shared) (u : Value), BindsTo s fd ⟨[u], []⟩ [(x, u)])
    (hsp : ∀ H : Hp, Tabs cs H → Lams ls H → SqL K H a (ns.map V.int) → sp [.ref a] H (fun v H' => v = .bl true ∧ Tabs cs H') fun _ _ _ => False) :
    codeAny (model P w) callerA (.call (.ref fa) ⟨[.ref a], []⟩)
      (fun r s' => r = .ok (.ret (.bool true)) ∧ OldK s₁.heap s'.heap ∧ s'.os = s₁.os ∧ AllBare s'.gens) s₁ := by
  have rv := vals_ints hi
  have lv := hi.length
  have tabAt : ∀ b ∈ (cs ++ ls).map (·.2), s₁.heap.get? b = some { cls := .none, data := .fields #[] } := fun b hb =>
    (List.mem_map.mp hb).elim fun p q => by
      rw [← q.2]
      exact (tabs p q.1).1
  have split2 : ∀ {b : Addr}, b ∈ (cs ++ ls).map (·.2) ↔ b ∈ cs.map (·.2) ∨ b ∈ ls.map (·.2) := fun {b} => by
    rw [List.map_append, List.mem_append]
  have aOut : a ∉ (cs ++ ls).map (·.2) := fun z => by
    have e := tabAt a z
    rw [ha] at e
    have d : Data.seq vs.toArray 0 = Data.fields #[] := congrArg Obj.data (Option.some.inj e)
    exact Data.noConfusion d
  have aOut1 : a ∉ cs.map (·.2) := fun z => aOut (split2.mpr (.inl z))
  have aOut2 : a ∉ ls.map (·.2) := fun z => aOut (split2.mpr (.inr z))
  -- what is tracked at the entry is the script or a table
  have run : ∀ H : Hp, (∀ b, H b ≠ none → b = a ∨ b ∈ (cs ++ ls).map (·.2)) → (∀ b u, H b = some u → b ∉ (cs ++ ls).map (·.2) → ∃ o xs, u = .frz o (.lst xs)) → Tabs cs H → Lams ls H → SqL K H a (ns.map V.int) →
      HOk P w H s₁.heap → (H a ≠ none → K.lookup a = none) →
      codeAny (model P w) callerA (.call (.ref fa) ⟨[.ref a], []⟩)
        (fun r s' => r = .ok (.ret (.bool true)) ∧ OldK s₁.heap s'.heap ∧ s'.os = s₁.os ∧ AllBare s'.gens) s₁ := by
    intro H only frozen hT hL hS ok away
    -- an object that is neither a list nor an empty table is not tracked
    have offT : ∀ {b : Addr} {o : Obj}, s₁.heap.get? b = some o → (∀ us n, o.data ≠ .seq us n) → o.data ≠ .fields #[] → H b = none := fun {b o} e n1 n2 => by
      cases q : H b with
      | none => rfl
      | some u =>
        exfalso
        rcases only b (by rw [q]; intro z; cases z) with z | z
        · rw [z, ha] at e
          exact n1 vs.toArray 0 (by rw [← Option.some.inj e])
        · rw [tabAt b z] at e
          exact n2 (by rw [← Option.some.inj e])
    have dictOff : ∀ {b : Addr} {o : Obj} {es : Array DictEntry} {ep : Nat}, s₁.heap.get? b = some o → o.data = .dict es ep → H b = none := fun {b o es ep} e d =>
      offT e (fun us n z => by rw [d] at z; exact Data.noConfusion z) (fun z => by rw [d] at z; exact Data.noConfusion z)
    have nsHid : ∀ {b : Addr} {m : Str → Option Value}, s₁.heap.Ns b m → (hidT s₁.heap H).Ns b m := by
      rintro b m ⟨o, es, ep, e, d, r⟩
      exact ⟨o, es, ep, hidT_get e (dictOff e d), d, r⟩
    have kinHid : K.In (hidT s₁.heap H) := by
      intro b o e
      refine hidT_get (KX b o e) ?_
      cases q : H b with
      | none => rfl
      | some u =>
        exfalso
        have nn : H b ≠ none := by rw [q]; intro z; cases z
        rcases only b nn with z | z
        · rw [z] at e nn
          rw [away nn] at e
          cases e
        · obtain ⟨p, hp, ep⟩ := List.mem_map.mp z
          rw [← ep, (tabs p hp).2.1] at e
          cases e
    have md : Mod K mg (hidT s₁.heap H) := by
      refine ⟨kinHid, nsHid gl, ⟨mb, nsHid bn, bb⟩, ?_⟩
      obtain ⟨mc, h1, h2⟩ := lim
      exact ⟨mc, nsHid h1, h2⟩
    have tb : ∀ p ∈ cs ++ ls, GxR.TabB (hidT s₁.heap H) mg p.1 p.2 := by
      intro p hp
      obtain ⟨t1, t2, t3⟩ := tabs p hp
      refine ⟨?_, ?_, fun z => ?_⟩
      · obtain ⟨o, us, f1, f2, f3, f4, f5, f6, f7, c1, c2, c3, c4, c5⟩ := t3
        refine ⟨o, us, f1, f2, f3, f4, f5, f6, f7, hidT_get c1 (offT c1 (fun xs n z => ?_) fun z => ?_), c2, c3, c4, c5⟩
        · rw [c3] at z
          exact Data.noConfusion z
        · rw [c3] at z
          have z2 : us = #[] := Data.fields.inj z
          rw [z2] at c4
          simp at c4
      · obtain ⟨bm, ob, b1, b2, b3, b4, b5, b6⟩ := main_
        refine ⟨bm, ob, b1, b2, fun z => ?_, fun z => ?_, hidT_get b3 (offT b3 (fun xs n z => ?_) fun z => ?_), b4, b5, b6⟩
        · obtain ⟨o, es, ep, e, d, _⟩ := gl
          rw [z, e] at b3
          rw [← Option.some.inj b3, d] at b6
          exact Data.noConfusion b6
        · rw [z, t1] at b3
          rw [← Option.some.inj b3] at b6
          exact Data.noConfusion b6
        · rw [b6] at z
          exact Data.noConfusion z
        · rw [b6] at z
          exact Data.noConfusion z
      · obtain ⟨o, es, ep, e, d, _⟩ := gl
        rw [z, t1] at e
        rw [← Option.some.inj e] at d
        exact Data.noConfusion d
    have e0 : Env0 P w K mg (hidT s₁.heap H) callerA [] s₁ H := by
      refine ⟨rfl, md, fun b o e => of_hidT e, Nat.le_of_eq (hidT_size _ _), trivial, ?_, ok, .of_eq gens⟩
      intro b hb
      exact absurd (show b ∈ ([] : List Addr) from hb) List.not_mem_nil
    have done := (F _ kinHid (nsHid gl) (fun p hp => tb p (List.mem_append_left _ hp)) (fun p hp => ⟨(tb p (List.mem_append_right _ hp)).code, (tb p (List.mem_append_right _ hp)).bm, (tb p (List.mem_append_right _ hp)).gP⟩)).run callerA [] s₁ H ⟨[.ref a], []⟩ [.ref a] [.ref a] _ _ hr rfl e0 (bind s₁ (.ref a)) (.cons rfl .nil) (hsp H hT hL hS)
    refine codeAny_mono done ?_
    intro r s' h
    match r, h with
    | .error e, h => exact False.elim h
    | .ok .next, h => exact False.elim h
    | .ok .brk, h => exact False.elim h
    | .ok .cont, h => exact False.elim h
    | .ok (.ret u), h =>
      obtain ⟨v, H', os, bare, un, ok', r', hv, hT'⟩ := h
      subst hv
      have r2 : u = Value.bool true := r'
      subst r2
      have grown : ∀ b ∈ (cs ++ ls).map (·.2), ∃ more : Array Value, s'.heap.get? b = some { cls := .none, data := .fields more } := fun b hb =>
        (List.mem_map.mp hb).elim fun p q => by
          rw [← q.2]
          rcases List.mem_append.mp q.1 with z | z
          · obtain ⟨⟨more, em, _⟩, _⟩ := ok' p.2 _ (hT' p z)
            exact ⟨more, em⟩
          · obtain ⟨more, em⟩ := un.tbls p.2 #[] (hL p z)
            exact ⟨_, ok' p.2 _ em⟩
      have stays : ∀ b o, b ∉ (cs ++ ls).map (·.2) → s₁.heap.get? b = some o → s'.heap.get? b = some o := by
        intro b o nb e
        match q : H b with
        | none => exact un.keep b o e q (fun z => absurd (show b ∈ ([] : List Addr) from z) List.not_mem_nil) List.not_mem_nil
        | some u =>
          obtain ⟨ob, xs, rfl⟩ := frozen b u q nb
          obtain ⟨g1, _⟩ := ok b _ q
          obtain ⟨g2, _⟩ := ok' b _ (un.frzs b ob _ q)
          rw [e] at g1
          rw [Option.some.inj g1]
          exact g2
      refine ⟨rfl, ⟨fun b o e => ?_, fun b o e => ?_⟩, os, bare⟩
      · by_cases hb : b ∈ (cs ++ ls).map (·.2)
        · obtain ⟨more, hm⟩ := grown b hb
          obtain ⟨p, hp, ep⟩ := List.mem_map.mp hb
          obtain ⟨t1, _, t3⟩ := tabs p hp
          rw [tabAt b hb] at e
          rw [← Option.some.inj e]
          refine .inr (.inl ⟨?_, rfl, #[], more, rfl, by rw [Array.empty_append]; exact hm⟩)
          rw [← ep]
          exact (t3.tab t1).isCodeTable
        · exact .inl (stays b o hb e)
      · by_cases hb : b ∈ (cs ++ ls).map (·.2)
        · exact (grown b hb).elim fun more hm => ⟨_, hm⟩
        · exact ⟨o, stays b o hb e⟩
  have tabOk : ∀ {H : Hp} (b : Addr), b ∈ (cs ++ ls).map (·.2) → ObjOk P w H s₁.heap b (tabX b) := fun b hb => ⟨⟨#[], tabAt b hb, trivial⟩, ⟨_, tabAt b hb⟩, tabφ_stay⟩
  match hk : K.lookup a with
  | some o =>
    have e := KX a o hk
    rw [ha] at e
    have e' := Option.some.inj e
    subst e'
    refine run (hpL cs ls none) (fun b hb => ?_) (fun b u hu nb => ?_) hpL_tab (hpL_lam dis) ?_ (fun b u hu => ?_) (fun z => ?_)
    · exact (Classical.em (b ∈ (cs ++ ls).map (·.2))).elim .inr fun nb => absurd (hpL_out (fun z => nb (split2.mpr (.inl z))) (fun z => nb (split2.mpr (.inr z)))) hb
    · rw [hpL_out (fun z => nb (split2.mpr (.inl z))) (fun z => nb (split2.mpr (.inr z)))] at hu
      cases hu
    · exact Or.inr ⟨_, vs.toArray, _, hk, rfl, rfl, rfl, by rw [List.size_toArray, lv]; exact hl, by simpa using rv⟩
    · by_cases hb : b ∈ cs.map (·.2)
      · rw [hpL_in hb] at hu
        rw [← Option.some.inj hu]
        exact tabOk b (split2.mpr (.inl hb))
      · by_cases hb2 : b ∈ ls.map (·.2)
        · rw [hpL_inl hb hb2] at hu
          rw [← Option.some.inj hu]
          exact tabAt b (split2.mpr (.inr hb2))
        · rw [hpL_out hb hb2] at hu
          cases hu
    · exact absurd (hpL_out aOut1 aOut2) z
  | none =>
    refine run (hpL cs ls (some (a, .frz { cls := .type "list", data := .seq vs.toArray } (.lst (ns.map V.int))))) (fun b hb => ?_) (fun b u hu nb => ?_) hpL_tab (hpL_lam dis) ?_ (fun b u hu => ?_) (fun _ => hk)
    · by_cases nb : b ∈ (cs ++ ls).map (·.2)
      · exact .inr nb
      · by_cases ba : b = a
        · exact .inl ba
        · exact absurd (hpL_else (fun z => nb (split2.mpr (.inl z))) (fun z => nb (split2.mpr (.inr z))) ba) hb
    · by_cases ba : b = a
      · subst ba
        rw [hpL_at (q := (b, _)) aOut1 aOut2] at hu
        exact ⟨_, _, (Option.some.inj hu).symm⟩
      · rw [hpL_else (fun z => nb (split2.mpr (.inl z))) (fun z => nb (split2.mpr (.inr z))) ba] at hu
        cases hu
    · exact Or.inl (Or.inr ⟨_, hpL_at (q := (a, _)) aOut1 aOut2⟩)
    · by_cases nb : b ∈ cs.map (·.2)
      · rw [hpL_in nb] at hu
        rw [← Option.some.inj hu]
        exact tabOk b (split2.mpr (.inl nb))
      · by_cases nb2 : b ∈ ls.map (·.2)
        · rw [hpL_inl nb nb2] at hu
          rw [← Option.some.inj hu]
          exact tabAt b (split2.mpr (.inr nb2))
        · by_cases ba : b = a
          · subst ba
            rw [hpL_at (q := (b, _)) nb nb2] at hu
            rw [← Option.some.inj hu]
            refine ⟨ha, ?_, vs, _, rv, ha⟩
            rw [List.length_map]
            exact hl
          · rw [hpL_else nb nb2 ba] at hu
            cases hu
end
/-- the goal that the head leaves -/
theorem walkGTL {l : PySem.W.OpenLaw} {n k : Nat} {q : Program} {loose : List Str}
    {XP : (Str → Option Value) → Heap → Prop} {YP : World → Heap → Prop} {d : DefRec}
    {K : Params → PySem.W.Frag} {x : Str} (xs : List Str)
    (hn : l.most = some n) (hn2 : n ≤ sizeLine) (hdf : d.params.defaults = []) (hr : Room k callerA)
    (hY : ∀ (w : World) (h : Heap), YP w h → (K w.params).In h) (hx : (xs.all fun y => (recsOf q).any fun r => r.name == y) = true)
    (F : ∀ (w : World) (mg : Str → Option Value) (fa : Addr) (h : Heap), (K w.params).In h → h.Ns mainGlobals mg →
      mg d.name = some (.ref fa) → (∀ y ∈ xs, OwnT (K w.params) mg h y) →
      ∃ (fd : FuncData) (cs ls : List (Addr × Addr)) (sp : Sp), (∀ p ∈ cs ++ ls, h.get? p.2 = some { cls := .none, data := .fields #[] } ∧ (K w.params).lookup p.2 = none ∧ PySem.W.CodeHd h p.1 p.2) ∧ (∀ p ∈ ls, p.2 ∉ cs.map (·.2)) ∧
        (∀ (s : Shared) (u : Value), BindsTo s fd ⟨[u], []⟩ [(x, u)]) ∧
        (∀ base : Heap, (K w.params).In base → base.Ns mainGlobals mg → (∀ p ∈ cs, GxR.TabB base mg p.1 p.2) → (∀ p ∈ ls, LamX.TabB base mg p.1 p.2) → FnG l.prog w (K w.params) mg base k fa fd [x] sp) ∧
        (∀ (H : Hp) (a : Addr) (ns : List Int), ns.length ≤ n → Tabs cs H → Lams ls H → SqL (K w.params) H a (ns.map V.int) → sp [.ref a] H (fun v H' => v = .bl true ∧ Tabs cs H') fun _ _ _ => False)) :
    PySem.W.WalkO q loose XP YP l.row.toRowW d [] (fun f vs => PySem.call f vs) := by
  apply Att.attach_call hn hdf
  intro w s₀ s₁ mg mb fa o pm cd doc a vs ns G Y ho hd hcd hmg hobj hints hlen hg
  have kx := hY w _ Y
  have own : ∀ y ∈ xs, OwnT (K w.params) mg s₁.heap y := by
    intro y hy f c p fo co fd us e1 e2 e3 e4 e5 e6 e7
    obtain ⟨r, hr1, hr2⟩ := List.any_eq_true.mp (List.all_eq_true.mp hx y hy)
    obtain ⟨f', o', fd', c', p', t1, t2, t3, t4, t5, t6⟩ := G.T.tab r hr1
    rw [beq_iff_eq.mp hr2, e1] at t1
    have ef : f' = f := (Value.ref.inj (Option.some.inj t1)).symm
    subst ef
    rw [kx _ _ e2] at t2
    have eo : o' = fo := (Option.some.inj t2).symm
    subst eo
    rw [e3] at t3
    have efd : fd' = fd := (Data.func.inj t3).symm
    subst efd
    rw [e4] at t4
    have ec : c' = c := (Value.ref.inj t4).symm
    subst ec
    have hd2 := PySem.W.CodeHd.of t5 t6
    obtain ⟨⟨oc, uc, g1, _, g3, g4⟩, g5⟩ := t6
    rw [kx _ _ e5] at g1
    have eco : oc = co := (Option.some.inj g1).symm
    subst eco
    rw [e6] at g3
    have eus : uc = us := (Data.fields.inj g3).symm
    subst eus
    rw [e7] at g4
    have epp : p' = p := (Value.ref.inj (Option.some.inj g4)).symm
    subst epp
    exact ⟨g5, hd2⟩
  obtain ⟨fd, cs, ls, sp, hT, hdis, hb, hF, hsp⟩ := F w mg fa _ kx G.T.g hmg own
  exact callGTL kx G.T.g G.T.b G.T.builtins G.T.nolimit hg hT hdis G.T.bmain hobj hints (Nat.le_trans hlen hn2) hr hF hb (fun H hH hL hS => hsp H a ns hlen hH hL hS)
section
variable {P : Program} {w : World} {K : PySem.W.Frag} {mg : Str → Option Value} {base : Heap}
/-- a def where nothing is being shown, whose code object is known -/
theorem fnG_okC {x qual : Str} {st : Stmt} {f c : Addr} {fd : FuncData} {N ps : List Str} {k : Nat} {sp : Sp}
    (F : Fun K x qual st f fd) (hc : fd.code = .ref c) (S : FnScope N ps (defScope st))
    (len : ∀ vs H Q E, sp vs H Q E → vs.length = ps.length)
    (body : ∀ (A : Around) (outer : List Env) (s : Shared) (H : Hp) (vs : List V) (Q : VK) (E : XK),
      Room k (A.deeper (envOfC qual (defScope st) s.heap.objs.size f (.ref c))) → A.guards = some [] → sp vs H Q E →
      ∃ t, PSs (cxOf CX0 P w K mg base N qual (defScope st) f (.ref c) A outer s H E).nox (defBody st) t ∧
        t { nx := fun _ H' => Q .non H', rt := Q } (L2.start N vs) H) :
    FnG P w K mg base (k + 1) f fd ps sp := by
  obtain ⟨oc, od, kV, doc, pm, an, cdv, ct, osl, rfl, lk, hcd⟩ := F.ex
  have e : cdv = .ref c := hc
  subst e
  constructor
  · exact len
  intro A outer s H args us vs Q E hr hg e0 hb r hsp
  have l0 := len _ _ _ _ hsp
  have kin : K.In s.heap := e0.mod.kin.keeps fun b o e => (e0.bs b o e).1
  have nolim : s.heap.NoLimit := e0.mod.nolimit.keeps fun b o e => (e0.bs b o e).1
  have kinds : ∀ y ∈ ps.zip us, (defScope st).names.lookup y.1 = some .local ∨
      ((defScope st).names.lookup y.1 = some .cell ∧
        ((cellsFrom (s.heap.objs.size + 1) (defScope st).names []).lookup y.1).isSome = true) := by
    rintro ⟨n, v⟩ hy
    cases S.par n (List.of_mem_zip hy).1 with
    | inl q => exact Or.inl q
    | inr q => exact Or.inr ⟨q, PySem.W.cellsFrom_some _ _ _ (Or.inl q)⟩
  apply codeAny_call_function hr.depth (kin _ _ lk) rfl S.co S.gen rfl (PySem.W.codeRec_of kin hcd)
    (hb _ _ _ _ ?_)
  apply wpAny_newFunctionEnv_cells S.kind kinds
  intro env he s1 x
  subst he
  refine And.intro (nolim.keeps x.toInCall.keep) (codeAny_func ?_)
  obtain ⟨t, ht, hq⟩ := body A outer s H vs Q E (hr.deeper _) hg hsp
  have J : Inv (cxOf CX0 P w K mg base N qual (defScope st) f (.ref c) A outer s H E) [] (L2.start N vs) H s1 :=
    inv_start S hr.hd e0 l0 r x
  apply wpAny_mono (ht.nox.run [] s1 (L2.start N vs) H _ J hq)
  · intro fl s' hs
    have fin : ∀ {σ' : L2.St} {H' : Hp} {v : V} {u : Value},
        Inv (cxOf CX0 P w K mg base N qual (defScope st) f (.ref c) A outer s H E) [] σ' H' s' →
        RelV v u → Q v H' → CE outer P w H s Q u s' := by
      intro σ' H' v u J' rv q
      exact ⟨v, H', J'.os, J'.bare, J'.base, J'.hok, rv, q⟩
    match fl, hs with
    | .ret u, hs =>
      obtain ⟨v, σ', H', J', rv, q⟩ := hs
      exact fin J' rv q
    | .next, hs =>
      obtain ⟨σ', H', J', q⟩ := hs
      exact fin (v := V.non) (u := Value.none) J' rfl q
    | .brk, hs =>
      obtain ⟨_, _, _, q⟩ := hs
      exact q.elim
    | .cont, hs =>
      obtain ⟨_, _, _, q⟩ := hs
      exact q.elim
  · intro e s' hs
    exact hs
/-- what a law promises -/
def spLawL (K : PySem.W.Frag) (cs ls : List (Addr × Addr)) : Sp := fun vs H Q _ => ∃ (a : Addr) (ns : List Int), vs = [.ref a] ∧ Tabs cs H ∧ Lams ls H ∧ SqL K H a (ns.map V.int) ∧ ns.length ≤ 63 ∧ ∀ H', Tabs cs H' → Q (.bl true) H'
def isYes : RD → Prop
  | .ad (.dat (.bool true)) => True
  | _ => False
def lawW (n : Nat) : WD where
  n := n
  nx := fun _ => False
  rt := fun r _ => isYes r
  bk := fun _ => False
  ct := fun _ => False
theorem fnLaw {x qual qn : Str} {st : Stmt} {f c : Addr} {fd : FuncData} {N : List Str} {k : Nat} {cs ls : List (Addr × Addr)} {TB : List Addr} (eTB : TB = cs.map (·.2)) (F : Fun K x qual st f fd) (hc : fd.code = .ref c) (S : FnScope N ["script"] (defScope st))
    (hN : 2 ≤ N.length) (nd : (ls.map (·.2)).Nodup) (dis : ∀ p ∈ ls, p.2 ∉ cs.map (·.2))
    (body : ∀ (A : Around) (outer : List Env) (s : Shared) (H : Hp) (E : XK), Room k (A.deeper (envOfC qual (defScope st) s.heap.objs.size f (.ref c))) → A.guards = some [] →
      ∃ (us : TS) (w' : WS) (z : Int), PSs (cxOf CX0 P w K mg base N qual (defScope st) f (.ref c) A outer s H E).nox (defBody st) (tSeq (tAsg (tCall (spDraw K) [] E0 (tCons (tVar 0) (tCons (tC (.int z)) tNil))) (gName 1)) us) ∧ 0 ≤ z ∧ z ≤ 100 ∧
        DSc K TB E0 (fun _ => False) us w' ∧ w' (lawW (2 + ls.length)) ⟨.un :: .loc 0 :: List.replicate (N.length - 2) .un, dealB ++ ls.map fun p => .tab p.2 qn⟩) :
    FnG P w K mg base (k + 1) f fd ["script"] (spLawL K cs ls) := by
  subst eTB
  refine fnG_okC F hc S (fun vs H Q E h => by obtain ⟨a, ns, rfl, _⟩ := h; rfl) fun A outer s H vs Q E hr hg h => ?_
  obtain ⟨a, ns, rfl, hT, hL, hS, hl, q⟩ := h
  obtain ⟨us, w', z, ht, z0, z1, hd, hw⟩ := body A outer s H E hr hg
  refine ⟨_, ht, ?_⟩
  refine ⟨.ref a, rfl, ?_⟩
  refine ⟨a, ns, z, rfl, hS, hl, z0, z1, fun d l H' nd0 nl0 hD sm => ?_⟩
  have ndl : d ≠ l := by obtain ⟨_, _, z, _⟩ := hD; exact z
  have lvd : ∃ o, H' d = some o := by obtain ⟨_, _, _, z, _⟩ := hD; exact ⟨_, z⟩
  have lvl : ∃ o, H' l = some o := by obtain ⟨_, _, _, _, z, _⟩ := hD; exact ⟨_, z⟩
  have offL : ∀ b, H b = none → b ∉ ls.map (·.2) := fun b e m => by
    obtain ⟨p, hp, ep⟩ := List.mem_map.mp m
    rw [← ep, hL p hp] at e
    cases e
  have offC : ∀ b, H b = none → b ∉ cs.map (·.2) := fun b e m => by
    obtain ⟨p, hp, ep⟩ := List.mem_map.mp m
    rw [← ep, hT p hp] at e
    cases e
  have at2 : ∀ k c a, (dealB ++ ls.map fun p => CD.tab p.2 qn)[k]? = some c → (d :: l :: ls.map (·.2))[k]? = some a → (k = 0 ∧ c = .deal 1 ∧ a = d) ∨ (k = 1 ∧ c = .held ∧ a = l) ∨ ∃ p ∈ ls, c = .tab p.2 qn ∧ a = p.2 := fun k c a h e => by
    match k, h, e with
    | 0, h, e => cases h; cases e; exact .inl ⟨rfl, rfl, rfl⟩
    | 1, h, e => cases h; cases e; exact .inr (.inl ⟨rfl, rfl, rfl⟩)
    | k + 2, h, e =>
      have h' : (ls.map fun p => CD.tab p.2 qn)[k]? = some c := h
      have e' : (ls.map (·.2))[k]? = some a := e
      rw [List.getElem?_map] at h' e'
      cases e1 : ls[k]? with
      | none => rw [e1] at h'; cases h'
      | some p =>
        rw [e1] at h' e'
        cases h'
        cases e'
        exact .inr (.inr ⟨p, List.mem_of_getElem? e1, rfl, rfl⟩)
  have wm : Wm K (cs.map (·.2)) (dealB ++ ls.map fun p => CD.tab p.2 qn) H' (d :: l :: ls.map (·.2)) (fun _ => none) := by
    refine ⟨?_, ?_, fun k c a h e => ?_, fun a ha => ?_, fun k c a h g e => rfl, fun k l h => ?_, (fun b o h => by cases h), fun b hb => ⟨?_, fun m => ?_⟩⟩
    · simp
    · refine List.nodup_cons.mpr ⟨fun m => ?_, List.nodup_cons.mpr ⟨offL l nl0, nd⟩⟩
      rcases List.mem_cons.mp m with z | z
      · exact ndl z
      · exact offL d nd0 z
    · rcases at2 k c a h e with ⟨rfl, rfl, rfl⟩ | ⟨rfl, rfl, rfl⟩ | ⟨p, hp, rfl, rfl⟩
      · exact ⟨l, rfl, hD⟩
      · trivial
      · exact ⟨rfl, LamX.TabS.nil (sm _ _ (hL p hp))⟩
    · rcases List.mem_cons.mp ha with z | z
      · obtain ⟨o, e⟩ := lvd
        rw [z, e]
        intro y
        cases y
      · rcases List.mem_cons.mp z with z | z
        · obtain ⟨o, e⟩ := lvl
          rw [z, e]
          intro y
          cases y
        · obtain ⟨p, hp, ep⟩ := List.mem_map.mp z
          rw [← ep, sm _ _ (hL p hp)]
          intro y
          cases y
    · match k, h with
      | 0, h => cases h; rfl
      | 1, h => cases h
      | k + 2, h =>
        have h' : (ls.map fun p => CD.tab p.2 qn)[k]? = some (.deal l) := h
        rw [List.getElem?_map] at h'
        cases e1 : ls[k]? with
        | none => rw [e1] at h'; cases h'
        | some p => rw [e1] at h'; cases h'
    · obtain ⟨p, hp, ep⟩ := List.mem_map.mp hb
      rw [← ep]
      exact sm _ _ (hT p hp)
    · rcases List.mem_cons.mp m with z | z
      · exact offC d nd0 (z ▸ hb)
      · rcases List.mem_cons.mp z with z | z
        · exact offC l nl0 (z ▸ hb)
        · obtain ⟨p, hp, ep⟩ := List.mem_map.mp z
          exact dis p hp (ep ▸ hb)
  have len0 : (L2.start N [V.ref a]).set 1 (some (.ref d)) = some (.ref a) :: some (.ref d) :: List.replicate (N.length - 2) none := by
    unfold L2.start
    obtain ⟨n, hn⟩ : ∃ n, N.length = n + 2 := ⟨N.length - 2, by omega⟩
    rw [hn]
    show (some (V.ref a) :: List.replicate (n + 2 - 1) none).set 1 _ = _
    rw [show n + 2 - 1 = n + 1 from rfl, List.replicate_succ, show n + 2 - 2 = n from rfl]
    rfl
  show us _ ((L2.start N [V.ref a]).set 1 (some (.ref d))) H'
  rw [len0]
  refine hd.run (d :: l :: ls.map (·.2)) (fun _ => none) H' (fun _ => none) ⟨.un :: .loc 0 :: List.replicate (N.length - 2) .un, dealB ++ ls.map fun p => .tab p.2 qn⟩ _ H' (d :: l :: ls.map (·.2)) (fun _ => none) _ (lawW (2 + ls.length))
    ⟨⟨_, _, rfl, trivial, _, _, rfl, ⟨_, rfl, d, rfl, rfl⟩, SRs.uns _⟩, wm⟩ .refl (.refl _) .none hw ⟨?_, fun S σ H' ρ' T' w s _ g => g.elim, fun r S σ H' ρ' T' v w s hr g => ?_, fun S σ H' ρ' T' w s _ g => g.elim, fun S σ H' ρ' T' w s _ g => g.elim⟩
  · show (ls.map (·.2)).length + 1 + 1 = 2 + ls.length
    rw [List.length_map]
    omega
  · have g' : isYes r := g
    have ev : v = .bl true := by
      cases r with
      | new c => exact g'.elim
      | ad x =>
        cases x with
        | dat d =>
          cases d <;> first | exact g'.elim | skip
          rename_i b
          cases b
          · exact g'.elim
          · exact hr
        | _ => exact g'.elim
    rw [ev]
    exact q _ fun p hp => (w.wm.tb p.2 (List.mem_map.mpr ⟨p, hp, rfl⟩)).1
end
end Zd
end

section
set_option maxHeartbeats 4000000
/-! set(l) of a list of ints. -/
namespace Zc
open PySem PySem.Spec PyProof.Rows L2
section
variable {P : Program} {w : World} {A : Around} {E : Value → Shared → Prop} {s : Shared}
/-- an empty set, as it is made -/
abbrev newSet (w : World) : Obj := { cls := .type "set", dict := none, data := .set #[] 0 (.fresh 0 0 (!w.params.followText "set-order")) }
theorem set_of_list {a : Addr} {its : Array Value} (ns : List Int) {Q : Value → Shared → Prop} (hot : A.handled = none) (la : s.heap.IsList a its) (ia : IntsAre its.toList ns) (few : ns.length + 1 < scanBound)
    (fin : ∀ (g : Heap) (tk c : Nat), SetR w g s.heap.objs.size (fun j => decide (j ∈ ns)) c → c ≤ ns.length → (∀ b o, s.heap.get? b = some o → g.get? b = some o) → Q (.ref s.heap.objs.size) { s with heap := g, toks := tk }) :
    wpAny (model P w) A (call (.type "set") [.ref a]) Q E s := by
  have sz : its.size = ns.length := by have z := IntsAre.length ia; rwa [Array.length_toList] at z
  obtain ⟨mc, mt, hmro⟩ := F.called_set.mro
  have q1 := F.called_set.made; have q2 := F.called_set.sub
  refine wpAny_call (codeAny_of_tree ?_); show wpAny _ _ (callAny (.type "set") _) _ _ _
  refine wpAny_pure ⟨Code.quiet_builtin _ (by decide +kernel), codeAny_builtin F.entry_type_call ?_⟩; rw [Around.under_plain (weight_type_call_type "set" [.ref a] []) rfl]
  have q3 := F.called_set.notType; have q4 := F.called_set.canCreate; have q5 := F.typeCall_set_1 (.ref a)
  repeat any_goals (first | assumption | wp_step)
  refine codeAny_mono (code_set_led1 (.ref a) (E := E) (Q₁ := fun v t => v = .ref s.heap.objs.size ∧ t = { s with heap := s.heap.push (newSet w) }) ⟨rfl, rfl⟩) fun r t hr => ?_
  match r, hr with
  | .error _, hr => exact hr
  | .ok .next, hr => exact hr.elim
  | .ok .brk, hr => exact hr.elim
  | .ok .cont, hr => exact hr.elim
  | .ok (.ret v), hr =>
  obtain ⟨rfl, rfl⟩ := hr
  have gS : (s.heap.push (newSet w)).get? s.heap.objs.size = some (newSet w) := Heap.get?_push_size _ rfl
  have tS : Shared.TypeIs { s with heap := s.heap.push (newSet w) } (.ref s.heap.objs.size) "set" := ⟨_, gS, rfl⟩
  have q6 := F.called_set.init.lookup; have q7 := F.called_set.init.bind (.ref s.heap.objs.size)
  repeat any_goals (first | assumption | wp_step)
  refine codeAny_mono (codeAny_call_builtin (R := wants (fun v t => v = .none ∧ ∃ g tk c, t = { s with heap := g, toks := tk } ∧ SetR w g s.heap.objs.size (fun j => decide (j ∈ ns)) c ∧ c ≤ ns.length ∧ (∀ b o, s.heap.get? b = some o → g.get? b = some o)) E)
    F.called_set.init.plain F.entry_set_init (check_set_init_1 tS ?_)) fun r2 t2 hr2 => ?_
  · obtain ⟨⟨_, od, _, os⟩, ho, rfl, n0, rfl⟩ := la
    have ho1 : (s.heap.push (newSet w)).get? a = some { cls := .type "list", dict := od, data := .seq its n0, slots := os } := Heap.get?_push_of_some _ ho
    have q8 := F.sub_list_set; have q9 := F.sub_list_frozenset
    have q10 : (Value.type "list" == Value.type "dict") = false := by decide
    have la1 : (s.heap.push (newSet w)).IsList a its := ⟨_, ho1, rfl, n0, rfl⟩
    unfold Builtin.«set.__init__» noKeywords Builtin.Frozenset.updateFrom
    generalize eI : pyIter = PI
    wp_walk
    subst eI
    refine wpAny_pyIter_list la1 (wpAny_bind (wpAny_runValue ?_))
    have lt : a < s.heap.objs.size := Heap.lt_size ho
    have no3 : A.in1.in1.in1.handled = none := by simp [hot]
    have ne1 : a ≠ (s.heap.push (newSet w)).objs.size := by rw [Heap.size_push]; exact Nat.ne_of_lt (Nat.lt_succ_of_lt lt)
    have out : s.heap.objs.size ∉ [(s.heap.push (newSet w)).objs.size, a] := by
      rw [Heap.size_push]
      intro z
      rcases List.mem_cons.mp z with z | z
      · exact absurd z (Nat.ne_of_lt (Nat.lt_succ_self _))
      · have := List.mem_singleton.mp z
        exact absurd this (Nat.ne_of_gt lt)
    have vals : ∀ (i : Nat) (v : Value), its[i]? = some v → ∃ k t, ns[i]? = some k ∧ v = .int k t := fun i v hv => by
      have il : i < ns.length := by rw [← sz]; exact (Array.getElem?_eq_some_iff.mp hv).1
      obtain ⟨t, e⟩ := PyProof.Rows.IntsAre.int_at ia i v (by rw [Array.getElem?_toList]; exact hv)
      exact ⟨ns[i], t, List.getElem?_eq_getElem il, by rw [e, List.getD_eq_getElem?_getD, List.getElem?_eq_getElem il] <;> rfl⟩
    refine set_update_ints ((Walks.list no3 _ a ne1 its).toS) s.heap.objs.size out ns sz few vals (its.size - 0) 0 _ (by omega) (Nat.zero_le _) ⟨⟨_, Heap.get?_push_size _ rfl, rfl, rfl⟩, (la1.push _)⟩ ?_ ?_
    · exact ⟨0, Nat.le_refl 0, setR_new_at (Heap.get?_push_of_some _ gS)⟩
    · intro t' c' hm hc' hS'
      obtain ⟨g, gens', drawn', tk', os'⟩ := t'
      obtain rfl : gens' = s.gens := hm.gens
      obtain rfl : drawn' = s.drawn := hm.drawn
      obtain rfl : os' = s.os := hm.os
      show wpAny _ _ _ _ _ _
      refine wpAny_pure ?_
      show wpAny _ _ (ret Value.none) _ _ _
      refine wpAny_pure ⟨rfl, g, tk', c', rfl, hS', by rw [← sz]; exact hc', fun b o e => ?_⟩
      have b0 : b < s.heap.objs.size := Heap.lt_size e
      refine hm.heap b o (fun z => ?_) (Heap.get?_push_of_some _ (Heap.get?_push_of_some _ e))
      rcases List.mem_cons.mp z with z | z
      · exact absurd z (Nat.ne_of_lt b0)
      · have := List.mem_singleton.mp z
        rw [Heap.size_push] at this
        exact absurd this (Nat.ne_of_lt (Nat.lt_succ_of_lt b0))
  · match r2, hr2 with
    | .error _, hr2 => exact hr2
    | .ok .next, hr2 => exact hr2.elim
    | .ok .brk, hr2 => exact hr2.elim
    | .ok .cont, hr2 => exact hr2.elim
    | .ok (.ret v), hr2 =>
    obtain ⟨rfl, g, tk, c', rfl, hS', hc', hk'⟩ := hr2
    repeat any_goals (first | assumption | wp_step)
    exact fin _ _ _ hS' hc' hk'
end
variable {X : Cx}
/-- set(l), of a list of ints -/
def rSetLi (K : PySem.W.Frag) (w : World) : List V → Hp → VK → Prop := fun xs H Q => ∃ (l : Addr) (ns : List Int), xs = [.ref l] ∧ SqL K H l (ns.map V.int) ∧ ns.length + 1 < scanBound ∧
  ∀ (p : Addr) (c : Nat), H p = none → c ≤ ns.length → Q (.ref p) (upd H p (SetO w p (fun j => decide (j ∈ ns)) c))
theorem cr_setL (hc : X.calm = true) : CallR X (.type "set") (rSetLi X.K X.w) := by
  intro pins s σ H xs us Q I r h
  obtain ⟨l, ns, rfl, ht, hl, q⟩ := h
  rw [Vals.ref1 r]
  obtain ⟨its, rv, pl, _⟩ := I.list ht
  refine set_of_list ns (I.ok.hd hc) pl.isList (by simpa using ints_of_vals rv) hl fun g tk c R hle old => ?_
  exact ⟨.ref _, upd H s.heap.objs.size (SetO X.w s.heap.objs.size (fun j => decide (j ∈ ns)) c), I.laid (t' := tk) old (Nat.le_refl _) (setO_new R), rfl, q _ c (I.hok.fresh (Nat.le_refl _)) hle⟩
end Zc
end

section
set_option maxHeartbeats 1000000
/-! sorted(set(..)) of numbers. -/
namespace Zd
open PySem PySem.Spec PyProof.Rows L2 Zc
/-- set(t), of a tuple of ints -/
def rSetTu (K : PySem.W.Frag) (w : World) : List V → Hp → VK → Prop := fun xs H Q => ∃ (l : Addr) (ns : List Int), xs = [.ref l] ∧ SqT K H l (ns.map V.int) ∧ ns.length + 1 < scanBound ∧
  ∀ (p : Addr) (c : Nat), H p = none → c ≤ ns.length → Q (.ref p) (upd H p (SetO w p (fun j => decide (j ∈ ns)) c))
theorem cr_setTu {X : Cx} (hc : X.calm = true) : CallR X (.type "set") (rSetTu X.K X.w) := by
  intro pins s σ H xs us Q I r h
  obtain ⟨l, ns, rfl, ht, hl, q⟩ := h
  rw [Vals.ref1 r]
  obtain ⟨its, rv, hit, _⟩ := I.tuple ht
  refine call_set_tupI ns (I.ok.hd hc) hit (by simpa using ints_of_vals rv) hl fun h' tk c R hle old => ?_
  exact ⟨.ref _, upd H s.heap.objs.size (SetO X.w s.heap.objs.size (fun j => decide (j ∈ ns)) c), I.laid (t' := tk) old (Nat.le_refl _) (setO_new R), rfl, q _ c (I.hok.fresh (Nat.le_refl _)) hle⟩
def kSst2 (k : RD → SS → Prop) (S1 : SS) (d : PyData) : Prop := match d with
  | .tuple ds => ∃ ns : List Int, intsOf ds = some ns ∧ ns.length < 60 ∧ ∀ out : List Int, out.Pairwise (· < ·) → (∀ z, z ∈ out ↔ z ∈ ns) → k (.new (.lst (out.map PyData.int))) S1
  | _ => False
def kSst (k : RD → SS → Prop) (r : RD) (S1 : SS) : Prop := vwD r S1 (kSst2 k S1)
def wSortSetT (we : WE) : WE := fun S k => we S (kSst k)
def kSsl2 (k : RD → SS → Prop) (S1 : SS) (d : PyData) : Prop := match d with
  | .list ds => ∃ ns : List Int, intsOf ds = some ns ∧ ns.length < 60 ∧ ∀ out : List Int, out.Pairwise (· < ·) → (∀ z, z ∈ out ↔ z ∈ ns) → k (.new (.lst (out.map PyData.int))) S1
  | _ => False
def kSsl (k : RD → SS → Prop) (r : RD) (S1 : SS) : Prop := vwD r S1 (kSsl2 k S1)
def wSortSetL (we : WE) : WE := fun S k => we S (kSsl k)
section
variable {K : PySem.W.Frag} {TB : List Addr} {E : XK} {Ex : XD → Prop} {T T' T0 H H' H0 : Hp} {ρ ρ' ρ0 : List Addr} {S S' : SS} {σ : L2.St} {p : Addr} {te : TE} {we : WE} {w0 : World} {k : RD → SS → Prop} {ds : List PyData} {x : RD}
theorem q_kSst2 : kSst2 k S (.tuple ds) = ∃ ns : List Int, intsOf ds = some ns ∧ ns.length < 60 ∧ ∀ out : List Int, out.Pairwise (· < ·) → (∀ z, z ∈ out ↔ z ∈ ns) → k (.new (.lst (out.map PyData.int))) S := rfl
theorem q_kSsl2 : kSsl2 k S (.list ds) = ∃ ns : List Int, intsOf ds = some ns ∧ ns.length < 60 ∧ ∀ out : List Int, out.Pairwise (· < ·) → (∀ z, z ∈ out ↔ z ∈ ns) → k (.new (.lst (out.map PyData.int))) S := rfl
theorem sst_end {Q : VK} {ns : List Int} {S : Int → Bool} {c : Nat} {SS1 : SS} (w : Wd K TB SS1 σ H ρ T) (s : Stp ρ0 T0 H0 ρ T H) (np : H p = none) (hc : c ≤ ns.length) (hl : ns.length < 60) (hS : ∀ z, S z = true ↔ z ∈ ns)
    (hk : ∀ out : List Int, out.Pairwise (· < ·) → (∀ z, z ∈ out ↔ z ∈ ns) → k (.new (.lst (out.map PyData.int))) SS1) (q : Fin K TB σ ρ0 T0 H0 Q k) : rSortedSet w0 [.ref p] (upd H p (SetO w0 p S c)) Q := by
  obtain ⟨w2, s2⟩ := w.by np (SetO w0 p S c)
  refine ⟨p, S, c, rfl, upd_same, by omega, fun out a ho hm hlen na => ?_⟩
  have e : out.map V.int = out.map V.int := rfl
  have := Fin.lst q w2 (s.trans s2 w.lv) (ds := out.map PyData.int) (vs := out.map V.int) (DvA.ints out) na (hk out ho fun z => (hm z).trans (hS z))
  exact this
instance [hE : DEc K TB E Ex te we] : DEc K TB E Ex (tCB (rSortedSet w0) (tCons (tCB (rSetTu K w0) (tCons te tNil)) tNil)) (wSortSetT we) where
  run := fun S σ H ρ T Q k w rx h q => by
    refine hE.run S σ H ρ T _ _ w rx h fun r S1 H1 ρ1 T1 v w1 s1 r1 h1 => ?_
    obtain ⟨d, hd, h1⟩ := vwD_run w1 r1 h1
    cases d <;> first | exact h1.elim | skip
    obtain ⟨ns, hns, hl, hk⟩ := h1
    obtain ⟨a, xs, rfl, ht, hx⟩ := hd.tup w1.wm.sT
    rw [intsOf_eq hns] at hx
    rw [hx.of_ints] at ht
    exact ⟨a, ns, rfl, ht, by unfold scanBound; omega, fun p c np hc => sst_end w1 s1 np hc hl (fun z => decide_eq_true_iff) hk q⟩
instance [hE : DEc K TB E Ex te we] : DEc K TB E Ex (tCB (rSortedSet w0) (tCons (tCB (rSetLi K w0) (tCons te tNil)) tNil)) (wSortSetL we) where
  run := fun S σ H ρ T Q k w rx h q => by
    refine hE.run S σ H ρ T _ _ w rx h fun r S1 H1 ρ1 T1 v w1 s1 r1 h1 => ?_
    obtain ⟨d, hd, h1⟩ := vwD_run w1 r1 h1
    cases d <;> first | exact h1.elim | skip
    obtain ⟨ns, hns, hl, hk⟩ := h1
    obtain ⟨a, xs, rfl, ht, hx⟩ := hd.lst w1.wm.sT
    rw [intsOf_eq hns] at hx
    rw [hx.of_ints] at ht
    exact ⟨a, ns, rfl, .inl (.inl ht), by unfold scanBound; omega, fun p c np hc => sst_end w1 s1 np hc hl (fun z => decide_eq_true_iff) hk q⟩
end
theorem zcr_setT {X : Cx} (K : PySem.W.Frag) (h : X.K = K) (hc : X.calm = true) : CallR X (.type "set") (rSetTu K X.w) := h ▸ cr_setTu hc
theorem zcr_setL {X : Cx} (K : PySem.W.Frag) (h : X.K = K) (hc : X.calm = true) : CallR X (.type "set") (rSetLi K X.w) := h ▸ cr_setL hc
end Zd
end

section
set_option maxHeartbeats 4000000
/-! sorted(t) of a tuple of ints. -/
namespace Zd
open PySem PySem.Spec PyProof.Rows L2 Zc
section
variable {prog : Program} {w : World} {A : Around} {E : Value → Shared → Prop} {s : Shared}
/-- the heap with the items put into a new list -/
abbrev laidL (h : Heap) (vs : List Value) : Heap := (h.push (seqObj "list" #[] 0)).update h.objs.size (Obj.mapSeq (· ++ vs.toArray))
theorem gather {t : Addr} {vs : List Value} {Q : List Value → Shared → Prop} (ht : s.heap.IsTuple t vs.toArray) (hz : vs.length ≤ sizeLine) (hq : Q vs { s with heap := laidL s.heap vs }) : wpAny (model prog w) A (collect (.ref t)) Q E s := by
  obtain ⟨ob, g1, g2, c, g3⟩ := id ht
  have new : ∀ {h : Heap}, (h.push (seqObj "list" #[] 0)).get? h.objs.size = some (seqObj "list" #[] 0) := fun {h} => Heap.get?_push_size _ rfl
  have old : (s.heap.push (seqObj "list" #[] 0)).get? t = some ob := Heap.get?_push_of_some _ g1
  have room : ((#[] : Array Value) ++ vs.toArray).size ≤ sizeLine + 1 := by
    rw [Array.size_append, List.size_toArray]
    show 0 + vs.length ≤ _
    omega
  unfold collect
  refine wpAny_bind (wpAny_runValue (codeAny_builtin entry_proto_collect' ?_))
  show wpAny _ _ (do
    let l ← newList []
    again (.builtin "list.__iadd__" ⟨[l, .ref t], []⟩)) _ _ s
  refine wpAny_bind (wpAny_newList (wpAny_pure (And.intro (Code.quiet_builtin _ (by decide +kernel)) (codeAny_builtin entry_list_iadd' ?_))))
  show wpAny _ _ (Builtin.List.listExtendWith (.ref s.heap.objs.size) (.ref t) _) _ _ ⟨s.heap.push (seqObj "list" #[] 0), _, _, _, _⟩
  unfold Builtin.List.listExtendWith
  refine wpAny_bind (wpAny_typeOf (T := "tuple") (Exists.intro ob (And.intro old g2)) ?_)
  have cnd : (Builtin.List.listSameRef (.ref s.heap.objs.size) (.ref t) || Value.type "tuple" == .type "list" || Value.type "tuple" == .type "tuple") = true := by
    rw [show (Value.type "tuple" == .type "tuple") = true from rfl, Bool.or_true]
  rw [if_pos cnd]
  refine wpAny_bind (listItems_at old g3 (wpAny_bind (listItems_at (xs := #[]) (n := 0) new rfl ?_)))
  refine (show wpAny _ _ (do
      Builtin.List.listUpdate (.ref s.heap.objs.size) fun x => x ++ vs.toArray
      ret (.ref s.heap.objs.size)) _ _ _ from ?_)
  refine wpAny_bind (listUpdate_at (xs := #[]) (n := 0) new rfl (wpAny_pure ?_) (Nat.zero_le _) room)
  obtain ⟨z, got⟩ : ∃ z, (laidL s.heap vs).get? s.heap.objs.size = some (seqObj "list" ((#[] : Array Value) ++ vs.toArray) z) := ⟨_, get?_update_seq new _⟩
  have e : ((#[] : Array Value) ++ vs.toArray).toList = vs := by rw [Array.toList_append]; rfl
  refine wpAny_bind (wpAny_load got (wpAny_pure (by rw [e]; exact hq)))
/-- sorted(t): the items, then the new list -/
theorem sorted_tup {t : Addr} {vs : List Value} {lt : Value → Value → Bool} {Q : Value → Shared → Prop} (O : SrtO.Swo lt) (ht : s.heap.IsTuple t vs.toArray) (hz : vs.length ≤ sizeLine)
    (can : 2 ≤ vs.length → ∀ (h1 : Heap) (a : Addr), h1.get? a = some (seqObj "list" vs.toArray 0) → (∀ b o, s.heap.get? b = some o → b ≠ a ∧ h1.get? b = some o) → SrtO.SortableO prog w A.in1.in1 { s with heap := h1 } a vs lt)
    (hq : ∀ out : List Value, SrtO.Srtd lt out → SrtO.Stb lt out vs → Q (.ref (s.heap.objs.size + 1)) { s with heap := sortedAll s.heap vs out.toArray }) : wpAny (model prog w) A (call (.builtin "sorted") [.ref t]) Q E s := by
  refine Calls.call_function_entry kind_sorted plain_sorted entry_sorted (args_sorted1 _) ?_
  unfold Builtin.«sorted»
  refine wpAny_bind (wpAny_pure (wpAny_bind (gather ht hz (wpAny_bind (wpAny_newList ?_ hz)))))
  have sz : (laidL s.heap vs).objs.size = s.heap.objs.size + 1 := (Heap.size_update _ _ _).trans (size_push' _ _)
  have there : ((laidL s.heap vs).push (seqObj "list" vs.toArray 0)).get? (s.heap.objs.size + 1) = some (seqObj "list" vs.toArray 0) := sz ▸ Heap.get?_push_size _ rfl
  show wpAny _ _ (do
    let _ ← holding [.ref (laidL s.heap vs).objs.size] (call (.builtin "list.sort") [.ref (laidL s.heap vs).objs.size] [])
    ret (.ref (laidL s.heap vs).objs.size)) _ _ ⟨(laidL s.heap vs).push (seqObj "list" vs.toArray 0), s.gens, s.drawn, s.toks, s.os⟩
  rw [sz]
  refine wpAny_bind (wpAny_holding (wpAny_call_entry slot_list_sort (Exists.intro _ (And.intro there rfl)) entry_list_sort ?_ (args_list_sort _)))
  refine SrtO.list_sort_ord O there hz (fun two => can two _ _ there fun b o e => ⟨?_, ?_⟩) fun out o1 o2 => Exists.intro _ (And.intro rfl (wpAny_pure (Exists.intro _ (And.intro rfl (hq out o1 o2)))))
  · exact Nat.ne_of_lt (Nat.lt_succ_of_lt (Heap.lt_size e))
  · have lt := Heap.lt_size e
    refine Heap.get?_push_of_some _ ((Heap.get?_update_ne _ _ _ _ (Nat.ne_of_lt lt)).trans ?_)
    exact Heap.get?_push_of_some _ e
end
def rSortedTu (K : PySem.W.Frag) : List V → Hp → VK → Prop := fun vs H Q => ∃ (a : Addr) (ns : List Int), vs = [V.ref a] ∧ SqT K H a (ns.map V.int) ∧ ns.length ≤ 1000000 ∧
  ∀ (out : List Int) (p : Addr), out.Perm ns → out.Pairwise (· ≤ ·) → H p = none → Q (.ref p) (upd H p (.lst (out.map V.int)))
theorem cr_sortedTu {X : Cx} : CallR X (.builtin "sorted") (rSortedTu X.K) := by
  intro pins s σ H vs us Q I r h
  obtain ⟨a, ns, rfl, hs, hz, q⟩ := h
  obtain ⟨its, rv, ht, _⟩ := I.tuple hs
  rw [Vals.ref1 r]
  have hi := rv.ints
  have hz1 : its.length ≤ sizeLine := by
    rw [← rv.length, List.length_map]
    exact size_ok hz
  refine sorted_tup SrtO.swo_int ht hz1 (fun two h1 a' _ _ => SrtO.ints_sortable hi two) fun out o1 o2 => ?_
  obtain ⟨k1, k2, k3⟩ := SrtO.ints_out hi o1 o2
  obtain ⟨z, there⟩ := PyProof.Rows.sortedAll_at s.heap its out.toArray
  have big : ((out.map SrtO.iv).map V.int).length ≤ sizeLine := by
    rw [List.length_map, k2.length_eq]
    exact size_ok hz
  have J := I.laid (a := s.heap.objs.size + 1) (o := .lst ((out.map SrtO.iv).map V.int)) (h' := sortedAll s.heap its out.toArray) (t' := s.toks) (fun _ _ => PyProof.Rows.sortedAll_old) (Nat.le_succ _) ⟨big, out, z, vals_of_ints k1, there⟩
  exact Exists.intro (.ref _) (Exists.intro _ (And.intro J (And.intro rfl (q _ _ k2 k3 (I.hok.fresh (Nat.le_succ _))))))
theorem zcr_sortedT {X : Cx} (K : PySem.W.Frag) (h : X.K = K) : CallR X (.builtin "sorted") (rSortedTu K) := h ▸ cr_sortedTu
def fSortT : PyData → (RD → Prop) → Prop
  | .tuple ds, k => ∃ ns, intsOf ds = some ns ∧ ds.length ≤ 1000000 ∧ ∀ out : List Int, out.Perm ns → out.Pairwise (· ≤ ·) → k (.new (.lst (out.map PyData.int)))
  | _, _ => False
theorem e_fSortT {ds : List PyData} {k : RD → Prop} : fSortT (.tuple ds) k = ∃ ns, intsOf ds = some ns ∧ ds.length ≤ 1000000 ∧ ∀ out : List Int, out.Perm ns → out.Pairwise (· ≤ ·) → k (.new (.lst (out.map PyData.int))) := rfl
instance {K : PySem.W.Frag} : CbV K (rSortedTu K) fSortT where
  run := fun TB S σ ρ0 T0 H0 H ρ T v d Q k w s hd h q => by
    cases d <;> first | exact h.elim | skip
    obtain ⟨ns, e, hz, hk⟩ := h
    obtain ⟨a, xs, rfl, h1, d1⟩ := hd.tup w.wm.sT
    have en := intsOf_eq e
    rw [en] at d1
    rw [d1.of_ints] at h1
    exact ⟨a, ns, rfl, h1, by rw [en, List.length_map] at hz; exact hz, fun out p hp ho np => q.lst w s (DvA.ints out) np (hk out hp ho)⟩
end Zd
end

section
set_option maxHeartbeats 400000
/-! Small words for all laws. -/
namespace Zd
open PySem PySem.Spec PyProof.Rows L2 Zc
theorem ss_m {s : List AD} {m m' : List CD} (h : m = m') : (⟨s, m⟩ : SS) = ⟨s, m'⟩ := congrArg _ h
theorem ix_of {n j : Nat} (h : j < n) : L2.ixN n (j : Int) = some j := by
  unfold L2.ixN
  rw [if_pos (by omega), if_pos (by omega), Int.toNat_natCast]
def twoD (p : Nat × Nat) : PyData := .tuple [natD p.1, natD p.2]
end Zd
end

section
set_option maxHeartbeats 1000000
/-! More small words: ascending numbers, pairs of numbers, how deep data are. -/
namespace Zd
open PySem PySem.Spec PyProof.Rows L2 Zc
theorem ascExt : ∀ {l m : List Int}, l.Pairwise (· < ·) → m.Pairwise (· < ·) → (∀ x, x ∈ l ↔ x ∈ m) → l = m
  | [], [], _, _, _ => rfl
  | [], b :: m, _, _, h => absurd ((h b).2 List.mem_cons_self) List.not_mem_nil
  | a :: l, [], _, _, h => absurd ((h a).1 List.mem_cons_self) List.not_mem_nil
  | a :: l, b :: m, .cons h1 h2, .cons g1 g2, h => by
    have e : a = b := by
      rcases List.mem_cons.mp ((h a).1 List.mem_cons_self) with z | z
      · exact z
      · rcases List.mem_cons.mp ((h b).2 List.mem_cons_self) with y | y
        · exact y.symm
        · have := h1 b y
          have := g1 a z
          omega
    subst e
    congr 1
    refine ascExt h2 g2 fun x => ⟨fun hx => ?_, fun hx => ?_⟩
    · rcases List.mem_cons.mp ((h x).1 (List.mem_cons_of_mem _ hx)) with z | z
      · have := h1 x hx
        omega
      · exact z
    · rcases List.mem_cons.mp ((h x).2 (List.mem_cons_of_mem _ hx)) with z | z
      · have := g1 x hx
        omega
      · exact z
/-- ordered and each once: ascending -/
theorem asc_nodup : ∀ {l : List Int}, l.Pairwise (· ≤ ·) → l.Nodup → l.Pairwise (· < ·)
  | [], _, _ => .nil
  | a :: r, .cons h1 h2, nd => by
    obtain ⟨n1, n2⟩ := List.nodup_cons.mp nd
    exact .cons (fun b hb => by have := h1 b hb; have ne : a ≠ b := (fun e => n1 (e ▸ hb)); omega) (asc_nodup h2 n2)
theorem ints_nodup : ∀ {l : List Nat}, l.Nodup → (l.map Int.ofNat).Nodup
  | [], _ => .nil
  | a :: r, nd => by
    obtain ⟨n1, n2⟩ := List.nodup_cons.mp nd
    refine List.nodup_cons.mpr ⟨fun m => ?_, ints_nodup n2⟩
    obtain ⟨b, hb, e⟩ := List.mem_map.mp m
    exact n1 ((Int.ofNat.inj e) ▸ hb)
theorem len_sub : ∀ {w l : List Nat}, w.Nodup → (∀ x ∈ w, x ∈ l) → w.length ≤ l.length
  | [], _, _, _ => Nat.zero_le _
  | a :: r, l, nd, h => by
    obtain ⟨n1, n2⟩ := List.nodup_cons.mp nd
    have ma := h a List.mem_cons_self
    have ih := len_sub (l := l.erase a) n2 fun x hx => (List.mem_erase_of_ne (show x ≠ a from fun e => n1 (e ▸ hx))).mpr (h x (List.mem_cons_of_mem _ hx))
    rw [List.length_erase_of_mem ma] at ih
    have := List.length_pos_of_mem ma
    rw [List.length_cons]
    omega
theorem nodup_len {L : Nat} {w : List Nat} (nd : w.Nodup) (h : ∀ x ∈ w, x < L) : w.length ≤ L := by
  have := len_sub nd fun x hx => List.mem_range.mpr (h x hx)
  rwa [List.length_range] at this
end Zd
namespace Zd
open PySem PySem.Spec PyProof.Rows L2 Zc
theorem two_eqv (p q : Nat × Nat) : PyData.eqv (twoD p) (twoD q) = decide (p = q) := by
  show (PyData.eqv (natD p.1) (natD q.1) && (PyData.eqv (natD p.2) (natD q.2) && true)) = _
  rw [eqv_nat, eqv_nat, Bool.and_true, Bool.eq_iff_iff, Bool.and_eq_true, decide_eq_true_iff, decide_eq_true_iff, decide_eq_true_iff, Prod.ext_iff]
theorem inD_two (p : Nat × Nat) (ps : List (Nat × Nat)) : inD (twoD p) (ps.map twoD) = decide (p ∈ ps) := by
  unfold inD
  rw [Bool.eq_iff_iff, List.any_eq_true, decide_eq_true_iff]
  constructor
  · rintro ⟨d, hd, e⟩
    obtain ⟨m, hm, rfl⟩ := List.mem_map.mp hd
    rw [two_eqv, decide_eq_true_iff] at e
    exact e ▸ hm
  · intro h
    exact ⟨twoD p, List.mem_map.mpr ⟨p, h, rfl⟩, by rw [two_eqv]; exact decide_eq_true rfl⟩
theorem plainAll_of : ∀ {ds : List PyData}, (∀ d ∈ ds, plainD d = true) → plainAll ds = true
  | [], _ => rfl
  | a :: r, h => by
    show (plainD a && plainAll r) = true
    rw [h a List.mem_cons_self, plainAll_of fun d hd => h d (List.mem_cons_of_mem _ hd)]
    rfl
theorem depthAll_le {n : Nat} : ∀ {ds : List PyData}, (∀ d ∈ ds, d.depth ≤ n) → PyData.depthAll ds ≤ n
  | [], _ => Nat.zero_le _
  | a :: r, h => by
    show max a.depth (PyData.depthAll r) ≤ n
    exact Nat.max_le.mpr ⟨h a List.mem_cons_self, depthAll_le fun d hd => h d (List.mem_cons_of_mem _ hd)⟩
theorem depth_lst {n : Nat} {ds : List PyData} (h : ∀ d ∈ ds, d.depth ≤ n) : (PyData.list ds).depth ≤ n + 1 := by
  have := depthAll_le h
  simp only [PyData.depth]
  omega
theorem depth_tup {n : Nat} {ds : List PyData} (h : ∀ d ∈ ds, d.depth ≤ n) : (PyData.tuple ds).depth ≤ n + 1 := by
  have := depthAll_le h
  simp only [PyData.depth]
  omega
theorem depth_nat {n : Nat} : (natD n).depth ≤ 1 := by simp [natD, PyData.depth]
theorem plain_nat {n : Nat} (h : n < 2 ^ 64) : plainD (natD n) = true := decide_eq_true (by omega)
theorem plain_two {p : Nat × Nat} (h1 : p.1 < 2 ^ 64) (h2 : p.2 < 2 ^ 64) : plainD (twoD p) = true := plainAll_of fun d hd => by
  rcases List.mem_cons.mp hd with rfl | hd
  · exact plain_nat h1
  · rw [List.mem_singleton.mp hd]
    exact plain_nat h2
theorem depth_two {p : Nat × Nat} : (twoD p).depth ≤ 2 := depth_tup fun d hd => by
  rcases List.mem_cons.mp hd with rfl | hd
  · exact depth_nat
  · rw [List.mem_singleton.mp hd]
    exact depth_nat
theorem plain_natsT {l : List Nat} (h : ∀ x ∈ l, x < 2 ^ 64) : plainD (natsT l) = true := plainAll_of fun d hd => by
  obtain ⟨x, hx, rfl⟩ := List.mem_map.mp hd
  exact plain_nat (h x hx)
theorem depth_natsT {l : List Nat} : (natsT l).depth ≤ 2 := depth_tup fun d hd => by
  obtain ⟨x, hx, rfl⟩ := List.mem_map.mp hd
  exact depth_nat
theorem plain_ordD {O : List (List Nat)} (h : ∀ l ∈ O, ∀ x ∈ l, x < 2 ^ 64) : plainD (ordD O) = true := plainAll_of fun d hd => by
  obtain ⟨l, hl, rfl⟩ := List.mem_map.mp hd
  exact plain_natsT (h l hl)
theorem depth_ordD {O : List (List Nat)} : (ordD O).depth ≤ 3 := depth_tup fun d hd => by
  obtain ⟨l, hl, rfl⟩ := List.mem_map.mp hd
  exact depth_natsT
/-- a pair of numbers among pairs -/
theorem in_two {neg : Bool} {p : Nat × Nat} {ps : List (Nat × Nat)} {k : RD → Prop} (hp : p.1 < 2 ^ 64 ∧ p.2 < 2 ^ 64) (hps : ∀ q ∈ ps, q.1 < 2 ^ 64 ∧ q.2 < 2 ^ 64) (h : k (.ad (.dat (.bool (if neg then !decide (p ∈ ps) else decide (p ∈ ps)))))) :
    fIn neg (twoD p) (.list (ps.map twoD)) k := by
  refine ⟨.inr ⟨plain_two hp.1 hp.2, plainAll_of fun d hd => ?_, Nat.le_trans depth_two (by decide), Nat.le_trans (depth_lst fun d hd => ?_) (show 2 + 1 ≤ 64 by decide)⟩, by rw [inD_two]; exact h⟩
  · obtain ⟨q, hq, rfl⟩ := List.mem_map.mp hd
    exact plain_two (hps q hq).1 (hps q hq).2
  · obtain ⟨q, hq, rfl⟩ := List.mem_map.mp hd
    exact depth_two
end Zd
namespace Zd
open PySem PySem.Spec PyProof.Rows L2 Zc
theorem eqvAll_ints : ∀ {l : List Int}, PyData.eqvAll (l.map PyData.int) (l.map PyData.int) = true
  | [] => rfl
  | a :: r => by
    show (PyData.eqv (.int a) (.int a) && PyData.eqvAll (r.map PyData.int) (r.map PyData.int)) = true
    rw [eqv_int, eqvAll_ints, decide_eq_true rfl]
    rfl
theorem eqOk_ints {l m : List Int} (h : ∀ x ∈ l, x.natAbs < 2 ^ 64) (g : ∀ x ∈ m, x.natAbs < 2 ^ 64) : eqOk (.list (l.map PyData.int)) (.list (m.map PyData.int)) := by
  have pl : ∀ {l : List Int}, (∀ x ∈ l, x.natAbs < 2 ^ 64) → plainAll (l.map PyData.int) = true := fun h => plainAll_of fun d hd => by
    obtain ⟨x, hx, rfl⟩ := List.mem_map.mp hd
    exact decide_eq_true (h x hx)
  have dp : ∀ {l : List Int}, (PyData.list (l.map PyData.int)).depth ≤ 64 := fun {l} => Nat.le_trans (depth_lst (n := 1) fun d hd => by
    obtain ⟨x, hx, rfl⟩ := List.mem_map.mp hd
    simp [PyData.depth]) (by decide)
  exact ⟨pl h, pl g, dp, dp⟩
end Zd
end

section
set_option maxHeartbeats 400000
/-! The mathematics of closing pairs by rounds. -/
namespace Zc
/-- a row of at most t pairs leads from x to h -/
inductive PathLe (ps : List (Nat × Nat)) : Nat → Nat → Nat → Prop
  | refl (t x : Nat) : PathLe ps t x x
  | step {t x l h : Nat} : PathLe ps t x l → (l, h) ∈ ps → PathLe ps (t + 1) x h
inductive Reach (ps : List (Nat × Nat)) : Nat → Nat → Prop
  | refl (x : Nat) : Reach ps x x
  | step {x l h : Nat} : Reach ps x l → (l, h) ∈ ps → Reach ps x h
variable {ps : List (Nat × Nat)} {n : Nat}
theorem PathLe.up {t x h : Nat} (p : PathLe ps t x h) : PathLe ps (t + 1) x h := by
  induction p with
  | refl t x => exact .refl _ _
  | step _ hm ih => exact .step ih hm
theorem PathLe.mono {t u x h : Nat} (p : PathLe ps t x h) (le : t ≤ u) : PathLe ps u x h := by
  obtain ⟨k, rfl⟩ := Nat.exists_eq_add_of_le le
  induction k with
  | zero => exact p
  | succ k ih => exact (ih (Nat.le_add_right _ _)).up
theorem PathLe.zero {x h : Nat} (p : PathLe ps 0 x h) : x = h := by cases p; rfl
theorem PathLe.reach {t x h : Nat} (p : PathLe ps t x h) : Reach ps x h := by
  induction p with
  | refl t x => exact .refl _
  | step _ hm ih => exact .step ih hm
theorem Reach.trans {x y z : Nat} (a : Reach ps x y) (b : Reach ps y z) : Reach ps x z := by
  induction b with
  | refl => exact a
  | step _ hm ih => exact .step ih hm
/-- where pairs lead upwards -/
theorem Reach.path (r : Nat → Nat) (hr : ∀ p ∈ ps, p.1 = p.2 ∨ r p.1 < r p.2) {x h : Nat} (a : Reach ps x h) : PathLe ps (r h) x h := by
  induction a with
  | refl => exact .refl _ _
  | @step l h _ hm ih =>
    rcases hr _ hm with e | e
    · have e' : l = h := e
      rw [← e']
      exact ih
    · exact (PathLe.step ih hm).mono e
/-- lots that grow -/
structure Closing (n : Nat) (ps : List (Nat × Nat)) (B : List (List Nat)) : Prop where
  len : B.length = n
  lot : ∀ (i : Nat) (b : List Nat), B[i]? = some b → b.Pairwise (· < ·) ∧ (∀ x ∈ b, x < n) ∧ i ∈ b ∧ ∀ x ∈ b, Reach ps x i
def Grows (B B' : List (List Nat)) : Prop := ∀ (i : Nat) (b : List Nat), B[i]? = some b → ∃ b', B'[i]? = some b' ∧ ∀ x ∈ b, x ∈ b'
theorem Grows.refl (B : List (List Nat)) : Grows B B := fun i b h => ⟨b, h, fun _ z => z⟩
theorem lt_of_le_nodup : ∀ {l : List Nat}, l.Pairwise (· ≤ ·) → l.Nodup → l.Pairwise (· < ·)
  | [], _, _ => .nil
  | a :: r, h, nd => by
    cases h with
    | cons h1 h2 =>
      have nd' := List.nodup_cons.mp nd
      refine .cons (fun b hb => ?_) (lt_of_le_nodup h2 nd'.2)
      have := h1 b hb
      exact Nat.lt_of_le_of_ne this fun e => nd'.1 (e ▸ hb)
theorem nodup_of_lt : ∀ {l : List Nat}, l.Pairwise (· < ·) → l.Nodup
  | [], _ => .nil
  | a :: r, h => by
    cases h with
    | cons h1 h2 => exact List.nodup_cons.mpr ⟨fun m => Nat.lt_irrefl _ (h1 a m), nodup_of_lt h2⟩
theorem Closing.step {B : List (List Nat)} {l h : Nat} {bl bh b' : List Nat} (C : Closing n ps B) (hl : B[l]? = some bl) (hh : B[h]? = some bh) (hm : (l, h) ∈ ps)
    (perm : b'.Perm (bh ++ bl.filter fun x => !decide (x ∈ bh))) (srt : b'.Pairwise (· ≤ ·)) : Closing n ps (B.set h b') ∧ Grows B (B.set h b') ∧ ∀ x ∈ bl, x ∈ b' := by
  have hlt : h < B.length := (List.getElem?_eq_some_iff.mp hh).1
  have Cl := C.lot l bl hl
  have Ch := C.lot h bh hh
  have mem : ∀ x, x ∈ b' ↔ x ∈ bh ∨ (x ∈ bl ∧ x ∉ bh) := fun x => by
    rw [perm.mem_iff, List.mem_append, List.mem_filter]
    simp
  have nd : b'.Nodup := by
    rw [perm.nodup_iff, List.nodup_append]
    refine ⟨nodup_of_lt Ch.1, (nodup_of_lt Cl.1).filter _, fun a ha b hb e => ?_⟩
    have := (List.mem_filter.mp hb).2
    rw [← e] at this
    simp [ha] at this
  have all : ∀ x ∈ bl, x ∈ b' := fun x hx => by
    by_cases e : x ∈ bh
    · exact (mem x).mpr (.inl e)
    · exact (mem x).mpr (.inr ⟨hx, e⟩)
  refine ⟨⟨by rw [List.length_set]; exact C.len, fun i b hb => ?_⟩, fun i b hb => ?_, all⟩
  · by_cases e : h = i
    · subst e
      rw [List.getElem?_set_self hlt] at hb
      cases hb
      refine ⟨lt_of_le_nodup srt nd, fun x hx => ?_, (mem h).mpr (.inl Ch.2.2.1), fun x hx => ?_⟩
      · rcases (mem x).mp hx with z | z
        · exact Ch.2.1 x z
        · exact Cl.2.1 x z.1
      · rcases (mem x).mp hx with z | z
        · exact Ch.2.2.2 x z
        · exact .step (Cl.2.2.2 x z.1) hm
    · rw [List.getElem?_set_ne e] at hb
      exact C.lot i b hb
  · by_cases e : h = i
    · subst e
      rw [hh] at hb
      cases hb
      exact ⟨b', List.getElem?_set_self hlt, fun x hx => (mem x).mpr (.inl hx)⟩
    · exact ⟨b, by rw [List.getElem?_set_ne e]; exact hb, fun _ z => z⟩
/-- all rows of at most t pairs are told -/
def Full (n : Nat) (ps : List (Nat × Nat)) (t : Nat) (B : List (List Nat)) : Prop := ∀ (x h : Nat) (b : List Nat), h < n → B[h]? = some b → PathLe ps t x h → x ∈ b
/-- .. and of one more, over the first j pairs -/
def Rnd (ps : List (Nat × Nat)) (t j : Nat) (B : List (List Nat)) : Prop := ∀ p ∈ ps.take j, ∀ (x : Nat) (b : List Nat), B[p.2]? = some b → PathLe ps t x p.1 → x ∈ b
theorem grow_mem {B B' : List (List Nat)} (g : Grows B B') (C : B'.length = B.length) {i : Nat} {b' : List Nat} (h : B'[i]? = some b') : ∃ b, B[i]? = some b ∧ ∀ x ∈ b, x ∈ b' := by
  have hi : i < B.length := by rw [← C]; exact (List.getElem?_eq_some_iff.mp h).1
  obtain ⟨c, hc, hs⟩ := g i B[i] (List.getElem?_eq_getElem hi)
  rw [h] at hc
  cases hc
  exact ⟨_, List.getElem?_eq_getElem hi, hs⟩
theorem Full.grow {B B' : List (List Nat)} {t : Nat} (f : Full n ps t B) (g : Grows B B') (e : B'.length = B.length) : Full n ps t B' := fun x h b hn hb p => by
  obtain ⟨c, hc, hs⟩ := grow_mem g e hb
  exact hs x (f x h c hn hc p)
theorem Rnd.next {B B' : List (List Nat)} {t j l h : Nat} {bl b' : List Nat} (r : Rnd ps t j B) (f : Full n ps t B) (g : Grows B B') (e : B'.length = B.length) (hj : ps[j]? = some (l, h)) (hln : l < n)
    (hl : B[l]? = some bl) (hb' : B'[h]? = some b') (all : ∀ x ∈ bl, x ∈ b') : Rnd ps t (j + 1) B' := fun p hp x b hb pa => by
  rw [List.take_add_one, hj] at hp
  rcases List.mem_append.mp hp with hp | hp
  · obtain ⟨c, hc, hs⟩ := grow_mem g e hb
    exact hs x (r p hp x c hc pa)
  · have : p = (l, h) := by simpa using hp
    subst this
    have hb2 : B'[h]? = some b := hb
    rw [hb'] at hb2
    cases hb2
    exact all x (f x l bl hln hl pa)
theorem Full.next {B : List (List Nat)} {t : Nat} (C : Closing n ps B) (r : Rnd ps t ps.length B) : Full n ps (t + 1) B := fun x h b hn hb p => by
  rw [Rnd, List.take_length] at r
  cases p with
  | refl => exact (C.lot _ b hb).2.2.1
  | step q hm => exact r _ hm x b hb q
theorem Full.zero {B : List (List Nat)} (C : Closing n ps B) : Full n ps 0 B := fun x h b hn hb p => by
  rw [p.zero]
  exact (C.lot h b hb).2.2.1
/-- the order that comes of it -/
structure OrdOk (n : Nat) (O : List (List Nat)) : Prop where
  len : O.length = n
  asc : ∀ (i : Nat) (b : List Nat), O[i]? = some b → b.Pairwise (· < ·)
  lt : ∀ (i : Nat) (b : List Nat), O[i]? = some b → ∀ x ∈ b, x < n
  own : ∀ (i : Nat) (b : List Nat), O[i]? = some b → i ∈ b
theorem Closing.ok {B : List (List Nat)} (C : Closing n ps B) : OrdOk n B := ⟨C.len, fun i b h => (C.lot i b h).1, fun i b h => (C.lot i b h).2.1, fun i b h => (C.lot i b h).2.2.1⟩
def OrdTr (O : List (List Nat)) : Prop := ∀ (i : Nat) (b : List Nat) (j : Nat) (c : List Nat), O[i]? = some b → j ∈ b → O[j]? = some c → ∀ x ∈ c, x ∈ b
theorem ord_trans {O : List (List Nat)} (C : Closing n ps O) (f : Full n ps n O) (r : Nat → Nat) (hr : ∀ p ∈ ps, p.1 = p.2 ∨ r p.1 < r p.2) (hn : ∀ i, i < n → r i < n) : OrdTr O := fun i b j c hb hj hc x hx => by
  have hi : i < n := by rw [← C.len]; exact (List.getElem?_eq_some_iff.mp hb).1
  have ra : Reach ps x i := ((C.lot j c hc).2.2.2 x hx).trans ((C.lot i b hb).2.2.2 j hj)
  exact f x i b hi hb ((ra.path r hr).mono (Nat.le_of_lt (hn i hi)))
/-- the place of a value in a list -/
def idx (row : List Nat) (x : Nat) : Nat := match row with
  | [] => 0
  | a :: r => if a = x then 0 else idx r x + 1
theorem idx_at : ∀ {row : List Nat}, row.Nodup → ∀ {i x : Nat}, row[i]? = some x → idx row x = i
  | [], _, i, x, h => by cases h
  | a :: r, nd, 0, x, h => by
    cases h
    unfold idx
    rw [if_pos rfl]
  | a :: r, nd, i + 1, x, h => by
    have nd' := List.nodup_cons.mp nd
    have h' : r[i]? = some x := h
    unfold idx
    have ne : ¬ a = x := fun e => by
      subst e
      exact nd'.1 (List.mem_of_getElem? h')
    rw [if_neg ne, idx_at nd'.2 h']
end Zc
end

section
set_option maxHeartbeats 400000
/-! Closing pairs middle by middle (Warshall's way): mathematics. -/
namespace Zc
/-- l is below h by way of middles smaller than m alone -/
def vB (ps : List (Nat × Nat)) : Nat → Nat → Nat → Bool
  | 0, l, h => decide (l = h) || decide ((l, h) ∈ ps)
  | m + 1, l, h => vB ps m l h || (vB ps m m h && vB ps m l m)
variable {ps : List (Nat × Nat)}
theorem vB_up {m l h : Nat} (a : vB ps m l h = true) : vB ps (m + 1) l h = true := by
  show (vB ps m l h || _) = true
  rw [a]
  rfl
theorem vB_mono {l h : Nat} : ∀ {m n : Nat}, m ≤ n → vB ps m l h = true → vB ps n l h = true
  | m, 0, q, a => by
    obtain rfl : m = 0 := by omega
    exact a
  | m, n + 1, q, a => by
    by_cases e : m = n + 1
    · rw [← e]
      exact a
    · exact vB_up (vB_mono (by omega) a)
theorem vB_succ {m l h : Nat} : vB ps (m + 1) l h = true ↔ vB ps m l h = true ∨ (vB ps m m h = true ∧ vB ps m l m = true) := by
  show (vB ps m l h || (vB ps m m h && vB ps m l m)) = true ↔ _
  rw [Bool.or_eq_true, Bool.and_eq_true]
theorem vB_trans : ∀ (m : Nat) {l k h : Nat}, k < m → vB ps m l k = true → vB ps m k h = true → vB ps m l h = true
  | 0, l, k, h, q, _, _ => absurd q (Nat.not_lt_zero k)
  | m + 1, l, k, h, q, a, b => by
    rw [vB_succ] at a b ⊢
    by_cases e : k = m
    · subst e
      have a' : vB ps k l k = true := a.elim id fun z => z.2
      have b' : vB ps k k h = true := b.elim id fun z => z.1
      exact .inr ⟨b', a'⟩
    · have km : k < m := by omega
      rcases a with a | ⟨a1, a2⟩ <;> rcases b with b | ⟨b1, b2⟩
      · exact .inl (vB_trans m km a b)
      · exact .inr ⟨b1, vB_trans m km a b2⟩
      · exact .inr ⟨vB_trans m km a1 b, a2⟩
      · exact .inr ⟨b1, a2⟩
theorem vB_reach : ∀ (m : Nat) {l h : Nat}, vB ps m l h = true → Reach ps l h
  | 0, l, h, a => by
    have a' : (decide (l = h) || decide ((l, h) ∈ ps)) = true := a
    rw [Bool.or_eq_true] at a'
    rcases a' with e | e
    · rw [of_decide_eq_true e]
      exact .refl h
    · exact .step (.refl l) (of_decide_eq_true e)
  | m + 1, l, h, a => by
    rcases vB_succ.mp a with a | ⟨a1, a2⟩
    · exact vB_reach m a
    · exact (vB_reach m a2).trans (vB_reach m a1)
theorem reach_vB {n : Nat} (hp : ∀ p ∈ ps, p.1 < n ∧ p.2 < n) {l h : Nat} (r : Reach ps l h) : vB ps n l h = true := by
  induction r with
  | refl => exact vB_mono (Nat.zero_le n) (by show (decide (l = l) || _) = true; rw [decide_eq_true rfl]; rfl)
  | step a b ih => exact vB_trans n (hp _ b).1 ih (vB_mono (Nat.zero_le n) (by show (_ || decide (_ ∈ ps)) = true; rw [decide_eq_true b, Bool.or_true]))
/-- after as many middles as there are levels, all is known -/
theorem vB_iff {n : Nat} (hp : ∀ p ∈ ps, p.1 < n ∧ p.2 < n) (l h : Nat) : vB ps n l h = true ↔ Reach ps l h := ⟨vB_reach n, reach_vB hp⟩
/-- a middle's own row and column stay as they were -/
theorem vB_row (m l : Nat) : vB ps (m + 1) l m = vB ps m l m := by
  show (vB ps m l m || (vB ps m m m && vB ps m l m)) = _
  cases vB ps m l m <;> cases vB ps m m m <;> rfl
theorem vB_col (m h : Nat) : vB ps (m + 1) m h = vB ps m m h := by
  show (vB ps m m h || (vB ps m m h && vB ps m m m)) = _
  cases vB ps m m h <;> cases vB ps m m m <;> rfl
end Zc
end

section
set_option maxHeartbeats 400000
namespace K01
open PySem PySem.Spec PyProof.Rows L2 Zc Zd
/-- the statement at a place of the program's top -/
def topS (i : Nat) : Stmt :=
  PySem.Challenge.pw_lookalike_k01_orders_and_rings.main.body.getD i (.Pass ⟨0, 0, 0, 0⟩)
abbrev c_LookError : Stmt := topS 1
abbrev c_InvalidOrder : Stmt := topS 2
abbrev s_InvalidOrder___init__ : Stmt := (clsBody c_InvalidOrder).getD 0 (.Pass ⟨0, 0, 0, 0⟩)
theorem sc_InvalidOrder___init__ : FnScope ["self", "at"]
    ["self", "at"] (defScope s_InvalidOrder___init__) :=
  ⟨rfl, rfl, rfl, by decide +kernel, rfl, by decide +kernel, by decide +kernel⟩
abbrev s_is_integer : Stmt := topS 4
theorem sc_is_integer : FnScope ["value"]
    ["value"] (defScope s_is_integer) :=
  ⟨rfl, rfl, rfl, by decide +kernel, rfl, by decide +kernel, by decide +kernel⟩
abbrev s_is_number : Stmt := topS 5
theorem sc_is_number : FnScope ["value"]
    ["value"] (defScope s_is_number) :=
  ⟨rfl, rfl, rfl, by decide +kernel, rfl, by decide +kernel, by decide +kernel⟩
abbrev s_is_sequence : Stmt := topS 6
theorem sc_is_sequence : FnScope ["value"]
    ["value"] (defScope s_is_sequence) :=
  ⟨rfl, rfl, rfl, by decide +kernel, rfl, by decide +kernel, by decide +kernel⟩
abbrev s_is_tuple_of : Stmt := topS 7
theorem sc_is_tuple_of : FnScope ["value", "many"]
    ["value", "many"] (defScope s_is_tuple_of) :=
  ⟨rfl, rfl, rfl, by decide +kernel, rfl, by decide +kernel, by decide +kernel⟩
abbrev s_is_ascending : Stmt := topS 8
theorem sc_is_ascending : FnScope ["things", "k"]
    ["things"] (defScope s_is_ascending) :=
  ⟨rfl, rfl, rfl, by decide +kernel, rfl, by decide +kernel, by decide +kernel⟩
abbrev s_is_level : Stmt := topS 11
theorem sc_is_level : FnScope ["levels", "value"]
    ["levels", "value"] (defScope s_is_level) :=
  ⟨rfl, rfl, rfl, by decide +kernel, rfl, by decide +kernel, by decide +kernel⟩
abbrev s_is_lot : Stmt := topS 12
theorem sc_is_lot : FnScope ["order", "value", "level"]
    ["order", "value"] (defScope s_is_lot) :=
  ⟨rfl, rfl, rfl, by decide +kernel, rfl, by decide +kernel, by decide +kernel⟩
abbrev s_is_order : Stmt := topS 13
theorem sc_is_order : FnScope ["value", "below", "level"]
    ["value"] (defScope s_is_order) :=
  ⟨rfl, rfl, rfl, by decide +kernel, rfl, by decide +kernel, by decide +kernel⟩
abbrev s_is_level_right : Stmt := topS 14
theorem sc_is_level_right : FnScope ["order", "level", "below", "low", "lowest"]
    ["order", "level"] (defScope s_is_level_right) :=
  ⟨rfl, rfl, rfl, by decide +kernel, rfl, by decide +kernel, by decide +kernel⟩
abbrev s_check_relations : Stmt := topS 15
theorem sc_check_relations : FnScope ["levels", "pairs", "pair", "level"]
    ["levels", "pairs"] (defScope s_check_relations) :=
  ⟨rfl, rfl, rfl, by decide +kernel, rfl, by decide +kernel, by decide +kernel⟩
abbrev s_relations_of : Stmt := topS 16
theorem sc_relations_of : FnScope ["levels", "pairs", "below", "low", "high", "middle", "one", "other"]
    ["levels", "pairs"] (defScope s_relations_of) :=
  ⟨rfl, rfl, rfl, by decide +kernel, rfl, by decide +kernel, by decide +kernel⟩
abbrev s_order_of : Stmt := topS 17
theorem sc_order_of : FnScope ["levels", "pairs", "below", "order", "level", "lows", "low"]
    ["levels", "pairs"] (defScope s_order_of) :=
  ⟨rfl, rfl, rfl, by decide +kernel, rfl, by decide +kernel, by decide +kernel⟩
abbrev s_ring_of : Stmt := topS 18
theorem sc_ring_of : FnScope ["levels", "pairs", "nexts", "low", "high", "level", "ring", "_"]
    ["levels", "pairs"] (defScope s_ring_of) :=
  ⟨rfl, rfl, rfl, by decide +kernel, rfl, by decide +kernel, by decide +kernel⟩
abbrev s_ring_from : Stmt := topS 19
theorem sc_ring_from : FnScope ["nexts", "start", "reached", "ways", "longer", "way", "level"]
    ["nexts", "start"] (defScope s_ring_from) :=
  ⟨rfl, rfl, rfl, by decide +kernel, rfl, by decide +kernel, by decide +kernel⟩
abbrev s__law_draw : Stmt := topS 21
theorem sc__law_draw : FnScope ["script", "salt", "cells", "blend", "cell"]
    ["script", "salt"] (defScope s__law_draw) :=
  ⟨rfl, rfl, rfl, by decide +kernel, rfl, by decide +kernel, by decide +kernel⟩
abbrev s__law_any : Stmt := topS 22
theorem sc__law_any : FnScope ["deal", "bound", "rest"]
    ["deal", "bound"] (defScope s__law_any) :=
  ⟨rfl, rfl, rfl, by decide +kernel, rfl, by decide +kernel, by decide +kernel⟩
abbrev s__law_of : Stmt := topS 23
theorem sc__law_of : FnScope ["deal", "some"]
    ["deal", "some"] (defScope s__law_of) :=
  ⟨rfl, rfl, rfl, by decide +kernel, rfl, by decide +kernel, by decide +kernel⟩
abbrev s__law_mixed : Stmt := topS 24
theorem sc__law_mixed : FnScope ["deal", "some", "left", "found"]
    ["deal", "some"] (defScope s__law_mixed) :=
  ⟨rfl, rfl, rfl, by decide +kernel, rfl, by decide +kernel, by decide +kernel⟩
abbrev s__law_pairs : Stmt := topS 25
theorem sc__law_pairs : FnScope ["deal", "many", "row", "found", "turn", "one", "other", "low", "high"]
    ["deal", "many"] (defScope s__law_pairs) :=
  ⟨rfl, rfl, rfl, by decide +kernel, rfl, by decide +kernel, by decide +kernel⟩
abbrev s__law_closed : Stmt := topS 26
theorem sc__law_closed : FnScope ["many", "pairs", "below", "turn", "low", "high", "level", "one", "lot"]
    ["many", "pairs"] (defScope s__law_closed) :=
  ⟨rfl, rfl, rfl, by decide +kernel, rfl, by decide +kernel, by decide +kernel⟩
abbrev s__law_told : Stmt := topS 27
theorem sc__law_told : FnScope ["work", "wrong"]
    ["work"] (defScope s__law_told) :=
  ⟨rfl, rfl, rfl, by decide +kernel, rfl, by decide +kernel, by decide +kernel⟩
abbrev s__law_is_ring : Stmt := topS 28
theorem sc__law_is_ring : FnScope ["pairs", "ring", "at"]
    ["pairs", "ring"] (defScope s__law_is_ring) :=
  ⟨rfl, rfl, rfl, by decide +kernel, rfl, by decide +kernel, by decide +kernel⟩
abbrev s_law : Stmt := topS 29
theorem sc_law : FnScope ["script", "deal", "many", "pairs", "below", "knots", "a", "given", "told", "ring", "value", "at", "bad", "odd", "b", "lot", "one"]
    ["script"] (defScope s_law) :=
  ⟨rfl, rfl, rfl, by decide +kernel, rfl, by decide +kernel, by decide +kernel⟩
end K01
end

section
set_option maxHeartbeats 400000
namespace K01
open PySem PySem.Spec PyProof.Rows L2 Zc Zd
/-- all that the program's top leaves -/
structure Cn (K : PySem.W.Frag) (mg : Str → Option Value) (base : Heap) where
  f_is_integer : Addr
  fd_is_integer : FuncData
  D_is_integer : At K mg "is_integer" s_is_integer ["value"] f_is_integer fd_is_integer
  f_is_number : Addr
  fd_is_number : FuncData
  D_is_number : At K mg "is_number" s_is_number ["value"] f_is_number fd_is_number
  f_is_sequence : Addr
  fd_is_sequence : FuncData
  D_is_sequence : At K mg "is_sequence" s_is_sequence ["value"] f_is_sequence fd_is_sequence
  f_is_tuple_of : Addr
  fd_is_tuple_of : FuncData
  D_is_tuple_of : At K mg "is_tuple_of" s_is_tuple_of ["value", "many"] f_is_tuple_of fd_is_tuple_of
  f_is_ascending : Addr
  fd_is_ascending : FuncData
  D_is_ascending : At K mg "is_ascending" s_is_ascending ["things"] f_is_ascending fd_is_ascending
  c_is_ascending : Addr
  code_is_ascending : fd_is_ascending.code = .ref c_is_ascending
  p_is_ascending : Addr
  tab_is_ascending : GxR.TabB base mg c_is_ascending p_is_ascending
  f_is_level : Addr
  fd_is_level : FuncData
  D_is_level : At K mg "is_level" s_is_level ["levels", "value"] f_is_level fd_is_level
  f_is_lot : Addr
  fd_is_lot : FuncData
  D_is_lot : At K mg "is_lot" s_is_lot ["order", "value"] f_is_lot fd_is_lot
  c_is_lot : Addr
  code_is_lot : fd_is_lot.code = .ref c_is_lot
  p_is_lot : Addr
  tab_is_lot : GxR.TabB base mg c_is_lot p_is_lot
  f_is_order : Addr
  fd_is_order : FuncData
  D_is_order : At K mg "is_order" s_is_order ["value"] f_is_order fd_is_order
  c_is_order : Addr
  code_is_order : fd_is_order.code = .ref c_is_order
  p_is_order : Addr
  tab_is_order : GxR.TabB base mg c_is_order p_is_order
  f_is_level_right : Addr
  fd_is_level_right : FuncData
  D_is_level_right : At K mg "is_level_right" s_is_level_right ["order", "level"] f_is_level_right fd_is_level_right
  c_is_level_right : Addr
  code_is_level_right : fd_is_level_right.code = .ref c_is_level_right
  p_is_level_right : Addr
  tab_is_level_right : GxR.TabB base mg c_is_level_right p_is_level_right
  f_check_relations : Addr
  fd_check_relations : FuncData
  D_check_relations : At K mg "check_relations" s_check_relations ["levels", "pairs"] f_check_relations fd_check_relations
  c_check_relations : Addr
  code_check_relations : fd_check_relations.code = .ref c_check_relations
  p_check_relations : Addr
  tab_check_relations : GxR.TabB base mg c_check_relations p_check_relations
  f_relations_of : Addr
  fd_relations_of : FuncData
  D_relations_of : At K mg "relations_of" s_relations_of ["levels", "pairs"] f_relations_of fd_relations_of
  f_order_of : Addr
  fd_order_of : FuncData
  D_order_of : At K mg "order_of" s_order_of ["levels", "pairs"] f_order_of fd_order_of
  c_order_of : Addr
  code_order_of : fd_order_of.code = .ref c_order_of
  p_order_of : Addr
  tab_order_of : GxR.TabB base mg c_order_of p_order_of
  f_ring_of : Addr
  fd_ring_of : FuncData
  D_ring_of : At K mg "ring_of" s_ring_of ["levels", "pairs"] f_ring_of fd_ring_of
  f_ring_from : Addr
  fd_ring_from : FuncData
  D_ring_from : At K mg "ring_from" s_ring_from ["nexts", "start"] f_ring_from fd_ring_from
  f__law_draw : Addr
  fd__law_draw : FuncData
  D__law_draw : At K mg "_law_draw" s__law_draw ["script", "salt"] f__law_draw fd__law_draw
  f__law_any : Addr
  fd__law_any : FuncData
  D__law_any : At K mg "_law_any" s__law_any ["deal", "bound"] f__law_any fd__law_any
  f__law_of : Addr
  fd__law_of : FuncData
  D__law_of : At K mg "_law_of" s__law_of ["deal", "some"] f__law_of fd__law_of
  f__law_mixed : Addr
  fd__law_mixed : FuncData
  D__law_mixed : At K mg "_law_mixed" s__law_mixed ["deal", "some"] f__law_mixed fd__law_mixed
  f__law_pairs : Addr
  fd__law_pairs : FuncData
  D__law_pairs : At K mg "_law_pairs" s__law_pairs ["deal", "many"] f__law_pairs fd__law_pairs
  f__law_closed : Addr
  fd__law_closed : FuncData
  D__law_closed : At K mg "_law_closed" s__law_closed ["many", "pairs"] f__law_closed fd__law_closed
  f__law_told : Addr
  fd__law_told : FuncData
  D__law_told : At K mg "_law_told" s__law_told ["work"] f__law_told fd__law_told
  f__law_is_ring : Addr
  fd__law_is_ring : FuncData
  D__law_is_ring : At K mg "_law_is_ring" s__law_is_ring ["pairs", "ring"] f__law_is_ring fd__law_is_ring
  f_law : Addr
  fd_law : FuncData
  D_law : At K mg "law" s_law ["script"] f_law fd_law
  c_law : Addr
  code_law : fd_law.code = .ref c_law
  p_law : Addr
  lam_law : LamX.TabB base mg c_law p_law
  nd_lams : [p_law].Nodup
  dis_lams : ∀ p ∈ [p_law], p ∉ ([p_is_ascending, p_is_lot, p_is_order, p_is_level_right, p_check_relations, p_order_of] : List Addr)
  a_LookError : Addr
  b_LookError : BasC K mg "LookError" a_LookError
  C_InvalidOrder : Addr
  i_InvalidOrder : Addr
  fi_InvalidOrder : FuncData
  E_InvalidOrder : ErrC K mg "InvalidOrder" "InvalidOrder.__init__" s_InvalidOrder___init__ C_InvalidOrder i_InvalidOrder fi_InvalidOrder
  m_abs : mg "abs" = none
  m_all : mg "all" = none
  m_any : mg "any" = none
  m_bool : mg "bool" = none
  m_int : mg "int" = none
  m_isinstance : mg "isinstance" = none
  m_len : mg "len" = none
  m_list : mg "list" = none
  m_max : mg "max" = none
  m_min : mg "min" = none
  m_range : mg "range" = none
  m_repr : mg "repr" = none
  m_set : mg "set" = none
  m_sorted : mg "sorted" = none
  m_tuple : mg "tuple" = none
  m_zip : mg "zip" = none
  t_MOST_LEVELS : Tok
  g_MOST_LEVELS : mg "MOST_LEVELS" = some (.int 12 t_MOST_LEVELS)
/-- the tables -/
def Cn.TB {K : PySem.W.Frag} {mg : Str → Option Value} {base : Heap} (C : Cn K mg base) : List Addr := [C.p_is_ascending, C.p_is_lot, C.p_is_order, C.p_is_level_right, C.p_check_relations, C.p_order_of]
theorem Cn.in_is_ascending {K : PySem.W.Frag} {mg : Str → Option Value} {base : Heap} (C : Cn K mg base) : C.p_is_ascending ∈ C.TB := by simp [Cn.TB]
theorem Cn.in_is_lot {K : PySem.W.Frag} {mg : Str → Option Value} {base : Heap} (C : Cn K mg base) : C.p_is_lot ∈ C.TB := by simp [Cn.TB]
theorem Cn.in_is_order {K : PySem.W.Frag} {mg : Str → Option Value} {base : Heap} (C : Cn K mg base) : C.p_is_order ∈ C.TB := by simp [Cn.TB]
theorem Cn.in_is_level_right {K : PySem.W.Frag} {mg : Str → Option Value} {base : Heap} (C : Cn K mg base) : C.p_is_level_right ∈ C.TB := by simp [Cn.TB]
theorem Cn.in_check_relations {K : PySem.W.Frag} {mg : Str → Option Value} {base : Heap} (C : Cn K mg base) : C.p_check_relations ∈ C.TB := by simp [Cn.TB]
theorem Cn.in_order_of {K : PySem.W.Frag} {mg : Str → Option Value} {base : Heap} (C : Cn K mg base) : C.p_order_of ∈ C.TB := by simp [Cn.TB]
/-- code objects and their tables: generator expressions, lambdas -/
def Cn.CS {K : PySem.W.Frag} {mg : Str → Option Value} {base : Heap} (C : Cn K mg base) : List (Addr × Addr) := [(C.c_is_ascending, C.p_is_ascending), (C.c_is_lot, C.p_is_lot), (C.c_is_order, C.p_is_order), (C.c_is_level_right, C.p_is_level_right), (C.c_check_relations, C.p_check_relations), (C.c_order_of, C.p_order_of)]
def Cn.LS {K : PySem.W.Frag} {mg : Str → Option Value} {base : Heap} (C : Cn K mg base) : List (Addr × Addr) := [(C.c_law, C.p_law)]
end K01
end

section
set_option maxHeartbeats 1000000
namespace K01
open PySem PySem.Spec PyProof.Rows L2 Zc Zd
local macro_rules | `(tactic| walk_at "w") => `(tactic| simp only [wRet, wRetN, wSeq, wAsg, wDrop, wIfS, wNext, wBreak, wCont, e_aug, wVar, e_c_int, e_c_str, e_c_bl, e_c_non, e_c_ty, e_c_ref, wCD, wNil, wCons, wTup, wLst, wOp, wCB, wBM, wBM0, e_ty_s, e_ty_n, e_ty_d, e_ty_l, w2, e_w1, w2I, e_isi_int, e_isi_bool, e_isi_tuple, e_isi_list, e_isi_str, e_is_n, e_is_b, e_is_l, e_is_w, isNonD, e_fInt, e_fAdd_i, e_fAdd_s, e_fAdd_l, e_fAdd_t, e_fMul_i, e_fMul_l, e_fMul_t, e_fCmp, e_fEq_i, e_fEq_s, e_fEq_b, e_fEq_l, e_fEq_t, e_fIx_l, e_fIx_t, e_fIx_s, e_fLen_l, e_fLen_t, e_fLen_s, e_fTup_l, e_fTup_t, e_fLst_l, e_fLst_t, e_fIntO_i, e_fIntO_b, e_fAbs, e_fStr, e_fBool_i, e_fBool_b, e_fSum, e_fSort, wTest, Zd.wTru, e_tru_n, e_tru_b, e_tru_i, e_tru_s, e_tru_l, e_tru_t, e_asB, e_asI, Zd.wAnd, Zd.wOr, Zd.wNot, wAndV, wOrV, wNotV, wIf, wChain, wNoPart, wPart, wSl, e_fSl_l, e_fSl_t, e_fSl_s, wRevT, wRevL, wUn, wLstRg1, wLstRg2, e_app, e_pop, e_popAt, e_ext, e_name_a, e_name_n, e_nameF_a, e_nameF_n, e_nm_t, e_nm_f, e_par, e_gnil, e_gcons, e_gtup, wgSub, e_setL, wSeqI, e_items_l, e_items_t, e_items_s, wRng1, wRng2, wEnum, wZip, wFor, wLc, wGen, wLcA, wIxA, e_own_a, e_own_n, wRaise, wDIn, wDGet, wDNew, wDisp1, e_asA, e_asKey_i, e_asKey_s, e_asDc, e_setD, wStar, wIsLT, e_asD_d, e_asD_n, e_asD_l, e_asDs_0, e_asDs_1, e_vwD_d, e_vwD_n, e_vwD_l, e_coA_0, e_coA_d, e_coA_v, e_coA_n, e_coA_l, wCallP, wCallD, dealP, anyP, ofP, nl, onlyAt, isDeal, WDof, e_fin_d, e_fin_v, e_fin_n, e_fin_l, ent, SS.frz, sub, subC, unAll,
  List.getElem?_cons_zero, List.getElem?_cons_succ, List.getElem?_nil, List.set_cons_zero, List.set_cons_succ, List.set_nil, List.length_cons, List.length_nil, List.cons_append, List.nil_append, List.replicate_succ, List.replicate_zero, List.map_cons, List.map_nil, List.all_cons, List.all_nil, List.take_zero, List.take_succ_cons, List.take_nil, Nat.reduceAdd, Nat.reduceSub, Nat.reduceMul, Nat.reduceLeDiff, Nat.reduceLT, Nat.zero_le, Nat.le_refl, Bool.and_true, Bool.true_and, Bool.and_self, Bool.not_true, Bool.not_false, Bool.false_eq_true, Bool.true_eq_false, Bool.or_true, Bool.or_false, Bool.true_or, Bool.false_or, Bool.and_false, Bool.false_and, reduceIte, reduceCtorEq, if_true, if_false, true_and, and_true, and_self, true_or, or_true, false_or, or_false, false_and, and_false, exists_eq_left', exists_eq_left, exists_eq, Nat.add_zero, Nat.zero_add, List.append_nil, not_false_eq_true, not_true_eq_false, String.reduceEq, forall_const])
section
variable {P : Program} {w : World} {K : PySem.W.Frag} {mg : Str → Option Value} {base : Heap}
def integerP : PSp := fun as k _ => ∃ d, as = [.dat d] ∧ k (.ad (.dat (.bool (isIntD d))))
theorem ok_is_integer (C : Cn K mg base) : FnOk P w K mg base CX0 1 C.f_is_integer C.fd_is_integer ["value"] (spP K C.TB 1 (integerP)) := by
  refine fnD C.D_is_integer.F sc_is_integer rfl fun cdv A outer s H E hr => ?_
  have nd := sc_is_integer.nd
  refine ⟨_, _, (pss_one (ps_ret (pe_and (pe_callB (zcr_isi K (by rfl)) (by rfl) C.m_isinstance boot_isinstance (pa_cons (pv 0) (pa_cons (pe_bltn (v := .ty "int") (by rfl) C.m_int boot_int rfl) pa_nil))) (pe_one (pe_not (pe_callB (zcr_isi K (by rfl)) (by rfl) C.m_isinstance boot_isinstance (pa_cons (pv 0) (pa_cons (pe_bltn (v := .ty "bool") (by rfl) C.m_bool boot_bool rfl) pa_nil)))))))), inferInstance, fun as k Ex hp hl => ?_⟩
  obtain ⟨d, rfl, hk⟩ := hp
  walk_at "w"
  cases d <;> exact hk
def numberP : PSp := fun as k _ => ∃ d, as = [.dat d] ∧ k (.ad (.dat (.bool (isNumD d))))
theorem ok_is_number (C : Cn K mg base) : FnOk P w K mg base CX0 2 C.f_is_number C.fd_is_number ["value"] (spP K C.TB 1 (numberP)) := by
  refine fnD C.D_is_number.F sc_is_number rfl fun cdv A outer s H E hr => ?_
  have nd := sc_is_number.nd
  refine ⟨_, _, (pss_one (ps_ret (pe_and (pe_call (ok_is_integer C) (hr.mono (by decide)) (by rfl) C.D_is_integer.g C.D_is_integer.F.kp C.D_is_integer.b .nil pass00 (pa_cons (pv 0) pa_nil)) (pe_one (pe_cmpR zop_ge (pv 0) pe_int (nomark _)))))), inferInstance, fun as k Ex hp hl => ?_⟩
  obtain ⟨d, rfl, hk⟩ := hp
  walk_at "w"
  refine ⟨d, rfl, ?_⟩
  walk_at "w"
  cases d <;> try exact hk
  walk_at "w"
  exact hk
/-- 0 <= d < n -/
def isLev (n : Int) : PyData → Bool
  | .int i => decide (0 ≤ i) && decide (i < n)
  | _ => false
def levelP : PSp := fun as k _ => ∃ n d, as = [.dat (.int n), .dat d] ∧ k (.ad (.dat (.bool (isLev n d))))
theorem ok_is_level (C : Cn K mg base) : FnOk P w K mg base CX0 3 C.f_is_level C.fd_is_level ["levels", "value"] (spP K C.TB 2 (levelP)) := by
  refine fnD C.D_is_level.F sc_is_level rfl fun cdv A outer s H E hr => ?_
  have nd := sc_is_level.nd
  refine ⟨_, _, (pss_one (ps_ret (pe_and (pe_call (ok_is_number C) (hr.mono (by decide)) (by rfl) C.D_is_number.g C.D_is_number.F.kp C.D_is_number.b .nil pass00 (pa_cons (pv 1) pa_nil)) (pe_one (pe_cmpR zop_lt (pv 1) (pv 0) (nomark _)))))), inferInstance, fun as k Ex hp hl => ?_⟩
  obtain ⟨n, d, rfl, hk⟩ := hp
  walk_at "w"
  refine ⟨d, rfl, ?_⟩
  walk_at "w"
  cases d <;> try exact hk
  rename_i i
  walk_at "w"
  show if decide (0 ≤ i) = true then k (.ad (.dat (.bool (decide (i < n))))) else k (.ad (.dat (.bool false)))
  have hk' : k (.ad (.dat (.bool (decide (0 ≤ i) && decide (i < n))))) := hk
  cases h : decide (0 ≤ i) <;> rw [h] at hk' <;> exact hk'
def sequenceP : PSp := fun as k _ => ∃ d, as = [.dat d] ∧ k (.ad (.dat (.bool (isLstD d || isTupD d))))
/-- a tuple of so many -/
def tupLen (d : PyData) (n : Int) : Bool := match d with
  | .tuple ds => decide ((ds.length : Int) = n)
  | _ => false
def tupleOfP : PSp := fun as k _ => ∃ d n, as = [.dat d, .dat (.int n)] ∧ k (.ad (.dat (.bool (tupLen d n))))
theorem ok_is_tuple_of (C : Cn K mg base) : FnOk P w K mg base CX0 1 C.f_is_tuple_of C.fd_is_tuple_of ["value", "many"] (spP K C.TB 2 (tupleOfP)) := by
  refine fnD C.D_is_tuple_of.F sc_is_tuple_of rfl fun cdv A outer s H E hr => ?_
  have nd := sc_is_tuple_of.nd
  refine ⟨_, _, (pss_one (ps_ret (pe_and (pe_callB (zcr_isi K (by rfl)) (by rfl) C.m_isinstance boot_isinstance (pa_cons (pv 0) (pa_cons (pe_bltn (v := .ty "tuple") (by rfl) C.m_tuple boot_tuple rfl) pa_nil))) (pe_one (pe_cmpR (zop_eq K (by rfl) hr.units) (pe_callB (zcr_len K (by rfl)) (by rfl) C.m_len PySem.boot_len (pa_cons (pv 0) pa_nil)) (pv 1) (nomark _)))))), inferInstance, fun as k Ex hp hl => ?_⟩
  obtain ⟨d, n, rfl, hk⟩ := hp
  walk_at "w"
  cases d <;> try exact hk
  walk_at "w"
  exact hk
/-- ascending -/
def ascI : List Int → Bool
  | a :: b :: r => decide (a < b) && ascI (b :: r)
  | _ => true
def ascP : PSp := fun as k _ => ∃ (d : PyData) (ns : List Int), as = [.dat d] ∧ (d = .tuple (ns.map PyData.int) ∨ d = .list (ns.map PyData.int)) ∧ ns.length ≤ 1000000 ∧ k (.ad (.dat (.bool (ascI ns))))
theorem atI_ints {ns : List Int} {k : Nat} {j : Int} (hj : j = (k : Int)) (h : k < ns.length) : atI (ns.map PyData.int) j = some (.int (ns[k])) := by
  subst hj
  exact atI_nat (by rw [List.getElem?_map, List.getElem?_eq_getElem h]; rfl)
theorem asc_range : ∀ (ns : List Int), ascI ns = (List.range (ns.length - 1)).all fun k => decide (ns.getD k 0 < ns.getD (k + 1) 0)
  | [] => rfl
  | [_] => rfl
  | a :: b :: r => by
    show (decide (a < b) && ascI (b :: r)) = _
    rw [asc_range (b :: r)]
    show _ = (List.range (r.length + 1)).all _
    rw [List.range_succ_eq_map, List.all_cons, List.all_map]
    rfl
theorem ok_is_ascending (C : Cn K mg base) : FnOk P w K mg base CX0 4 C.f_is_ascending C.fd_is_ascending ["things"] (spP K C.TB 1 (ascP)) := by
  refine fnDC C.D_is_ascending.F C.code_is_ascending sc_is_ascending rfl fun A outer s H E hr => ?_
  have nd := sc_is_ascending.nd
  refine ⟨_, _, (pss_one (ps_ret (zgen [1] (pe_allG (own := [("k", 1)]) (g := gName 1) (tt := tYes) hr rfl (by rfl) C.m_all (by decide +kernel) C.tab_is_ascending rfl nd (pi_range1 (by rfl) C.m_range (pa_cons (pe_op zop_sub (pe_callB (zcr_len K (by rfl)) (by rfl) C.m_len PySem.boot_len (pa_cons (pv 0) pa_nil)) pe_int) pa_nil)) (blkOk_by (own := [("k", 1)]) (N := ["things", "k"]) (sc := defScope s_is_ascending) (by decide +kernel)) (fun _ _ _ _ _ _ _ _ _ hr => (pg_name (i := 1) nd rfl (Or.inl rfl))) (fun _ _ _ _ _ _ _ _ _ hr => pts_nil) (fun _ _ _ _ _ _ _ _ _ hr => (pe_cmpR zop_lt (pe_ix (zix K (by rfl)) (pv 0) (pv 1) (fun _ _ => rfl)) (pe_ix (zix K (by rfl)) (pv 0) (pe_op (zop_add K (by rfl)) (pv 1) pe_int) (fun _ _ => rfl)) (nomark _))))))), inferInstance, fun as k Ex hp hl => ?_⟩
  obtain ⟨d, ns, rfl, hd, hz, hk⟩ := hp
  have ix : ∀ (j : Int) (i : Nat) (k : RD → Prop), j = (i : Int) → i < ns.length → k (.ad (.dat (.int (ns.getD i 0)))) → fIx d (.int j) k := fun j i k hj h hk => by
    have e : ns.getD i 0 = ns[i] := by rw [List.getD_eq_getElem?_getD, List.getElem?_eq_getElem h]; rfl
    rw [e] at hk
    rcases hd with rfl | rfl <;> exact ⟨_, atI_ints hj h, hk⟩
  have hl : ∀ k : RD → Prop, k (.ad (.dat (.int ns.length))) → fLen d k := fun k hk => by
    rcases hd with rfl | rfl
    · show k (.ad (.dat (.int (ns.map PyData.int).length)))
      rw [List.length_map]
      exact hk
    · show k (.ad (.dat (.int (ns.map PyData.int).length)))
      rw [List.length_map]
      exact hk
  walk_at "w"
  refine ⟨C.in_is_ascending, hl _ ?_⟩
  walk_at "w"
  refine ⟨by omega, by omega, genL (fun (i : Nat) => PyData.int (0 + i)) _ rfl (fun _ => true) (fun i => decide (ns.getD i 0 < ns.getD (i + 1) 0)) (fun i hi N F h1 h2 h3 => ?_) ?_⟩
  · have hi' := List.mem_range.mp hi
    walk_at "w"
    refine ix _ i _ (by omega) (by omega) ?_
    walk_at "w"
    refine ix _ (i + 1) _ (by omega) (by omega) ?_
    walk_at "w"
    split
    · exact h1 rfl ‹_›
    · exact h2 rfl ‹_›
  · walk_at "w"
    have e : anyAllA true (fun i => decide (ns.getD i 0 < ns.getD (i + 1) 0)) ((List.range ((ns.length : Int) - 1).toNat).filter fun _ => true) = ascI ns := by
      rw [filter_yes, asc_range, show ((ns.length : Int) - 1).toNat = ns.length - 1 by omega]
      rfl
    rw [e]
    exact hk
/-- an ascending tuple of levels -/
def intOf : PyData → Int
  | .int i => i
  | _ => 0
def isLotD (n : Int) : PyData → Bool
  | .tuple ds => ds.all (isLev n) && ascI (ds.map intOf)
  | _ => false
theorem levs_ints {n : Int} : ∀ {ds : List PyData}, ds.all (isLev n) = true → ds = (ds.map intOf).map PyData.int
  | [], _ => rfl
  | d :: ds, h => by
    rw [List.all_cons, Bool.and_eq_true] at h
    rw [List.map_cons, List.map_cons, ← levs_ints h.2]
    cases d <;> first | rfl | exact absurd h.1 (by simp [isLev])
def lotP : PSp := fun as k _ => ∃ O d, as = [.dat (.tuple O), .dat d] ∧ (∀ ds, d = .tuple ds → ds.length ≤ 1000000) ∧ k (.ad (.dat (.bool (isLotD (O.length : Nat) d))))
theorem ok_is_lot (C : Cn K mg base) : FnOk P w K mg base CX0 7 C.f_is_lot C.fd_is_lot ["order", "value"] (spP K C.TB 2 (lotP)) := by
  refine fnDC C.D_is_lot.F C.code_is_lot sc_is_lot rfl fun A outer s H E hr => ?_
  have nd := sc_is_lot.nd
  refine ⟨_, _, (pss_cons (ps_if (pt_not (zpt_truth K (by rfl) (pe_callB (zcr_isi K (by rfl)) (by rfl) C.m_isinstance boot_isinstance (pa_cons (pv 1) (pa_cons (pe_bltn (v := .ty "tuple") (by rfl) C.m_tuple boot_tuple rfl) pa_nil))) (by intro _; rfl)))
    (pss_one (ps_ret pe_bl))
    pss_nil)
  (pss_one (ps_ret (pe_and (zgen [2] (pe_allG (own := [("level", 2)]) (g := gName 2) (tt := tYes) hr rfl (by rfl) C.m_all (by decide +kernel) C.tab_is_lot rfl nd (pi_seq K (by rfl) (pv 1)) (blkOk_by (own := [("level", 2)]) (N := ["order", "value", "level"]) (sc := defScope s_is_lot) (by decide +kernel)) (fun _ _ _ _ _ _ _ _ _ hr => (pg_name (i := 2) nd rfl (Or.inl rfl))) (fun _ _ _ _ _ _ _ _ _ hr => pts_nil) (fun _ _ _ _ _ _ _ _ _ hr => (pe_call (ok_is_level C) (hr.mono (by decide)) (by rfl) C.D_is_level.g C.D_is_level.F.kp C.D_is_level.b .nil pass00 (pa_cons (pe_callB (zcr_len K (by rfl)) (by rfl) C.m_len PySem.boot_len (pa_cons (pv 0) pa_nil)) (pa_cons (pv 2) pa_nil)))))) (pe_one (pe_call (ok_is_ascending C) (hr.mono (by decide)) (by rfl) C.D_is_ascending.g C.D_is_ascending.F.kp C.D_is_ascending.b .nil pass00 (pa_cons (pv 1) pa_nil))))))), inferInstance, fun as k Ex hp hl => ?_⟩
  obtain ⟨O, d, rfl, hz, hk⟩ := hp
  walk_at "w"
  cases d with
  | tuple ds =>
    walk_at "w"
    refine ⟨C.in_is_lot, genL (fun d => d) ds (List.map_id' ds).symm (fun _ => true) (isLev (O.length : Nat)) (fun d hd N F h1 h2 h3 => ?_) ?_⟩
    · walk_at "w"
      refine ⟨_, d, rfl, ?_⟩
      walk_at "w"
      split
      · exact h1 rfl ‹_›
      · exact h2 rfl ‹_›
    · rw [filter_yes]
      walk_at "w"
      have hk' : k (.ad (.dat (.bool (ds.all (isLev (O.length : Nat)) && ascI (ds.map intOf))))) := hk
      show if ds.all (isLev (O.length : Nat)) = true then _ else _
      by_cases ha : ds.all (isLev (O.length : Nat)) = true
      · rw [if_pos ha]
        rw [ha, Bool.true_and] at hk'
        refine ⟨_, ds.map intOf, rfl, .inl ?_, by rw [List.length_map]; exact hz ds rfl, rfl, hk'⟩
        rw [← levs_ints ha]
      · rw [if_neg ha]
        rw [Bool.eq_false_iff.mpr ha, Bool.false_and] at hk'
        exact hk'
  | _ => exact hk
end
end K01
end

section
set_option maxHeartbeats 1000000
namespace K01
open PySem PySem.Spec PyProof.Rows L2 Zc Zd
local macro_rules | `(tactic| walk_at "w") => `(tactic| simp only [wRet, wRetN, wSeq, wAsg, wDrop, wIfS, wNext, wBreak, wCont, e_aug, wVar, e_c_int, e_c_str, e_c_bl, e_c_non, e_c_ty, e_c_ref, wCD, wNil, wCons, wTup, wLst, wOp, wCB, wBM, wBM0, e_ty_s, e_ty_n, e_ty_d, e_ty_l, w2, e_w1, w2I, e_isi_int, e_isi_bool, e_isi_tuple, e_isi_list, e_isi_str, e_is_n, e_is_b, e_is_l, e_is_w, isNonD, e_fInt, e_fAdd_i, e_fAdd_s, e_fAdd_l, e_fAdd_t, e_fMul_i, e_fMul_l, e_fMul_t, e_fCmp, e_fEq_i, e_fEq_s, e_fEq_b, e_fEq_l, e_fEq_t, e_fIx_l, e_fIx_t, e_fIx_s, e_fLen_l, e_fLen_t, e_fLen_s, e_fTup_l, e_fTup_t, e_fLst_l, e_fLst_t, e_fIntO_i, e_fIntO_b, e_fAbs, e_fStr, e_fBool_i, e_fBool_b, e_fSum, e_fSort, wTest, Zd.wTru, e_tru_n, e_tru_b, e_tru_i, e_tru_s, e_tru_l, e_tru_t, e_asB, e_asI, Zd.wAnd, Zd.wOr, Zd.wNot, wAndV, wOrV, wNotV, wIf, wChain, wNoPart, wPart, wSl, e_fSl_l, e_fSl_t, e_fSl_s, wRevT, wRevL, wUn, wLstRg1, wLstRg2, e_app, e_pop, e_popAt, e_ext, e_name_a, e_name_n, e_nameF_a, e_nameF_n, e_nm_t, e_nm_f, e_par, e_gnil, e_gcons, e_gtup, wgSub, e_setL, wSeqI, e_items_l, e_items_t, e_items_s, wRng1, wRng2, wEnum, wZip, wFor, wLc, wGen, wLcA, wIxA, e_own_a, e_own_n, wRaise, wDIn, wDGet, wDNew, wDisp1, e_asA, e_asKey_i, e_asKey_s, e_asDc, e_setD, wStar, wIsLT, e_asD_d, e_asD_n, e_asD_l, e_asDs_0, e_asDs_1, e_vwD_d, e_vwD_n, e_vwD_l, e_coA_0, e_coA_d, e_coA_v, e_coA_n, e_coA_l, wCallP, wCallD, dealP, anyP, ofP, nl, onlyAt, isDeal, WDof, e_fin_d, e_fin_v, e_fin_n, e_fin_l, ent, SS.frz, sub, subC, unAll,
  List.getElem?_cons_zero, List.getElem?_cons_succ, List.getElem?_nil, List.set_cons_zero, List.set_cons_succ, List.set_nil, List.length_cons, List.length_nil, List.cons_append, List.nil_append, List.replicate_succ, List.replicate_zero, List.map_cons, List.map_nil, List.all_cons, List.all_nil, List.take_zero, List.take_succ_cons, List.take_nil, Nat.reduceAdd, Nat.reduceSub, Nat.reduceMul, Nat.reduceLeDiff, Nat.reduceLT, Nat.zero_le, Nat.le_refl, Bool.and_true, Bool.true_and, Bool.and_self, Bool.not_true, Bool.not_false, Bool.false_eq_true, Bool.true_eq_false, Bool.or_true, Bool.or_false, Bool.true_or, Bool.false_or, Bool.and_false, Bool.false_and, reduceIte, reduceCtorEq, if_true, if_false, true_and, and_true, and_self, true_or, or_true, false_or, or_false, false_and, and_false, exists_eq_left', exists_eq_left, exists_eq, Nat.add_zero, Nat.zero_add, List.append_nil, not_false_eq_true, not_true_eq_false, String.reduceEq, forall_const])
section
variable {P : Program} {w : World} {K : PySem.W.Frag} {mg : Str → Option Value} {base : Heap}
theorem items_natsT {l : List Nat} {kx : List PyData → Prop} : itemsD (natsT l) kx = kx (l.map natD) := rfl
/-- below low nothing is that isn't below lv, lv itself only if it is low -/
def okL (O : List (List Nat)) (lv low : Nat) : Bool := (decide (low = lv) || !decide (lv ∈ O.getD low [])) && (O.getD low []).all fun x => decide (x ∈ O.getD lv [])
def levR (O : List (List Nat)) (lv : Nat) : Bool := decide (lv ∈ O.getD lv []) && (O.getD lv []).all (okL O lv)
def levRP : PSp := fun as k _ => ∃ O lv, as = [.dat (ordD O), .dat (natD lv)] ∧ (∀ l ∈ O, ∀ x ∈ l, x < O.length) ∧ lv < O.length ∧ k (.ad (.dat (.bool (levR O lv))))
theorem ok_is_level_right (C : Cn K mg base) : FnOk P w K mg base CX0 4 C.f_is_level_right C.fd_is_level_right ["order", "level"] (spP K C.TB 2 (levRP)) := by
  refine fnDC C.D_is_level_right.F C.code_is_level_right sc_is_level_right rfl fun A outer s H E hr => ?_
  have nd := sc_is_level_right.nd
  refine ⟨_, _, (pss_cons (psF' (ps_set (i := 2) nd rfl (.inr rfl) (pe_ix (zix K (by rfl)) (pv 0) (pv 1) (fun _ _ => rfl))))
  (pss_cons (ps_if (pt_cmpR (zop_ni K (by rfl) (units65 hr)) (pv 1) (pv 2) (by rfl))
    (pss_one (ps_ret pe_bl))
    pss_nil)
  (pss_cons (ps_for PassesOwn.never rfl (pi_seq K (by rfl) (pv 2)) (pg_name (i := 3) nd rfl (Or.inl rfl))
    (pss_cons (ps_if (PW.pt (pw_and (pt_cmpR (zop_ne K (by rfl) hr.units) (pv 3) (pv 1) (nomark _)) (pw_and1 (pt_cmpR (zop_in K (by rfl) (units65 hr)) (pv 1) (pe_ix (zix K (by rfl)) (pv 0) (pv 3) (fun _ _ => rfl)) (by rfl)))))
        (pss_one (ps_ret pe_bl))
        pss_nil)
      (pss_one (ps_if (zpt_truth K (by rfl) (zgen [4] (pe_anyG (own := [("lowest", 4)]) (g := gName 4) (tt := tYes) hr rfl (by rfl) C.m_any (by decide +kernel) C.tab_is_level_right rfl nd (pi_seq K (by rfl) (pe_ix (zix K (by rfl)) (pv 0) (pv 3) (fun _ _ => rfl))) (blkOk_by (own := [("lowest", 4)]) (N := ["order", "level", "below", "low", "lowest"]) (sc := defScope s_is_level_right) (by decide +kernel)) (fun _ _ _ _ _ _ _ _ _ hr => (pg_name (i := 4) nd rfl (Or.inl rfl))) (fun _ _ _ _ _ _ _ _ _ hr => pts_nil) (fun _ _ _ _ _ _ _ _ _ hr => (pe_cmpR (zop_ni K (by rfl) (units65 hr)) (pv 4) (pv 2) (by rfl))))) (by intro _; rfl))
        (pss_one (ps_ret pe_bl))
        pss_nil))))
  (pss_one (ps_ret pe_bl))))), inferInstance, fun as k Ex hp hl => ?_⟩
  obtain ⟨O, lv, rfl, hO, hlv, hk⟩ := hp
  have low : ∀ {i x : Nat}, i < O.length → x ∈ O.getD i [] → x < O.length := fun {i x} hi hx => by
    rw [List.getD_eq_getElem?_getD, List.getElem?_eq_getElem hi] at hx
    exact hO _ (List.getElem_mem hi) x hx
  walk_at "w"
  refine ix_ord hlv ?_
  walk_at "w"
  refine in_natsT ?_
  walk_at "w"
  unfold levR at hk
  by_cases hb : lv ∈ O.getD lv []
  · rw [decide_eq_true hb] at hk
    rw [if_neg (by rw [decide_eq_true hb]; decide)]
    rw [items_natsT]
    refine forL natD (O.getD lv []) rfl (fun pre S => pre.all (okL O lv) = true ∧ ∃ a b, S = ⟨[.dat (ordD O), .dat (natD lv), .dat (natsT (O.getD lv [])), a, b], []⟩) ⟨rfl, _, _, rfl⟩ ?_ ?_
    · rintro S ⟨ha, a, b, rfl⟩
      walk_at "w"
      rw [ha] at hk
      exact hk
    · rintro pre x post S N he ⟨ha, a, b, rfl⟩ hN
      have hx : x ∈ O.getD lv [] := by rw [he]; exact List.mem_append_right _ List.mem_cons_self
      have hxl := low hlv hx
      walk_at "w"
      have all_no : okL O lv x = false → k (.ad (.dat (.bool false))) := fun h => by
        have : (O.getD lv []).all (okL O lv) = false := by
          rw [he, List.all_append, List.all_cons, h, Bool.false_and, Bool.and_false]
        rw [this] at hk
        exact hk
      have rest : (decide (x = lv) || !decide (lv ∈ O.getD x [])) = true → C.p_is_level_right ∈ C.TB ∧ fIx (ordD O) (natD x) fun r =>
        asD r { s := [AD.dat (ordD O), AD.dat (natD lv), AD.dat (natsT (O.getD lv [])), AD.dat (natD x), b], m := [] } fun d S2 =>
          itemsD d fun ds => wGenL false (wName 4) (fun S k => k true S) (wOp (w2 (fIn true)) (wVar 4) (wVar 2)) [4] S2.s
              (fun r S1 => vwD r S1 fun d => truD d fun b => if b = true then k (RD.ad (AD.dat (PyData.bool false))) else N S1) ds S2.m := fun h1 => by
        refine ⟨C.in_is_level_right, ix_ord hxl ?_⟩
        walk_at "w"
        rw [items_natsT]
        refine genL natD (O.getD x []) rfl (fun _ => true) (fun y => !decide (y ∈ O.getD lv [])) (fun y hy N F h1 h2 h3 => ?_) ?_
        · walk_at "w"
          refine in_natsT ?_
          walk_at "w"
          split
          · exact h1 rfl ‹_›
          · exact h2 rfl ‹_›
        · rw [filter_yes]
          have hx2 : okL O lv x = (O.getD x []).all fun y => decide (y ∈ O.getD lv []) := by
            unfold okL
            rw [h1, Bool.true_and]
          walk_at "w"
          have e : anyAllA false (fun y => !decide (y ∈ O.getD lv [])) (O.getD x []) = !okL O lv x := by
            rw [hx2, List.not_all_eq_any_not]
            rfl
          rw [e]
          cases ho : okL O lv x
          · exact all_no ho
          · exact hN _ _ (.refl _) ⟨by rw [List.all_append, ha, List.all_cons, ho]; rfl, _, _, rfl⟩
      by_cases e : x = lv
      · rw [if_neg (by rw [decide_eq_true (by rw [e])]; decide)]
        exact rest (by rw [decide_eq_true e]; rfl)
      · rw [if_pos (by rw [decide_eq_false (by omega)]; rfl)]
        refine ix_ord hxl ?_
        walk_at "w"
        refine in_natsT ?_
        walk_at "w"
        split
        · refine all_no ?_
          unfold okL
          rw [decide_eq_false e, ‹decide _ = true›]
          rfl
        · refine rest ?_
          have hn : ¬ _ = true := ‹¬ _›
          rw [Bool.eq_false_iff.mpr hn]
          simp
  · rw [decide_eq_false hb] at hk
    rw [if_pos (by rw [decide_eq_false hb]; decide)]
    exact hk
/-- is_order, of any data -/
def natsOf : PyData → List Nat
  | .tuple ds => ds.map fun d => (intOf d).toNat
  | _ => []
theorem lot_nats {n : Int} {b : PyData} (h : isLotD n b = true) : b = natsT (natsOf b) ∧ ∀ x ∈ natsOf b, (x : Int) < n := by
  cases b <;> first | (cases h; done) | skip
  rename_i ds
  have h' : (ds.all (isLev n) && ascI (ds.map intOf)) = true := h
  rw [Bool.and_eq_true] at h'
  have lev : ∀ d ∈ ds, d = natD (intOf d).toNat ∧ ((intOf d).toNat : Int) < n := fun d hd => by
    have := List.all_eq_true.mp h'.1 d hd
    cases d <;> first | (cases this; done) | skip
    rename_i i
    have h2 : (decide (0 ≤ i) && decide (i < n)) = true := this
    rw [Bool.and_eq_true, decide_eq_true_iff, decide_eq_true_iff] at h2
    exact ⟨by show PyData.int i = .int (i.toNat : Int); rw [Int.toNat_of_nonneg h2.1], by show (i.toNat : Int) < n; omega⟩
  refine ⟨?_, fun x hx => ?_⟩
  · show PyData.tuple ds = .tuple ((ds.map fun d => (intOf d).toNat).map natD)
    rw [List.map_map]
    congr 1
    exact (List.map_id' ds).symm.trans (List.map_congr_left fun d hd => (lev d hd).1)
  · obtain ⟨d, hd, rfl⟩ := List.mem_map.mp hx
    exact (lev d hd).2
def isOrdD : PyData → Bool
  | .tuple bs => decide (1 ≤ (bs.length : Int)) && decide ((bs.length : Int) ≤ 12) && bs.all (isLotD (bs.length : Nat)) && (List.range bs.length).all (levR (bs.map natsOf))
  | _ => false
def orderP : PSp := fun as k _ => ∃ d, as = [.dat d] ∧ (∀ bs, d = .tuple bs → ∀ b ∈ bs, ∀ ds, b = .tuple ds → ds.length ≤ 1000000) ∧ k (.ad (.dat (.bool (isOrdD d))))
theorem ok_is_order (C : Cn K mg base) : FnOk P w K mg base CX0 11 C.f_is_order C.fd_is_order ["value"] (spP K C.TB 1 (orderP)) := by
  refine fnDC C.D_is_order.F C.code_is_order sc_is_order rfl fun A outer s H E hr => ?_
  have nd := sc_is_order.nd
  refine ⟨_, _, (pss_cons (ps_if (PW.pt (pw_or (pt_not (zpt_truth K (by rfl) (pe_callB (zcr_isi K (by rfl)) (by rfl) C.m_isinstance boot_isinstance (pa_cons (pv 0) (pa_cons (pe_bltn (v := .ty "tuple") (by rfl) C.m_tuple boot_tuple rfl) pa_nil))) (by intro _; rfl))) (pw_or1 (pt_not (pt_chain zop_le zop_le pe_int (pe_callB (zcr_len K (by rfl)) (by rfl) C.m_len PySem.boot_len (pa_cons (pv 0) pa_nil)) (pe_glob (v := .int 12) (by rfl) C.g_MOST_LEVELS ⟨_, rfl⟩))))))
    (pss_one (ps_ret pe_bl))
    pss_nil)
  (pss_cons (ps_if (pt_not (zpt_truth K (by rfl) (zgen [1] (pe_allG (own := [("below", 1)]) (g := gName 1) (tt := tYes) hr rfl (by rfl) C.m_all (by decide +kernel) C.tab_is_order rfl nd (pi_seq K (by rfl) (pv 0)) (blkOk_by (own := [("below", 1)]) (N := ["value", "below", "level"]) (sc := defScope s_is_order) (by decide +kernel)) (fun _ _ _ _ _ _ _ _ _ hr => (pg_name (i := 1) nd rfl (Or.inl rfl))) (fun _ _ _ _ _ _ _ _ _ hr => pts_nil) (fun _ _ _ _ _ _ _ _ _ hr => (pe_call (ok_is_lot C) (hr.mono (by decide)) (by rfl) C.D_is_lot.g C.D_is_lot.F.kp C.D_is_lot.b .nil pass00 (pa_cons (pv 0) (pa_cons (pv 1) pa_nil)))))) (by intro _; rfl)))
    (pss_one (ps_ret pe_bl))
    pss_nil)
  (pss_one (ps_ret (zgen [2] (pe_allG (own := [("level", 2)]) (g := gName 2) (tt := tYes) hr rfl (by rfl) C.m_all (by decide +kernel) C.tab_is_order rfl nd (pi_range1 (by rfl) C.m_range (pa_cons (pe_callB (zcr_len K (by rfl)) (by rfl) C.m_len PySem.boot_len (pa_cons (pv 0) pa_nil)) pa_nil)) (blkOk_by (own := [("level", 2)]) (N := ["value", "below", "level"]) (sc := defScope s_is_order) (by decide +kernel)) (fun _ _ _ _ _ _ _ _ _ hr => (pg_name (i := 2) nd rfl (Or.inl rfl))) (fun _ _ _ _ _ _ _ _ _ hr => pts_nil) (fun _ _ _ _ _ _ _ _ _ hr => (pe_call (ok_is_level_right C) (hr.mono (by decide)) (by rfl) C.D_is_level_right.g C.D_is_level_right.F.kp C.D_is_level_right.b .nil pass00 (pa_cons (pv 0) (pa_cons (pv 2) pa_nil)))))))))), inferInstance, fun as k Ex hp hl => ?_⟩
  obtain ⟨d, rfl, hz, hk⟩ := hp
  walk_at "w"
  cases d with
  | tuple bs =>
    dsimp only [isTupD]
    walk_at "w"
    replace hk : k (.ad (.dat (.bool (decide (1 ≤ (bs.length : Int)) && decide ((bs.length : Int) ≤ 12) && bs.all (isLotD (bs.length : Nat)) && (List.range bs.length).all (levR (bs.map natsOf)))))) := hk
    cases h1 : decide (1 ≤ (bs.length : Int)) <;> rw [h1] at hk
    · exact hk
    cases h2 : decide ((bs.length : Int) ≤ 12) <;> rw [h2] at hk
    · exact hk
    walk_at "w"
    rw [decide_eq_true_iff] at h1 h2
    refine ⟨C.in_is_order, genL (fun d => d) bs (List.map_id' bs).symm (fun _ => true) (isLotD (bs.length : Nat)) (fun d hd N F g1 g2 g3 => ?_) ?_⟩
    · walk_at "w"
      refine ⟨bs, d, rfl, hz bs rfl d hd, ?_⟩
      walk_at "w"
      split
      · exact g1 rfl ‹_›
      · exact g2 rfl ‹_›
    · rw [filter_yes]
      walk_at "w"
      rw [show anyAllA true (isLotD (bs.length : Nat)) bs = bs.all (isLotD (bs.length : Nat)) from rfl]
      cases h3 : bs.all (isLotD (bs.length : Nat)) <;> rw [h3] at hk
      · exact hk
      have e : PyData.tuple bs = ordD (bs.map natsOf) := by
        unfold ordD
        rw [List.map_map]
        congr 1
        exact (List.map_id' bs).symm.trans (List.map_congr_left fun d hd => (lot_nats (List.all_eq_true.mp h3 d hd)).1)
      walk_at "w"
      refine ⟨C.in_is_order, by omega, by omega, ?_⟩
      refine genL (fun (i : Nat) => PyData.int (0 + i)) (List.range bs.length) (by rw [Int.toNat_natCast]) (fun _ => true) (levR (bs.map natsOf)) (fun i hi N F g1 g2 g3 => ?_) ?_
      · rw [Int.zero_add]
        walk_at "w"
        refine ⟨bs.map natsOf, i, by rw [e], fun l hl x hx => ?_, by rw [List.length_map]; exact List.mem_range.mp hi, ?_⟩
        · obtain ⟨d, hd, rfl⟩ := List.mem_map.mp hl
          rw [List.length_map]
          exact Int.ofNat_lt.mp ((lot_nats (List.all_eq_true.mp h3 d hd)).2 x hx)
        · walk_at "w"
          split
          · exact g1 rfl ‹_›
          · exact g2 rfl ‹_›
      · rw [filter_yes]
        walk_at "w"
        exact hk
  | _ => exact hk
end
end K01
end

section
set_option maxHeartbeats 1000000
namespace K01
open PySem PySem.Spec PyProof.Rows L2 Zc Zd
local macro_rules | `(tactic| walk_at "w") => `(tactic| simp only [wRet, wRetN, wSeq, wAsg, wDrop, wIfS, wNext, wBreak, wCont, e_aug, wVar, e_c_int, e_c_str, e_c_bl, e_c_non, e_c_ty, e_c_ref, wCD, wNil, wCons, wTup, wLst, wOp, wCB, wBM, wBM0, e_ty_s, e_ty_n, e_ty_d, e_ty_l, w2, e_w1, w2I, e_isi_int, e_isi_bool, e_isi_tuple, e_isi_list, e_isi_str, e_is_n, e_is_b, e_is_l, e_is_w, isNonD, e_fInt, e_fAdd_i, e_fAdd_s, e_fAdd_l, e_fAdd_t, e_fMul_i, e_fMul_l, e_fMul_t, e_fCmp, e_fEq_i, e_fEq_s, e_fEq_b, e_fEq_l, e_fEq_t, e_fIx_l, e_fIx_t, e_fIx_s, e_fLen_l, e_fLen_t, e_fLen_s, e_fTup_l, e_fTup_t, e_fLst_l, e_fLst_t, e_fIntO_i, e_fIntO_b, e_fAbs, e_fStr, e_fBool_i, e_fBool_b, e_fSum, e_fSort, wTest, Zd.wTru, e_tru_n, e_tru_b, e_tru_i, e_tru_s, e_tru_l, e_tru_t, e_asB, e_asI, Zd.wAnd, Zd.wOr, Zd.wNot, wAndV, wOrV, wNotV, wIf, wChain, wNoPart, wPart, wSl, e_fSl_l, e_fSl_t, e_fSl_s, wRevT, wRevL, wUn, wLstRg1, wLstRg2, e_app, e_pop, e_popAt, e_ext, e_name_a, e_name_n, e_nameF_a, e_nameF_n, e_nm_t, e_nm_f, e_par, e_gnil, e_gcons, e_gtup, wgSub, e_setL, wSeqI, e_items_l, e_items_t, e_items_s, wRng1, wRng2, wEnum, wZip, wFor, wLc, wGen, wLcA, wIxA, e_own_a, e_own_n, wRaise, wDIn, wDGet, wDNew, wDisp1, e_asA, e_asKey_i, e_asKey_s, e_asDc, e_setD, wStar, wIsLT, e_asD_d, e_asD_n, e_asD_l, e_asDs_0, e_asDs_1, e_vwD_d, e_vwD_n, e_vwD_l, e_coA_0, e_coA_d, e_coA_v, e_coA_n, e_coA_l, wCallP, wCallD, dealP, anyP, ofP, nl, onlyAt, isDeal, WDof, e_fin_d, e_fin_v, e_fin_n, e_fin_l, ent, SS.frz, sub, subC, unAll,
  List.getElem?_cons_zero, List.getElem?_cons_succ, List.getElem?_nil, List.set_cons_zero, List.set_cons_succ, List.set_nil, List.length_cons, List.length_nil, List.cons_append, List.nil_append, List.replicate_succ, List.replicate_zero, List.map_cons, List.map_nil, List.all_cons, List.all_nil, List.take_zero, List.take_succ_cons, List.take_nil, Nat.reduceAdd, Nat.reduceSub, Nat.reduceMul, Nat.reduceLeDiff, Nat.reduceLT, Nat.zero_le, Nat.le_refl, Bool.and_true, Bool.true_and, Bool.and_self, Bool.not_true, Bool.not_false, Bool.false_eq_true, Bool.true_eq_false, Bool.or_true, Bool.or_false, Bool.true_or, Bool.false_or, Bool.and_false, Bool.false_and, reduceIte, reduceCtorEq, if_true, if_false, true_and, and_true, and_self, true_or, or_true, false_or, or_false, false_and, and_false, exists_eq_left', exists_eq_left, exists_eq, Nat.add_zero, Nat.zero_add, List.append_nil, not_false_eq_true, not_true_eq_false, String.reduceEq, forall_const])
section
variable {P : Program} {w : World} {K : PySem.W.Frag} {mg : Str → Option Value} {base : Heap}
theorem ok_InvalidOrder___init__ (C : Cn K mg base) : FnOk P w K mg base CX0 1 C.i_InvalidOrder C.fi_InvalidOrder ["self", "at"] (spInit C.C_InvalidOrder) := by
  refine C.E_InvalidOrder.F.ok sc_InvalidOrder___init__ (fun vs H Q E h => ?_) (fun cdv A outer s H vs Q E hr h => ?_)
  · obtain ⟨a, y, rfl, _⟩ := h
    rfl
  obtain ⟨a, y, rfl, ha, q⟩ := h
  have nd := sc_InvalidOrder___init__.nd
  refine ⟨_, pss_cons (ps_expr (pe_ownInit (by rfl) C.b_LookError.g C.b_LookError.k C.b_LookError.t C.b_LookError.r C.b_LookError.ga C.b_LookError.fi (pa_cons (pv 0) (pa_cons pe_str pa_nil)))) (pss_one (ps_ost (pv 0) (pv 1))), ?_⟩
  exact ⟨_, rfl, a, C.C_InvalidOrder, [.str _], rfl, by decide, C.E_InvalidOrder.T, ha, _, rfl, _, rfl, a, C.C_InvalidOrder, rfl, C.E_InvalidOrder.T, C.E_InvalidOrder.no, .inl ⟨ha, q⟩⟩
theorem ok_is_sequence (C : Cn K mg base) : FnOk P w K mg base CX0 1 C.f_is_sequence C.fd_is_sequence ["value"] (spP K C.TB 1 (sequenceP)) := by
  refine fnD C.D_is_sequence.F sc_is_sequence rfl fun cdv A outer s H E hr => ?_
  have nd := sc_is_sequence.nd
  refine ⟨_, _, (pss_one (ps_ret (pe_callB (zcr_isiT K (by rfl)) (by rfl) C.m_isinstance boot_isinstance (pa_cons (pv 0) (pa_cons (pe_tup (pa_cons (pe_bltn (v := .ty "list") (by rfl) C.m_list boot_list rfl) (pa_cons (pe_bltn (v := .ty "tuple") (by rfl) C.m_tuple boot_tuple rfl) pa_nil))) pa_nil))))), inferInstance, fun as k Ex hp hl => ?_⟩
  obtain ⟨d, rfl, hk⟩ := hp
  walk_at "w"
  exact hk
def manyOk : PyData → Bool
  | .int n => decide (1 ≤ n) && decide (n ≤ 12)
  | _ => false
def pairOk (n : Int) : PyData → Bool
  | .tuple ds => decide ((ds.length : Int) = 2) && ds.all (isLev n)
  | _ => false
def pairsOk (n : Int) : PyData → Bool
  | .list ds => ds.all (pairOk n)
  | .tuple ds => ds.all (pairOk n)
  | _ => false
def checkP (C : Addr) : PSp := fun as k Ex => ∃ d e, as = [.dat d, .dat e] ∧
  (manyOk d = false → Ex (.at C (.int 0))) ∧ (manyOk d = true → pairsOk (intOf d) e = false → Ex (.at C (.int 1))) ∧ (manyOk d = true → pairsOk (intOf d) e = true → k (.ad (.dat .none)))
theorem ok_check_relations (C : Cn K mg base) : FnOk P w K mg base (L2.CX P w) 7 C.f_check_relations C.fd_check_relations ["levels", "pairs"] (spP K C.TB 2 (checkP C.C_InvalidOrder)) := by
  refine fnDXC C.D_check_relations.F C.code_check_relations sc_check_relations rfl fun A outer s H E hr => ?_
  have nd := sc_check_relations.nd
  have tk := L2.takes_of (X := cxOf (L2.CX P w) P w K mg base ["levels", "pairs", "pair", "level"] "check_relations" (defScope s_check_relations) C.f_check_relations (.ref C.c_check_relations) A outer s H E) rfl rfl rfl rfl
  refine ⟨_, fun Ex => _, (pss_cons (ps_if (PW.pt (pw_or (pt_not (zpt_truth K (by rfl) (pe_call (ok_is_integer C) (hr.mono (by decide)) (by rfl) C.D_is_integer.g C.D_is_integer.F.kp C.D_is_integer.b .nil pass00 (pa_cons (pv 0) pa_nil)) (by intro _; rfl))) (pw_or1 (pt_not (pt_chain zop_le zop_le pe_int (pv 0) (pe_glob (v := .int 12) (by rfl) C.g_MOST_LEVELS ⟨_, rfl⟩))))))
    (pss_one (zps_raise (L2.ps_raise rfl tk (pmk_oex C.E_InvalidOrder.T C.E_InvalidOrder.iC C.E_InvalidOrder.tI (ok_InvalidOrder___init__ C) (hr.mono (by decide)) C.E_InvalidOrder.b .nil pass0 (by rfl) C.E_InvalidOrder.g (pa_cons pe_int pa_nil)))))
    pss_nil)
  (pss_cons (ps_if (pt_not (zpt_truth K (by rfl) (pe_call (ok_is_sequence C) (hr.mono (by decide)) (by rfl) C.D_is_sequence.g C.D_is_sequence.F.kp C.D_is_sequence.b .nil pass00 (pa_cons (pv 1) pa_nil)) (by intro _; rfl)))
    (pss_one (zps_raise (L2.ps_raise rfl tk (pmk_oex C.E_InvalidOrder.T C.E_InvalidOrder.iC C.E_InvalidOrder.tI (ok_InvalidOrder___init__ C) (hr.mono (by decide)) C.E_InvalidOrder.b .nil pass0 (by rfl) C.E_InvalidOrder.g (pa_cons pe_int pa_nil)))))
    pss_nil)
  (pss_one (ps_for (L2.passes_of rfl) rfl (pi_seq K (by rfl) (pv 1)) (pg_name (i := 2) nd rfl (Or.inl rfl))
    (pss_one (ps_if (PW.pt (pw_or (pt_not (zpt_truth K (by rfl) (pe_call (ok_is_tuple_of C) (hr.mono (by decide)) (by rfl) C.D_is_tuple_of.g C.D_is_tuple_of.F.kp C.D_is_tuple_of.b .nil pass00 (pa_cons (pv 2) (pa_cons pe_int pa_nil))) (by intro _; rfl))) (pw_or1 (pt_not (zpt_truth K (by rfl) (zgen [3] (pe_allG (own := [("level", 3)]) (g := gName 3) (tt := tYes) hr rfl (by rfl) C.m_all (by decide +kernel) C.tab_check_relations rfl nd (pi_seq K (by rfl) (pv 2)) (blkOk_by (own := [("level", 3)]) (N := ["levels", "pairs", "pair", "level"]) (sc := defScope s_check_relations) (by decide +kernel)) (fun _ _ _ _ _ _ _ _ _ hr => (pg_name (i := 3) nd rfl (Or.inl rfl))) (fun _ _ _ _ _ _ _ _ _ hr => pts_nil) (fun _ _ _ _ _ _ _ _ _ hr => (pe_call (ok_is_level C) (hr.mono (by decide)) (by rfl) C.D_is_level.g C.D_is_level.F.kp C.D_is_level.b .nil pass00 (pa_cons (pv 0) (pa_cons (pv 3) pa_nil)))))) (by intro _; rfl))))))
        (pss_one (zps_raise (L2.ps_raise rfl tk (pmk_oex C.E_InvalidOrder.T C.E_InvalidOrder.iC C.E_InvalidOrder.tI (ok_InvalidOrder___init__ C) (hr.mono (by decide)) C.E_InvalidOrder.b .nil pass0 (by rfl) C.E_InvalidOrder.g (pa_cons pe_int pa_nil)))))
        pss_nil)))))), fun Ex => inferInstance, fun as k Ex hp hl => ?_⟩
  obtain ⟨d, e, rfl, h1, h2, h3⟩ := hp
  walk_at "w"
  refine ⟨d, rfl, ?_⟩
  walk_at "w"
  cases d <;> try exact h1 rfl
  rename_i n
  walk_at "w"
  rw [show isIntD (.int n) = true from rfl]
  walk_at "w"
  have hm : manyOk (.int n) = (decide (1 ≤ n) && decide (n ≤ 12)) := rfl
  cases c1 : decide (1 ≤ n) <;> rw [c1] at hm
  · exact h1 hm
  walk_at "w"
  cases c2 : decide (n ≤ 12) <;> rw [c2] at hm
  · exact h1 hm
  walk_at "w"
  refine ⟨e, rfl, ?_⟩
  walk_at "w"
  have loop : ∀ ds : List PyData, pairsOk n e = ds.all (pairOk n) → wForL (wName 2)
      (wIfS (wOr (Zd.wNot (Zd.wTru (wCallP (fun x => False) 2 tupleOfP (wCons (wVar 2) (wCons (wC (V.int 2)) wNil)))))
          (Zd.wNot (Zd.wTru (wGen C.TB C.p_check_relations true (wSeqI (wVar 2)) (wName 3) (fun S k => k true S) (wCallP (fun x => False) 2 levelP (wCons (wVar 0) (wCons (wVar 3) wNil))) [3]))))
        (wRaise Ex C.C_InvalidOrder (wC (V.int 1))) wNext)
      { n := 0, nx := fun S => k (RD.ad (AD.dat PyData.none)), rt := fun r S => finR [] r S.m k, bk := fun x => False, ct := fun x => False } ds { s := [AD.dat (.int n), AD.dat e, AD.un, AD.un], m := [] } := fun ds hds => by
    refine forL (fun d => d) ds (List.map_id' ds).symm (fun pre S => pre.all (pairOk n) = true ∧ ∃ a b, S = ⟨[.dat (.int n), .dat e, a, b], []⟩) ⟨rfl, _, _, rfl⟩ ?_ ?_
    · rintro S ⟨ha, a, b, rfl⟩
      exact h3 hm (hds.trans ha)
    · rintro pre x post S N he ⟨ha, a, b, rfl⟩ hN
      have bad : pairOk n x = false → Ex (.at C.C_InvalidOrder (.int 1)) := fun hx => h2 hm (by
        show pairsOk n e = false
        rw [hds, he, List.all_append, List.all_cons, hx, Bool.false_and, Bool.and_false])
      walk_at "w"
      refine ⟨x, 2, rfl, ?_⟩
      walk_at "w"
      cases x <;> try exact bad rfl
      rename_i xs
      have hx : pairOk n (.tuple xs) = (decide ((xs.length : Int) = 2) && xs.all (isLev n)) := rfl
      rw [show tupLen (.tuple xs) 2 = decide ((xs.length : Int) = 2) from rfl]
      cases c3 : decide ((xs.length : Int) = 2) <;> rw [c3] at hx
      · exact bad hx
      walk_at "w"
      refine ⟨C.in_check_relations, genL (fun d => d) xs (List.map_id' xs).symm (fun _ => true) (isLev n) (fun y hy N F g1 g2 g3 => ?_) ?_⟩
      · walk_at "w"
        refine ⟨n, y, rfl, ?_⟩
        walk_at "w"
        split
        · exact g1 rfl ‹_›
        · exact g2 rfl ‹_›
      · rw [filter_yes]
        walk_at "w"
        rw [show anyAllA true (isLev n) xs = xs.all (isLev n) from rfl]
        cases c4 : xs.all (isLev n) <;> rw [c4] at hx
        · exact bad hx
        · exact hN _ _ (.refl _) ⟨by rw [List.all_append, ha, List.all_cons, hx]; rfl, _, _, rfl⟩
  cases e <;> first | exact h2 hm rfl | skip
  · exact loop _ rfl
  · exact loop _ rfl
end
end K01
end

section
set_option maxHeartbeats 1000000
namespace K01
open PySem PySem.Spec PyProof.Rows L2 Zc Zd
local macro_rules | `(tactic| walk_at "w") => `(tactic| simp only [wRet, wRetN, wSeq, wAsg, wDrop, wIfS, wNext, wBreak, wCont, e_aug, wVar, e_c_int, e_c_str, e_c_bl, e_c_non, e_c_ty, e_c_ref, wCD, wNil, wCons, wTup, wLst, wOp, wCB, wBM, wBM0, e_ty_s, e_ty_n, e_ty_d, e_ty_l, w2, e_w1, w2I, e_isi_int, e_isi_bool, e_isi_tuple, e_isi_list, e_isi_str, e_is_n, e_is_b, e_is_l, e_is_w, isNonD, e_fInt, e_fAdd_i, e_fAdd_s, e_fAdd_l, e_fAdd_t, e_fMul_i, e_fMul_l, e_fMul_t, e_fCmp, e_fEq_i, e_fEq_s, e_fEq_b, e_fEq_l, e_fEq_t, e_fIx_l, e_fIx_t, e_fIx_s, e_fLen_l, e_fLen_t, e_fLen_s, e_fTup_l, e_fTup_t, e_fLst_l, e_fLst_t, e_fIntO_i, e_fIntO_b, e_fAbs, e_fStr, e_fBool_i, e_fBool_b, e_fSum, e_fSort, wTest, Zd.wTru, e_tru_n, e_tru_b, e_tru_i, e_tru_s, e_tru_l, e_tru_t, e_asB, e_asI, Zd.wAnd, Zd.wOr, Zd.wNot, wAndV, wOrV, wNotV, wIf, wChain, wNoPart, wPart, wSl, e_fSl_l, e_fSl_t, e_fSl_s, wRevT, wRevL, wUn, wLstRg1, wLstRg2, e_app, e_pop, e_popAt, e_ext, e_name_a, e_name_n, e_nameF_a, e_nameF_n, e_nm_t, e_nm_f, e_par, e_gnil, e_gcons, e_gtup, wgSub, e_setL, wSeqI, e_items_l, e_items_t, e_items_s, wRng1, wRng2, wEnum, wZip, wFor, wLc, wGen, wLcA, wIxA, e_own_a, e_own_n, wRaise, wDIn, wDGet, wDNew, wDisp1, e_asA, e_asKey_i, e_asKey_s, e_asDc, e_setD, wStar, wIsLT, e_asD_d, e_asD_n, e_asD_l, e_asDs_0, e_asDs_1, e_vwD_d, e_vwD_n, e_vwD_l, e_coA_0, e_coA_d, e_coA_v, e_coA_n, e_coA_l, wCallP, wCallD, dealP, anyP, ofP, nl, onlyAt, isDeal, WDof, e_fin_d, e_fin_v, e_fin_n, e_fin_l, ent, SS.frz, sub, subC, unAll,
  List.getElem?_cons_zero, List.getElem?_cons_succ, List.getElem?_nil, List.set_cons_zero, List.set_cons_succ, List.set_nil, List.length_cons, List.length_nil, List.cons_append, List.nil_append, List.replicate_succ, List.replicate_zero, List.map_cons, List.map_nil, List.all_cons, List.all_nil, List.take_zero, List.take_succ_cons, List.take_nil, Nat.reduceAdd, Nat.reduceSub, Nat.reduceMul, Nat.reduceLeDiff, Nat.reduceLT, Nat.zero_le, Nat.le_refl, Bool.and_true, Bool.true_and, Bool.and_self, Bool.not_true, Bool.not_false, Bool.false_eq_true, Bool.true_eq_false, Bool.or_true, Bool.or_false, Bool.true_or, Bool.false_or, Bool.and_false, Bool.false_and, reduceIte, reduceCtorEq, if_true, if_false, true_and, and_true, and_self, true_or, or_true, false_or, or_false, false_and, and_false, exists_eq_left', exists_eq_left, exists_eq, Nat.add_zero, Nat.zero_add, List.append_nil, not_false_eq_true, not_true_eq_false, String.reduceEq, forall_const])
section
/-- a matrix of truths: row h, column l -/
def bM (L : Nat) (f : Nat → Nat → Bool) : List (List PyData) := (List.range L).map fun h => (List.range L).map fun l => PyData.bool (f l h)
theorem bM_len {L : Nat} {f : Nat → Nat → Bool} : (bM L f).length = L := by unfold bM; rw [List.length_map, List.length_range]
theorem bM_row {L h : Nat} {f : Nat → Nat → Bool} (hh : h < L) : (bM L f)[h]? = some ((List.range L).map fun l => PyData.bool (f l h)) := by
  unfold bM
  rw [List.getElem?_map, List.getElem?_range hh]
  rfl
theorem bM_ext {L : Nat} {f g : Nat → Nat → Bool} (e : ∀ l h, l < L → h < L → f l h = g l h) : bM L f = bM L g := by
  unfold bM
  refine List.map_congr_left fun h hh => List.map_congr_left fun l hl => ?_
  rw [e l h (List.mem_range.mp hl) (List.mem_range.mp hh)]
theorem range_set {α : Type} {L i : Nat} {f : Nat → α} {x : α} : ((List.range L).map f).set i x = (List.range L).map fun j => if j = i then x else f j := by
  apply List.ext_getElem?
  intro j
  by_cases hj : j < L
  · by_cases e : i = j
    · subst e
      rw [List.getElem?_set_self (by rw [List.length_map, List.length_range]; exact hj), List.getElem?_map, List.getElem?_range hj]
      simp
    · rw [List.getElem?_set_ne e, List.getElem?_map, List.getElem?_map, List.getElem?_range hj]
      show some _ = some (if j = i then x else f j)
      rw [if_neg fun z => e z.symm]
  · rw [List.getElem?_eq_none (by rw [List.length_set, List.length_map, List.length_range]; omega), List.getElem?_eq_none (by rw [List.length_map, List.length_range]; omega)]
theorem bM_set {L h : Nat} {f : Nat → Nat → Bool} {g : Nat → Bool} : (bM L f).set h ((List.range L).map fun l => PyData.bool (g l)) = bM L fun l h' => if h' = h then g l else f l h' := by
  unfold bM
  rw [range_set]
  refine List.map_congr_left fun h' _ => ?_
  by_cases e : h' = h
  · rw [if_pos e]
    exact List.map_congr_left fun l _ => by show _ = PyData.bool (if h' = h then g l else f l h'); rw [if_pos e]
  · rw [if_neg e]
    exact List.map_congr_left fun l _ => by show _ = PyData.bool (if h' = h then g l else f l h'); rw [if_neg e]
variable {P : Program} {w : World} {K : PySem.W.Frag} {mg : Str → Option Value} {base : Heap}
def seqD (d : PyData) (ds : List PyData) : Prop := d = .list ds ∨ d = .tuple ds
def relsP : PSp := fun as k _ => ∃ (L : Nat) (e : PyData) (ps : List (Nat × Nat)), as = [.dat (natD L), .dat e] ∧ 1 ≤ L ∧ L ≤ 12 ∧ seqD e (ps.map twoD) ∧ (∀ p ∈ ps, p.1 < L ∧ p.2 < L) ∧ k (.new (.lst ((bM L (vB ps L)).map .list)))
theorem bM_out {L : Nat} {f : Nat → Nat → Bool} : (rowsM [] (bM L f))[L]? = some (.lsa (rowL 0 L)) := by
  have h := rowsM_out (m0 := []) (rows := bM L f)
  rw [bM_len, show ([] : List CD).length + L = L from Nat.zero_add L] at h
  exact h
/-- the rows as data, in one list -/
def GM (L : Nat) (rows : List (List PyData)) : List CD := List.replicate L CD.gone ++ [CD.lst (rows.map PyData.list)]
theorem GM_at {L : Nat} {rows : List (List PyData)} : (GM L rows)[L]? = some (.lst (rows.map .list)) := by
  unfold GM
  rw [List.getElem?_append_right (by rw [List.length_replicate]; exact Nat.le_refl L), List.length_replicate, Nat.sub_self]
  rfl
theorem GM_set {L : Nat} {rows : List (List PyData)} {rows' : List PyData} : (GM L rows).set L (.lst rows') = List.replicate L CD.gone ++ [CD.lst rows'] := by
  unfold GM
  rw [List.set_append_right _ _ (by rw [List.length_replicate]; exact Nat.le_refl L), List.length_replicate, Nat.sub_self]
  rfl
theorem zipD_map {α : Type} {l : List α} {f g : α → PyData} : zipD (l.map f) (l.map g) = l.map fun x => .tuple [f x, g x] := by
  unfold zipD
  induction l with
  | nil => rfl
  | cons a r ih => rw [List.map_cons, List.map_cons, List.zipWith_cons_cons, ih]; rfl
theorem items_seq {e : PyData} {ds : List PyData} (h : seqD e ds) {kx : List PyData → Prop} : itemsD e kx = kx ds := by
  rcases h with rfl | rfl <;> rfl
theorem ok_relations_of (C : Cn K mg base) : FnOk P w K mg base CX0 1 C.f_relations_of C.fd_relations_of ["levels", "pairs"] (spP K C.TB 2 (relsP)) := by
  refine fnD C.D_relations_of.F sc_relations_of rfl fun cdv A outer s H E hr => ?_
  have nd := sc_relations_of.nd
  refine ⟨_, _, (pss_cons (zslcA [4] (ps_setLc (i := 2) (own := [("high", 4)]) (g := gName 4) (tt := tYes) (by rfl) nd rfl rfl (sw_true rfl rfl rfl (by decide +kernel)) (pi_range1 (by rfl) C.m_range (pa_cons (pv 0) pa_nil)) (blkOk_by (own := [("high", 4)]) (N := ["levels", "pairs", "below", "low", "high", "middle", "one", "other"]) (sc := defScope s_relations_of) (by decide +kernel)) (fun _ _ _ _ _ => (pg_name (i := 4) nd rfl (Or.inr rfl))) (fun _ _ _ _ _ => pts_nil) (fun _ _ _ _ _ => (zlc [3] (pe_lc (own := [("low", 3)]) (g := gName 3) (tt := tYes) (by rfl) nd (pi_range1 (by rfl) C.m_range (pa_cons (pv 0) pa_nil)) (blkOk_any (own := [("low", 3)]) (N := ["levels", "pairs", "below", "low", "high", "middle", "one", "other"])  (by kernel_rfl)) (fun _ _ _ _ _ => (pg_name (i := 3) nd rfl (Or.inl rfl))) (fun _ _ _ _ _ => pts_nil) (fun _ _ _ _ _ => (pe_cmpR (zop_eq K (by rfl) hr.units) (pv 3) (pv 4) (nomark _))))))))
  (pss_cons (ps_for PassesOwn.never rfl (pi_seq K (by rfl) (pv 1)) (zpg_tup2 K 2 (by rfl) (pg_tup (by rfl) (pgs_cons (pg_name (i := 3) nd rfl (Or.inl rfl)) (pgs_cons (pg_name (i := 4) nd rfl (Or.inl rfl)) pgs_nil))) (by rfl))
    (pss_one (ps_asg pe_bl (pg_sub (zixA (pe_ix (zix K (by rfl)) (pv 2) (pv 4) (fun _ _ => rfl))) (pv 3) set_list))))
  (zghost (pss_cons (ps_for PassesOwn.never rfl (pi_range1 (by rfl) C.m_range (pa_cons (pv 0) pa_nil)) (pg_name (i := 5) nd rfl (Or.inl rfl))
    (pss_one (ps_for PassesOwn.never rfl (pi_range1 (by rfl) C.m_range (pa_cons (pv 0) pa_nil)) (pg_name (i := 4) nd rfl (Or.inl rfl))
        (pss_one (ps_if (zpt_truth K (by rfl) (pe_ix (zix K (by rfl)) (zixA (pe_ix (zix K (by rfl)) (pv 2) (pv 4) (fun _ _ => rfl))) (pv 5) (fun _ _ => rfl)) (by intro _; rfl))
            (pss_one (ps_asg (zlc [6, 7] (pe_lc (own := [("one", 6), ("other", 7)]) (g := gTup K 2 (gCons (gName 6) (gCons (gName 7) gNil))) (tt := tYes) (by rfl) nd (zpi_zip K (by rfl) (by rfl) C.m_zip (pa_cons (zixA (pe_ix (zix K (by rfl)) (pv 2) (pv 4) (fun _ _ => rfl))) (pa_cons (zixA (pe_ix (zix K (by rfl)) (pv 2) (pv 5) (fun _ _ => rfl))) pa_nil))) (blkOk_by (own := [("one", 6), ("other", 7)]) (N := ["levels", "pairs", "below", "low", "high", "middle", "one", "other"]) (sc := defScope s_relations_of) (by decide +kernel)) (fun _ _ _ _ _ => (zpg_tup2 K 2 (by rfl) (pg_tup (by rfl) (pgs_cons (pg_name (i := 6) nd rfl (Or.inl rfl)) (pgs_cons (pg_name (i := 7) nd rfl (Or.inl rfl)) pgs_nil))) (by rfl))) (fun _ _ _ _ _ => pts_nil) (fun _ _ _ _ _ => (pe_or (pv 6) (pe_one (pv 7)))))) (pg_sub (pv 2) (pv 4) set_list)))
            pss_nil)))))
  (pss_one (ps_ret (pv 2))))))), inferInstance, fun as k Ex hp hl => ?_⟩
  obtain ⟨L, e, ps, rfl, L1, L2, he, hps, hk⟩ := hp
  walk_at "w"
  rw [Int.toNat_natCast]
  refine ⟨by omega, by omega, by rw [List.length_map, List.length_range]; omega, lcA_rows (fun (i : Nat) => PyData.int (0 + i)) (fun h => (List.range L).map fun l => PyData.bool (decide (l = h))) 0 (List.range L) [] [] (fun h hh m N hN => ?_) ?_⟩
  · walk_at "w"
    rw [Int.toNat_natCast]
    refine ⟨by omega, by omega, by rw [List.length_map, List.length_range]; omega, ?_⟩
    refine lcL (fun (i : Nat) => PyData.int (0 + i)) (List.range L) rfl (fun _ => true) (fun l => PyData.bool (decide (l = h))) (fun l hl N1 N0 h1 h2 => ?_) ?_
    · walk_at "w"
      have e0 : decide ((0 : Int) + (l : Int) = 0 + (h : Int)) = decide (l = h) := decide_eq_decide.mpr (by omega)
      rw [e0]
      exact h1 rfl
    · rw [filter_yes]
      exact hN _
  walk_at "w"
  rw [items_seq he, List.length_map, List.length_range]
  have hS : (⟨[AD.dat (natD L), AD.dat e, .loc L, .un, .un, .un, .un, .un], (List.range L).map (fun x => CD.lst ((List.range L).map fun l => PyData.bool (decide (l = x)))) ++ [.lsa (rowL 0 L)]⟩ : SS) =
      ⟨[AD.dat (natD L), AD.dat e, .loc L, .un, .un, .un, .un, .un], rowsM [] (bM L fun l h => decide (l = h))⟩ := by
    unfold rowsM
    rw [bM_len, List.nil_append]
    unfold bM
    rw [List.map_map]
    rfl
  rw [hS]
  refine forL twoD ps rfl (fun pre S => ∃ a b c d f, S = ⟨[.dat (natD L), .dat e, .loc L, a, b, c, d, f], rowsM [] (bM L fun l h => decide (l = h) || decide ((l, h) ∈ pre))⟩) ⟨_, _, _, _, _, by rw [bM_ext (f := fun l h => decide (l = h)) (g := fun l h => decide (l = h) || decide ((l, h) ∈ ([] : List (Nat × Nat)))) fun l h _ _ => by simp]⟩ ?_ ?_
  · rintro S ⟨a, b, c, d, f, rfl⟩
    refine ⟨_, .trans (.un [3, 4, 5, 6, 7] _) (Wk.rows (m0 := []) (Nat.le_refl 0) (s := [.dat (natD L), .dat e, .loc L, .un, .un, .un, .un, .un]) ?_ rfl), ?_⟩
    · rw [bM_len]
      simp [clearA]
    rw [bM_len, List.nil_append]
    rw [show List.replicate L CD.gone ++ [CD.lst ((bM L fun l h => decide (l = h) || decide ((l, h) ∈ ps)).map PyData.list)] = GM L (bM L (vB ps 0)) from rfl]
    walk_at "w"
    rw [Int.toNat_natCast]
    refine ⟨by omega, by omega, forL_nat (fun m S => ∃ a b c d f, S = ⟨[.dat (natD L), .dat e, .loc L, a, b, c, d, f], GM L (bM L (vB ps m))⟩) ⟨_, _, _, _, _, rfl⟩ ?_ ?_⟩
    · rintro S ⟨a, b, c, d, f, rfl⟩
      walk_at "w"
      rw [GM_at]
      exact hk
    · rintro m S N hm ⟨a, b, c, d, f, rfl⟩ hN
      walk_at "w"
      rw [Int.toNat_natCast]
      refine ⟨by omega, by omega, forL_nat (fun h S => ∃ a b d f, S = ⟨[.dat (natD L), .dat e, .loc L, a, b, .dat (natD m), d, f], GM L (bM L fun l h' => if h' < h then vB ps (m + 1) l h' else vB ps m l h')⟩) ⟨_, _, _, _, by
        rw [bM_ext (f := vB ps m) (g := fun l h' => if h' < 0 then vB ps (m + 1) l h' else vB ps m l h') fun l h _ _ => by simp]⟩ ?_ ?_⟩
      · rintro S ⟨a, b, d, f, rfl⟩
        exact hN _ _ (.refl _) ⟨_, _, _, _, _, by
          rw [bM_ext (f := fun l h' => if h' < L then vB ps (m + 1) l h' else vB ps m l h') (g := vB ps (m + 1)) fun l h _ hh => by rw [if_pos hh]]⟩
      · rintro h S N hh ⟨a, b, d, f, rfl⟩ hN
        walk_at "w"
        obtain ⟨F, hF⟩ : ∃ F : Nat → Nat → Bool, F = fun l h' => if h' < h then vB ps (m + 1) l h' else vB ps m l h' := ⟨_, rfl⟩
        rw [← hF]
        have Fh : ∀ l, F l h = vB ps m l h := fun l => by rw [hF]; exact if_neg (Nat.lt_irrefl h)
        have Fm : ∀ l, F l m = vB ps m l m := fun l => by
          rw [hF]
          show (if m < h then vB ps (m + 1) l m else vB ps m l m) = _
          split
          · exact vB_row m l
          · rfl
        have len : ((bM L F).map PyData.list).length = L := by rw [List.length_map, bM_len]
        have rowF : ∀ i, i < L → ((bM L F).map PyData.list)[i]? = some (.list ((List.range L).map fun l => PyData.bool (F l i))) := fun i hi => by rw [List.getElem?_map, bM_row hi]; rfl
        rw [GM_at]
        refine ⟨h, _, by rw [len]; exact ix_of hh, rowF h hh, ?_⟩
        walk_at "w"
        refine ⟨_, atI_nat (by rw [List.getElem?_map, List.getElem?_range hm]; rfl), ?_⟩
        walk_at "w"
        have nxt : ∀ g : Nat → Nat → Bool, (∀ l h', l < L → h' < L → g l h' = if h' < h + 1 then vB ps (m + 1) l h' else vB ps m l h') → N ⟨[.dat (natD L), .dat e, .loc L, a, .dat (natD h), .dat (natD m), d, f], GM L (bM L g)⟩ := fun g hg =>
          hN _ _ (.refl _) ⟨_, _, _, _, by rw [bM_ext hg]⟩
        cases c1 : F m h
        · walk_at "w"
          refine nxt F fun l h' hl hh' => ?_
          by_cases e1 : h' = h
          · subst e1
            rw [Fh, if_pos (by omega)]
            show _ = (vB ps m l h' || (vB ps m m h' && vB ps m l m))
            rw [← Fh m, c1, Bool.false_and, Bool.or_false]
          · rw [hF]
            by_cases e2 : h' < h
            · rw [if_pos (by omega)]
              exact if_pos e2
            · rw [if_neg (by omega)]
              exact if_neg e2
        · walk_at "w"
          refine ⟨h, _, by rw [len]; exact ix_of hh, rowF h hh, m, _, by rw [len]; exact ix_of hm, rowF m hm, ?_⟩
          walk_at "w"
          have ez : zipD ((List.range L).map fun l => PyData.bool (F l h)) ((List.range L).map fun l => PyData.bool (F l m)) = (List.range L).map fun l => .tuple [.bool (F l h), .bool (F l m)] := zipD_map
          rw [ez]
          refine ⟨by rw [List.length_map, List.length_range]; omega, lcL (fun l => .tuple [.bool (F l h), .bool (F l m)]) (List.range L) rfl (fun _ => true) (fun l => .bool (F l h || F l m)) (fun l hl N1 N0 h1 h2 => ?_) ?_⟩
          · walk_at "w"
            cases c2 : F l h <;> rw [c2] at h1 <;> walk_at "w" <;> exact h1 rfl
          · rw [filter_yes]
            walk_at "w"
            rw [GM_at]
            refine ⟨h, by rw [len]; exact ix_of hh, ?_⟩
            have eq : (GM L (bM L F)).set L (.lst (((bM L F).map PyData.list).set h (.list ((List.range L).map fun l => PyData.bool (F l h || F l m))))) = GM L (bM L fun l h' => if h' = h then (F l h || F l m) else F l h') := by
              rw [GM_set, ← bM_set (f := F) (g := fun l => F l h || F l m)]
              unfold GM
              rw [List.map_set]
            rw [eq]
            refine nxt _ fun l h' hl hh' => ?_
            by_cases e1 : h' = h
            · subst e1
              rw [if_pos rfl, Fh, Fm, if_pos (by omega)]
              show _ = (vB ps m l h' || (vB ps m m h' && vB ps m l m))
              rw [← Fh m, c1, Bool.true_and]
            · rw [if_neg e1, hF]
              by_cases e2 : h' < h
              · rw [if_pos (show h' < h + 1 by omega)]
                exact if_pos e2
              · rw [if_neg (show ¬ h' < h + 1 by omega)]
                exact if_neg e2
  · rintro pre ⟨x, y⟩ post S N hps' ⟨a, b, c, d, f, rfl⟩ hN
    simp only [twoD]
    have hxy := hps (x, y) (by rw [hps']; exact List.mem_append_right _ List.mem_cons_self)
    walk_at "w"
    rw [bM_out]
    refine ⟨y, .loc (0 + y), by rw [rowL_len]; exact ix_of hxy.2, rowL_at hxy.2, ?_⟩
    walk_at "w"
    have hrow := rowsM_row (m0 := []) (bM_row (f := fun l h => decide (l = h) || decide ((l, h) ∈ pre)) hxy.2)
    rw [show ([] : List CD).length + y = y from Nat.zero_add y] at hrow
    rw [hrow]
    refine ⟨x, by rw [List.length_map, List.length_range]; exact ix_of hxy.1, ?_⟩
    refine hN _ _ (.refl _) ⟨.dat (natD x), .dat (natD y), c, d, f, congrArg (fun m => (⟨_, m⟩ : SS)) ?_⟩
    have hset := rowsM_set (m0 := []) (i := y) (rows := bM L fun l h => decide (l = h) || decide ((l, h) ∈ pre)) (r := ((List.range L).map fun l => PyData.bool (decide (l = y) || decide ((l, y) ∈ pre))).set x (.bool true)) (by rw [bM_len]; exact hxy.2)
    rw [show ([] : List CD).length + y = y from Nat.zero_add y] at hset
    rw [hset]
    congr 1
    rw [range_set, show ((List.range L).map fun j => if j = x then PyData.bool true else PyData.bool (decide (j = y) || decide ((j, y) ∈ pre))) = (List.range L).map (fun l => PyData.bool (if l = x then true else (decide (l = y) || decide ((l, y) ∈ pre)))) from List.map_congr_left fun l _ => by split <;> rfl, bM_set]
    refine bM_ext fun l h _ _ => ?_
    show (if h = y then (if l = x then true else (decide (l = y) || decide ((l, y) ∈ pre))) else (decide (l = h) || decide ((l, h) ∈ pre))) = (decide (l = h) || decide ((l, h) ∈ pre ++ [(x, y)]))
    have : decide ((l, h) ∈ pre ++ [(x, y)]) = (decide ((l, h) ∈ pre) || (decide (l = x) && decide (h = y))) := by
      rw [Bool.eq_iff_iff, decide_eq_true_iff, List.mem_append, Bool.or_eq_true, Bool.and_eq_true, decide_eq_true_iff, decide_eq_true_iff, decide_eq_true_iff, List.mem_singleton, Prod.mk.injEq]
    rw [this]
    by_cases e1 : h = y
    · subst e1
      rw [if_pos rfl]
      by_cases e2 : l = x
      · rw [if_pos e2, decide_eq_true e2, decide_eq_true rfl]
        simp
      · rw [if_neg e2, decide_eq_false e2]
        simp
    · rw [if_neg e1, decide_eq_false e1]
      simp
end
end K01
end

section
set_option maxHeartbeats 1000000
namespace K01
open PySem PySem.Spec PyProof.Rows L2 Zc Zd
local macro_rules | `(tactic| walk_at "w") => `(tactic| simp only [wRet, wRetN, wSeq, wAsg, wDrop, wIfS, wNext, wBreak, wCont, e_aug, wVar, e_c_int, e_c_str, e_c_bl, e_c_non, e_c_ty, e_c_ref, wCD, wNil, wCons, wTup, wLst, wOp, wCB, wBM, wBM0, e_ty_s, e_ty_n, e_ty_d, e_ty_l, w2, e_w1, w2I, e_isi_int, e_isi_bool, e_isi_tuple, e_isi_list, e_isi_str, e_is_n, e_is_b, e_is_l, e_is_w, isNonD, e_fInt, e_fAdd_i, e_fAdd_s, e_fAdd_l, e_fAdd_t, e_fMul_i, e_fMul_l, e_fMul_t, e_fCmp, e_fEq_i, e_fEq_s, e_fEq_b, e_fEq_l, e_fEq_t, e_fIx_l, e_fIx_t, e_fIx_s, e_fLen_l, e_fLen_t, e_fLen_s, e_fTup_l, e_fTup_t, e_fLst_l, e_fLst_t, e_fIntO_i, e_fIntO_b, e_fAbs, e_fStr, e_fBool_i, e_fBool_b, e_fSum, e_fSort, wTest, Zd.wTru, e_tru_n, e_tru_b, e_tru_i, e_tru_s, e_tru_l, e_tru_t, e_asB, e_asI, Zd.wAnd, Zd.wOr, Zd.wNot, wAndV, wOrV, wNotV, wIf, wChain, wNoPart, wPart, wSl, e_fSl_l, e_fSl_t, e_fSl_s, wRevT, wRevL, wUn, wLstRg1, wLstRg2, e_app, e_pop, e_popAt, e_ext, e_name_a, e_name_n, e_nameF_a, e_nameF_n, e_nm_t, e_nm_f, e_par, e_gnil, e_gcons, e_gtup, wgSub, e_setL, wSeqI, e_items_l, e_items_t, e_items_s, wRng1, wRng2, wEnum, wZip, wFor, wLc, wGen, wLcA, wIxA, e_own_a, e_own_n, wRaise, wDIn, wDGet, wDNew, wDisp1, e_asA, e_asKey_i, e_asKey_s, e_asDc, e_setD, wStar, wIsLT, e_asD_d, e_asD_n, e_asD_l, e_asDs_0, e_asDs_1, e_vwD_d, e_vwD_n, e_vwD_l, e_coA_0, e_coA_d, e_coA_v, e_coA_n, e_coA_l, wCallP, wCallD, dealP, anyP, ofP, nl, onlyAt, isDeal, WDof, e_fin_d, e_fin_v, e_fin_n, e_fin_l, ent, SS.frz, sub, subC, unAll,
  List.getElem?_cons_zero, List.getElem?_cons_succ, List.getElem?_nil, List.set_cons_zero, List.set_cons_succ, List.set_nil, List.length_cons, List.length_nil, List.cons_append, List.nil_append, List.replicate_succ, List.replicate_zero, List.map_cons, List.map_nil, List.all_cons, List.all_nil, List.take_zero, List.take_succ_cons, List.take_nil, Nat.reduceAdd, Nat.reduceSub, Nat.reduceMul, Nat.reduceLeDiff, Nat.reduceLT, Nat.zero_le, Nat.le_refl, Bool.and_true, Bool.true_and, Bool.and_self, Bool.not_true, Bool.not_false, Bool.false_eq_true, Bool.true_eq_false, Bool.or_true, Bool.or_false, Bool.true_or, Bool.false_or, Bool.and_false, Bool.false_and, reduceIte, reduceCtorEq, if_true, if_false, true_and, and_true, and_self, true_or, or_true, false_or, or_false, false_and, and_false, exists_eq_left', exists_eq_left, exists_eq, Nat.add_zero, Nat.zero_add, List.append_nil, not_false_eq_true, not_true_eq_false, String.reduceEq, forall_const])
section
variable {P : Program} {w : World} {K : PySem.W.Frag} {mg : Str → Option Value} {base : Heap}
/-- what is let by: many levels, pairs of them -/
theorem many_of {d : PyData} (h : manyOk d = true) : ∃ L : Nat, d = natD L ∧ intOf d = L ∧ 1 ≤ L ∧ L ≤ 12 := by
  cases d <;> first | (cases h; done) | skip
  rename_i n
  have h' : (decide (1 ≤ n) && decide (n ≤ 12)) = true := h
  rw [Bool.and_eq_true, decide_eq_true_iff, decide_eq_true_iff] at h'
  exact ⟨n.toNat, by show PyData.int n = .int (n.toNat : Int); rw [Int.toNat_of_nonneg (by omega)], by show n = _; omega, by omega, by omega⟩
theorem lev_of {n : Nat} {d : PyData} (h : isLev n d = true) : ∃ i : Nat, d = natD i ∧ i < n := by
  cases d <;> first | (cases h; done) | skip
  rename_i i
  have h' : (decide (0 ≤ i) && decide (i < n)) = true := h
  rw [Bool.and_eq_true, decide_eq_true_iff, decide_eq_true_iff] at h'
  exact ⟨i.toNat, by show PyData.int i = .int (i.toNat : Int); rw [Int.toNat_of_nonneg (by omega)], by omega⟩
theorem all_pairs {n : Nat} : ∀ {ds : List PyData}, ds.all (pairOk n) = true → ∃ ps : List (Nat × Nat), ds = ps.map twoD ∧ ∀ p ∈ ps, p.1 < n ∧ p.2 < n
  | [], _ => ⟨[], rfl, fun p h => absurd h List.not_mem_nil⟩
  | d :: ds, h => by
    rw [List.all_cons, Bool.and_eq_true] at h
    obtain ⟨ps, rfl, hp⟩ := all_pairs h.2
    have h1 := h.1
    cases d <;> first | (cases h1; done) | skip
    rename_i xs
    have h' : (decide ((xs.length : Int) = 2) && xs.all (isLev n)) = true := h1
    rw [Bool.and_eq_true, decide_eq_true_iff] at h'
    match xs, h' with
    | [a, b], h' =>
      obtain ⟨_, h2⟩ := h'
      rw [List.all_cons, List.all_cons, Bool.and_eq_true, Bool.and_eq_true] at h2
      obtain ⟨i, rfl, hi⟩ := lev_of h2.1
      obtain ⟨j, rfl, hj⟩ := lev_of h2.2.1
      exact ⟨(i, j) :: ps, rfl, fun p hm => by
        rcases List.mem_cons.mp hm with rfl | hm
        · exact ⟨hi, hj⟩
        · exact hp p hm⟩
    | [], h' => exact absurd h'.1 (by decide)
    | [_], h' => exact absurd h'.1 (by simp only [List.length_cons, List.length_nil]; omega)
    | _ :: _ :: _ :: _, h' => exact absurd h'.1 (by simp only [List.length_cons]; omega)
theorem pairs_of {n : Nat} {e : PyData} (h : pairsOk n e = true) : ∃ ps : List (Nat × Nat), seqD e (ps.map twoD) ∧ ∀ p ∈ ps, p.1 < n ∧ p.2 < n := by
  cases e <;> first | (cases h; done) | skip
  · obtain ⟨ps, rfl, hp⟩ := all_pairs h
    exact ⟨ps, .inl rfl, hp⟩
  · obtain ⟨ps, rfl, hp⟩ := all_pairs h
    exact ⟨ps, .inr rfl, hp⟩
/-- the lows of a level; two levels within each other -/
def lowsB (L : Nat) (B : Nat → Nat → Bool) (h : Nat) : List Nat := (List.range L).filter fun l => B l h
def knotB (L : Nat) (B : Nat → Nat → Bool) (h : Nat) : Bool := ((lowsB L B h).filter fun l => !decide (l = h)).any fun l => B h l
def ordB (L : Nat) (B : Nat → Nat → Bool) : List (List Nat) := (List.range L).map (lowsB L B)
/-- .. of pairs that are given -/
structure Given (d e : PyData) (L : Nat) (ps : List (Nat × Nat)) : Prop where
  d : d = natD L
  e : seqD e (ps.map twoD)
  l1 : 1 ≤ L
  l2 : L ≤ 12
  lt : ∀ p ∈ ps, p.1 < L ∧ p.2 < L
theorem given_of {d e : PyData} (h1 : manyOk d = true) (h2 : pairsOk (intOf d) e = true) : ∃ L ps, Given d e L ps := by
  obtain ⟨L, hd, hi, l1, l2⟩ := many_of h1
  rw [hi] at h2
  obtain ⟨ps, he, hp⟩ := pairs_of h2
  exact ⟨L, ps, hd, he, l1, l2, hp⟩
def orderOfP (C : Addr) : PSp := fun as k Ex => ∃ d e, as = [.dat d, .dat e] ∧
  (manyOk d = false → Ex (.at C (.int 0))) ∧ (manyOk d = true → pairsOk (intOf d) e = false → Ex (.at C (.int 1))) ∧
  (∀ L ps, Given d e L ps → ((List.range L).any (knotB L (vB ps L)) = true → Ex (.at C (.int 2))) ∧ ((List.range L).any (knotB L (vB ps L)) = false → k (.ad (.dat (ordD (ordB L (vB ps L)))))))
theorem at_bM {L h : Nat} {f : Nat → Nat → Bool} (hh : h < L) : atI ((bM L f).map PyData.list) (h : Int) = some (.list ((List.range L).map fun l => PyData.bool (f l h))) := atI_nat (by rw [List.getElem?_map, bM_row hh]; rfl)
theorem at_bR {L l : Nat} {f : Nat → Bool} (hl : l < L) : atI ((List.range L).map fun l => PyData.bool (f l)) (l : Int) = some (.bool (f l)) := atI_nat (by rw [List.getElem?_map, List.getElem?_range hl]; rfl)
theorem ok_order_of (C : Cn K mg base) : FnOk P w K mg base (L2.CX P w) 9 C.f_order_of C.fd_order_of ["levels", "pairs"] (spP K C.TB 2 (orderOfP C.C_InvalidOrder)) := by
  refine fnDXC C.D_order_of.F C.code_order_of sc_order_of rfl fun A outer s H E hr => ?_
  have nd := sc_order_of.nd
  have tk := L2.takes_of (X := cxOf (L2.CX P w) P w K mg base ["levels", "pairs", "below", "order", "level", "lows", "low"] "order_of" (defScope s_order_of) C.f_order_of (.ref C.c_order_of) A outer s H E) rfl rfl rfl rfl
  refine ⟨_, fun Ex => _, (pss_cons (ps_expr (pe_call (ok_check_relations C) (hr.mono (by decide)) (by rfl) C.D_check_relations.g C.D_check_relations.F.kp C.D_check_relations.b .nil (L2.passes_call tk fun _ _ _ _ h => h) (pa_cons (pv 0) (pa_cons (pv 1) pa_nil))))
  (pss_cons (psF' (ps_set (i := 2) nd rfl (.inr rfl) (pe_call (ok_relations_of C) (hr.mono (by decide)) (by rfl) C.D_relations_of.g C.D_relations_of.F.kp C.D_relations_of.b .nil pass00 (pa_cons (pv 0) (pa_cons (pv 1) pa_nil)))))
  (pss_cons (ps_set (i := 3) nd rfl (.inl rfl) (pe_lst pa_nil))
  (pss_cons (ps_for (L2.passes_of rfl) rfl (pi_range1 (by rfl) C.m_range (pa_cons (pv 0) pa_nil)) (pg_name (i := 4) nd rfl (Or.inr rfl))
    (pss_cons (psF' (ps_set (i := 5) nd rfl (.inl rfl) (pe_callTy (zcr_tuple K (by rfl)) (by rfl) C.m_tuple boot_tuple (pa_cons (zlc [6] (pe_lc (own := [("low", 6)]) (g := gName 6)  (by rfl) nd (pi_range1 (by rfl) C.m_range (pa_cons (pv 0) pa_nil)) (blkOk_by (own := [("low", 6)]) (N := ["levels", "pairs", "below", "order", "level", "lows", "low"]) (sc := defScope s_order_of) (by decide +kernel)) (fun _ _ _ _ _ => (pg_name (i := 6) nd rfl (Or.inl rfl))) (fun _ _ _ _ _ => (pts_one (zpt_truth K (by rfl) (pe_ix (zix K (by rfl)) (pe_ix (zix K (by rfl)) (pv 2) (pv 4) (fun _ _ => rfl)) (pv 6) (fun _ _ => rfl)) (by intro _; rfl)))) (fun _ _ _ _ _ => (pv 6)))) pa_nil))))
      (pss_cons (ps_if (zpt_truth K (by rfl) (zgen [6] (pe_anyG (own := [("low", 6)]) (g := gName 6)  hr rfl (by rfl) C.m_any (by decide +kernel) C.tab_order_of rfl nd (pi_seq K (by rfl) (pv 5)) (blkOk_by (own := [("low", 6)]) (N := ["levels", "pairs", "below", "order", "level", "lows", "low"]) (sc := defScope s_order_of) (by decide +kernel)) (fun _ _ _ _ _ _ _ _ _ hr => (pg_name (i := 6) nd rfl (Or.inl rfl))) (fun _ _ _ _ _ _ _ _ _ hr => (pts_one (pt_cmpR (zop_ne K (by rfl) hr.units) (pv 6) (pv 4) (nomark _)))) (fun _ _ _ _ _ _ _ _ _ hr => (pe_ix (zix K (by rfl)) (pe_ix (zix K (by rfl)) (pv 2) (pv 6) (fun _ _ => rfl)) (pv 4) (fun _ _ => rfl))))) (by intro _; rfl))
        (pss_one (zps_raise (L2.ps_raise rfl tk (pmk_oex C.E_InvalidOrder.T C.E_InvalidOrder.iC C.E_InvalidOrder.tI (ok_InvalidOrder___init__ C) (hr.mono (by decide)) C.E_InvalidOrder.b .nil pass0 (by rfl) C.E_InvalidOrder.g (pa_cons pe_int pa_nil)))))
        pss_nil)
      (pss_one (ps_expr (zbm K (by rfl) (pe_bm PySem.F.plainAttrs_list PySem.F.slot_list_append PySem.F.type_list_append mt_append (pv 3) (pa_cons (pv 5) pa_nil))))))))
  (pss_one (ps_ret (pe_callTy (zcr_tuple K (by rfl)) (by rfl) C.m_tuple boot_tuple (pa_cons (pv 3) pa_nil)))))))), fun Ex => inferInstance, fun as k Ex hp hl => ?_⟩
  obtain ⟨d, e, rfl, h1, h2, h3⟩ := hp
  walk_at "w"
  refine ⟨d, e, rfl, h1, h2, fun g1 g2 => ?_⟩
  obtain ⟨L, ps, G⟩ := given_of g1 g2
  replace h3 := h3 L ps G
  obtain ⟨h3, h4⟩ := h3
  clear h1 h2
  obtain ⟨rfl, he, L1, L2, hps⟩ := G
  refine ⟨L, e, ps, rfl, L1, L2, he, hps, ?_⟩
  walk_at "w"
  rw [Int.toNat_natCast]
  refine ⟨by omega, by omega, forL_nat (fun h S => (List.range h).any (knotB L (vB ps L)) = false ∧ ∃ a b c, S = ⟨[.dat (natD L), .dat e, .dat (.list ((bM L (vB ps L)).map .list)), .loc 0, a, b, c], [.lst (((List.range h).map (lowsB L (vB ps L))).map natsT)]⟩) ⟨rfl, _, _, _, rfl⟩ ?_ ?_⟩
  · rintro S ⟨hk, a, b, c, rfl⟩
    walk_at "w"
    exact h4 hk
  · rintro h S N hh ⟨hk, a, b, c, rfl⟩ hN
    walk_at "w"
    rw [Int.toNat_natCast]
    refine ⟨by omega, by omega, by rw [List.length_map, List.length_range]; omega, lcL (fun (i : Nat) => PyData.int (0 + i)) (List.range L) rfl (fun l => vB ps L l h) natD (fun l hl N1 N0 g1 g2 => ?_) ?_⟩
    · rw [Int.zero_add]
      have hl' := List.mem_range.mp hl
      walk_at "w"
      refine ⟨_, at_bM hh, ?_⟩
      walk_at "w"
      refine ⟨_, at_bR hl', ?_⟩
      walk_at "w"
      cases c1 : vB ps L l h
      · exact g2 c1
      · exact g1 c1
    · walk_at "w"
      refine ⟨C.in_order_of, ?_⟩
      refine genL natD (lowsB L (vB ps L) h) rfl (fun l => !decide (l = h)) (fun l => vB ps L h l) (fun l hl N1 F g1 g2 g3 => ?_) ?_
      · have hl' : l < L := List.mem_range.mp (List.mem_filter.mp hl).1
        walk_at "w"
        have e0 : decide ((l : Int) = (h : Int)) = decide (l = h) := decide_eq_decide.mpr (by omega)
        rw [e0]
        cases c1 : !decide (l = h)
        · exact g3 c1
        · walk_at "w"
          refine ⟨_, at_bM hl', ?_⟩
          walk_at "w"
          refine ⟨_, at_bR hh, ?_⟩
          walk_at "w"
          cases c2 : vB ps L h l
          · rw [if_pos rfl]
            exact g1 c1 c2
          · rw [if_neg (fun z => nomatch z)]
            exact g2 c1 (fun z => by rw [c2] at z; cases z)
      · walk_at "w"
        rw [show anyAllA false (fun l => vB ps L h l) ((lowsB L (vB ps L) h).filter fun l => !decide (l = h)) = knotB L (vB ps L) h from rfl]
        cases c1 : knotB L (vB ps L) h
        · walk_at "w"
          refine ⟨by rw [List.length_map, List.length_map, List.length_range]; omega, hN _ _ (.refl _) ⟨by rw [List.range_succ, List.any_append, hk, List.any_cons, c1]; rfl, _, _, _, ss_m (by rw [List.range_succ, List.map_append, List.map_append]; rfl)⟩⟩
        · refine h3 ?_
          rw [List.any_eq_true]
          exact ⟨h, List.mem_range.mpr hh, c1⟩
end
end K01
end

section
set_option maxHeartbeats 1000000
namespace K01
open PySem PySem.Spec PyProof.Rows L2 Zc Zd
local macro_rules | `(tactic| walk_at "w") => `(tactic| simp only [wRet, wRetN, wSeq, wAsg, wDrop, wIfS, wNext, wBreak, wCont, e_aug, wVar, e_c_int, e_c_str, e_c_bl, e_c_non, e_c_ty, e_c_ref, wCD, wNil, wCons, wTup, wLst, wOp, wCB, wBM, wBM0, e_ty_s, e_ty_n, e_ty_d, e_ty_l, w2, e_w1, w2I, e_isi_int, e_isi_bool, e_isi_tuple, e_isi_list, e_isi_str, e_is_n, e_is_b, e_is_l, e_is_w, isNonD, e_fInt, e_fAdd_i, e_fAdd_s, e_fAdd_l, e_fAdd_t, e_fMul_i, e_fMul_l, e_fMul_t, e_fCmp, e_fEq_i, e_fEq_s, e_fEq_b, e_fEq_l, e_fEq_t, e_fIx_l, e_fIx_t, e_fIx_s, e_fLen_l, e_fLen_t, e_fLen_s, e_fTup_l, e_fTup_t, e_fLst_l, e_fLst_t, e_fIntO_i, e_fIntO_b, e_fAbs, e_fStr, e_fBool_i, e_fBool_b, e_fSum, e_fSort, wTest, Zd.wTru, e_tru_n, e_tru_b, e_tru_i, e_tru_s, e_tru_l, e_tru_t, e_asB, e_asI, Zd.wAnd, Zd.wOr, Zd.wNot, wAndV, wOrV, wNotV, wIf, wChain, wNoPart, wPart, wSl, e_fSl_l, e_fSl_t, e_fSl_s, wRevT, wRevL, wUn, wLstRg1, wLstRg2, e_app, e_pop, e_popAt, e_ext, e_name_a, e_name_n, e_nameF_a, e_nameF_n, e_nm_t, e_nm_f, e_par, e_gnil, e_gcons, e_gtup, wgSub, e_setL, wSeqI, e_items_l, e_items_t, e_items_s, wRng1, wRng2, wEnum, wZip, wFor, wLc, wGen, wLcA, wIxA, e_own_a, e_own_n, wRaise, wDIn, wDGet, wDNew, wDisp1, e_asA, e_asKey_i, e_asKey_s, e_asDc, e_setD, wStar, wIsLT, e_asD_d, e_asD_n, e_asD_l, e_asDs_0, e_asDs_1, e_vwD_d, e_vwD_n, e_vwD_l, e_coA_0, e_coA_d, e_coA_v, e_coA_n, e_coA_l, wCallP, wCallD, dealP, anyP, ofP, nl, onlyAt, isDeal, WDof, e_fin_d, e_fin_v, e_fin_n, e_fin_l, ent, SS.frz, sub, subC, unAll,
  List.getElem?_cons_zero, List.getElem?_cons_succ, List.getElem?_nil, List.set_cons_zero, List.set_cons_succ, List.set_nil, List.length_cons, List.length_nil, List.cons_append, List.nil_append, List.replicate_succ, List.replicate_zero, List.map_cons, List.map_nil, List.all_cons, List.all_nil, List.take_zero, List.take_succ_cons, List.take_nil, Nat.reduceAdd, Nat.reduceSub, Nat.reduceMul, Nat.reduceLeDiff, Nat.reduceLT, Nat.zero_le, Nat.le_refl, Bool.and_true, Bool.true_and, Bool.and_self, Bool.not_true, Bool.not_false, Bool.false_eq_true, Bool.true_eq_false, Bool.or_true, Bool.or_false, Bool.true_or, Bool.false_or, Bool.and_false, Bool.false_and, reduceIte, reduceCtorEq, if_true, if_false, true_and, and_true, and_self, true_or, or_true, false_or, or_false, false_and, and_false, exists_eq_left', exists_eq_left, exists_eq, Nat.add_zero, Nat.zero_add, List.append_nil, not_false_eq_true, not_true_eq_false, String.reduceEq, forall_const])
section
variable {P : Program} {w : World} {K : PySem.W.Frag} {mg : Str → Option Value} {base : Heap}
/-- a way from s along nx, none twice -/
structure Way (nx : Nat → List Nat) (s : Nat) (w : List Nat) : Prop where
  hd : w.head? = some s
  nd : w.Nodup
  ch : ∀ i, i + 1 < w.length → w.getD (i + 1) 0 ∈ nx (w.getD i 0)
def lastN (w : List Nat) : Nat := w.getD (w.length - 1) 0
theorem Way.pos {nx : Nat → List Nat} {s : Nat} {w : List Nat} (h : Way nx s w) : 0 < w.length := by
  cases w with
  | nil => cases h.hd
  | cons a r => exact Nat.succ_pos _
theorem lastN_mem {w : List Nat} (h : 0 < w.length) : lastN w ∈ w := by
  unfold lastN
  rw [List.getD_eq_getElem?_getD, List.getElem?_eq_getElem (by omega)]
  exact List.getElem_mem _
theorem Way.snoc {nx : Nat → List Nat} {s y : Nat} {w : List Nat} (h : Way nx s w) (hy : y ∉ w) (hn : y ∈ nx (lastN w)) : Way nx s (w ++ [y]) := by
  have hp := h.pos
  refine ⟨by rw [List.head?_append, h.hd]; rfl, ?_, fun i hi => ?_⟩
  · rw [List.nodup_append]
    refine ⟨h.nd, List.nodup_cons.mpr ⟨List.not_mem_nil, .nil⟩, fun a ha b hb e => ?_⟩
    rw [List.mem_singleton.mp hb] at e
    exact hy (e ▸ ha)
  · rw [List.length_append, List.length_singleton] at hi
    have old : ∀ j, j < w.length → (w ++ [y]).getD j 0 = w.getD j 0 := fun j hj => by
      rw [List.getD_eq_getElem?_getD, List.getD_eq_getElem?_getD, List.getElem?_append_left hj]
    by_cases e : i + 1 < w.length
    · rw [old _ e, old _ (by omega)]
      exact h.ch i e
    · have e1 : i = w.length - 1 := by omega
      have e3 : (w ++ [y]).getD (i + 1) 0 = y := by
        rw [List.getD_eq_getElem?_getD, List.getElem?_append_right (by omega), show i + 1 - w.length = 0 by omega]
        rfl
      rw [old i (by omega), e3, e1]
      exact hn
/-- how many levels are not reached -/
def cnt (L : Nat) (R : List Nat) : Nat := ((List.range L).filter fun x => !decide (x ∈ R)).length
theorem filter_lt {α : Type} {p q : α → Bool} (h : ∀ y, q y = true → p y = true) : ∀ {l : List α}, (l.filter q).length ≤ (l.filter p).length ∧ ((∃ x ∈ l, p x = true ∧ q x = false) → (l.filter q).length + 1 ≤ (l.filter p).length)
  | [] => ⟨Nat.le_refl _, fun ⟨x, hx, _⟩ => absurd hx List.not_mem_nil⟩
  | a :: r => by
    obtain ⟨i1, i2⟩ := filter_lt h (l := r)
    cases hp : p a <;> cases hq : q a
    · rw [List.filter_cons_of_neg (by rw [hq]; decide), List.filter_cons_of_neg (by rw [hp]; decide)]
      refine ⟨i1, fun ⟨x, hx, e1, e2⟩ => i2 ?_⟩
      rcases List.mem_cons.mp hx with rfl | hx
      · rw [hp] at e1; cases e1
      · exact ⟨x, hx, e1, e2⟩
    · rw [h a hq] at hp
      cases hp
    · rw [List.filter_cons_of_neg (by rw [hq]; decide), List.filter_cons_of_pos hp, List.length_cons]
      exact ⟨by omega, fun _ => by omega⟩
    · rw [List.filter_cons_of_pos hq, List.filter_cons_of_pos hp, List.length_cons, List.length_cons]
      refine ⟨by omega, fun ⟨x, hx, e1, e2⟩ => ?_⟩
      rcases List.mem_cons.mp hx with rfl | hx
      · rw [hq] at e2; cases e2
      · have := i2 ⟨x, hx, e1, e2⟩
        omega
theorem cnt_snoc {L x : Nat} {R : List Nat} (hx : x < L) (hn : x ∉ R) : cnt L (R ++ [x]) + 1 ≤ cnt L R :=
  (filter_lt (p := fun x => !decide (x ∈ R)) (q := fun y => !decide (y ∈ R ++ [x])) fun y hy => by
    simp only [List.mem_append, Bool.not_eq_true', decide_eq_false_iff_not] at hy ⊢
    exact fun z => hy (.inl z)).2 ⟨x, List.mem_range.mpr hx, by simp [hn], by simp⟩
theorem cnt_le {L : Nat} {R : List Nat} : cnt L R ≤ L := by
  have h := List.length_filter_le (fun x => !decide (x ∈ R)) (List.range L)
  rw [List.length_range] at h
  exact h
/-- the dict of what is reached -/
def keysD (R : List Nat) : List (Key × AD) := R.map fun (x : Nat) => (.inl (x : Int), .dat (.bool true))
theorem keysD_get {R : List Nat} {x : Nat} : (getA (keysD R) (.inl (x : Int))).isSome = decide (x ∈ R) := by
  unfold keysD getA
  rw [Option.isSome_map, Bool.eq_iff_iff, decide_eq_true_iff, List.find?_isSome]
  constructor
  · rintro ⟨p, hp, e⟩
    obtain ⟨y, hy, rfl⟩ := List.mem_map.mp hp
    have e' : (Sum.inl (y : Int) : Key) = .inl (x : Int) := of_decide_eq_true e
    have : y = x := by
      have := Sum.inl.inj e'
      omega
    exact this ▸ hy
  · intro h
    exact ⟨_, List.mem_map.mpr ⟨x, h, rfl⟩, decide_eq_true rfl⟩
theorem keysD_put {R : List Nat} {x : Nat} (h : x ∉ R) : putA (keysD R) (.inl (x : Int)) (.dat (.bool true)) = keysD (R ++ [x]) := by
  unfold putA
  rw [if_neg]
  · unfold keysD
    rw [List.map_append]
    rfl
  · intro z
    rw [List.any_eq_true] at z
    obtain ⟨p, hp, e⟩ := z
    obtain ⟨y, hy, rfl⟩ := List.mem_map.mp hp
    have e' : (Sum.inl (y : Int) : Key) = .inl (x : Int) := of_decide_eq_true e
    have : y = x := by
      have := Sum.inl.inj e'
      omega
    exact h (this ▸ hy)
theorem keysD_len {R : List Nat} : (keysD R).length = R.length := by unfold keysD; rw [List.length_map]
def nxD (L : Nat) (nx : Nat → List Nat) : PyData := .list ((List.range L).map fun l => natsL (nx l))
/-- what stands between two turns; P: the ways whose ends are still to be looked at -/
structure Ahead (L : Nat) (nx : Nat → List Nat) (s : Nat) (R : List Nat) (P : List (List Nat)) : Prop where
  st : s ∈ R
  lt : ∀ x ∈ R, x < L
  ln : R.length + cnt L R ≤ L
  way : ∀ w ∈ P, Way nx s w ∧ (∀ x ∈ w, x ∈ R) ∧ w.length + cnt L R ≤ L + 1
  cl : ∀ x ∈ R, (∃ w ∈ P, lastN w = x) ∨ ∀ y ∈ nx x, y ∈ R ∧ y ≠ s
theorem lastN_snoc {w : List Nat} {y : Nat} : lastN (w ++ [y]) = y := by
  unfold lastN
  rw [List.getD_eq_getElem?_getD, List.length_append, List.length_singleton, List.getElem?_append_right (by omega), show w.length + 1 - 1 - w.length = 0 by omega]
  rfl
/-- a new level is reached -/
theorem Ahead.add {L : Nat} {nx : Nat → List Nat} {s y : Nat} {R : List Nat} {w : List Nat} {Q lo : List (List Nat)} (A : Ahead L nx s R (w :: Q ++ lo)) (hy : y ∉ R) (hl : y < L) (hn : y ∈ nx (lastN w)) : Ahead L nx s (R ++ [y]) (w :: Q ++ (lo ++ [w ++ [y]])) := by
  have c := cnt_snoc hl hy
  have hw := A.way w List.mem_cons_self
  refine ⟨List.mem_append_left _ A.st, fun x hx => ?_, ?_, fun u hu => ?_, fun x hx => ?_⟩
  · rcases List.mem_append.mp hx with h | h
    · exact A.lt x h
    · rw [List.mem_singleton.mp h]; exact hl
  · have := A.ln
    rw [List.length_append, List.length_singleton]
    omega
  · rw [← List.append_assoc] at hu
    rcases List.mem_append.mp hu with h | h
    · have := A.way u h
      exact ⟨this.1, fun x hx => List.mem_append_left _ (this.2.1 x hx), by have := this.2.2; omega⟩
    · rw [List.mem_singleton.mp h]
      refine ⟨hw.1.snoc (fun z => hy (hw.2.1 _ z)) hn, fun x hx => ?_, by rw [List.length_append, List.length_singleton]; have := hw.2.2; omega⟩
      rcases List.mem_append.mp hx with h | h
      · exact List.mem_append_left _ (hw.2.1 x h)
      · exact List.mem_append_right _ h
  · rw [← List.append_assoc]
    rcases List.mem_append.mp hx with h | h
    · rcases A.cl x h with ⟨u, hu, e⟩ | h2
      · exact .inl ⟨u, List.mem_append_left _ hu, e⟩
      · exact .inr fun z hz => ⟨List.mem_append_left _ (h2 z hz).1, (h2 z hz).2⟩
    · exact .inl ⟨w ++ [y], List.mem_append_right _ List.mem_cons_self, by rw [lastN_snoc, List.mem_singleton.mp h]⟩
/-- a way is done with -/
theorem Ahead.done {L : Nat} {nx : Nat → List Nat} {s : Nat} {R : List Nat} {w : List Nat} {Q : List (List Nat)} (A : Ahead L nx s R (w :: Q)) (h : ∀ y ∈ nx (lastN w), y ∈ R ∧ y ≠ s) : Ahead L nx s R Q := by
  refine ⟨A.st, A.lt, A.ln, fun u hu => A.way u (List.mem_cons_of_mem _ hu), fun x hx => ?_⟩
  rcases A.cl x hx with ⟨u, hu, e⟩ | h2
  · rcases List.mem_cons.mp hu with rfl | hu
    · rw [← e]
      exact .inr h
    · exact .inl ⟨u, hu, e⟩
  · exact .inr h2
theorem last_at {w : List Nat} (h : 0 < w.length) : atI (w.map natD) (-1) = some (natD (lastN w)) := by
  unfold atI
  rw [List.length_map, ix_last h]
  show (w.map natD)[w.length - 1]? = _
  rw [List.getElem?_map, List.getElem?_eq_getElem (by omega)]
  unfold lastN
  rw [List.getD_eq_getElem?_getD, List.getElem?_eq_getElem (by omega)]
  rfl
def ringFromP : PSp := fun as k _ => ∃ (L : Nat) (nx : Nat → List Nat) (s : Nat), as = [.dat (nxD L nx), .dat (natD s)] ∧ L ≤ 12 ∧ s < L ∧ (∀ l, l < L → ∀ y ∈ nx l, y < L) ∧
  (∀ w, Way nx s w → s ∈ nx (lastN w) → (∀ x ∈ w, x < L) → k (.ad (.dat (natsT w)))) ∧ (∀ R : List Nat, s ∈ R → (∀ x ∈ R, ∀ y ∈ nx x, y ∈ R ∧ y ≠ s) → k (.ad (.dat .none)))
theorem ok_ring_from (C : Cn K mg base) : FnOk P w K mg base CX0 1 C.f_ring_from C.fd_ring_from ["nexts", "start"] (spP K C.TB 2 (ringFromP)) := by
  refine fnD C.D_ring_from.F sc_ring_from rfl fun cdv A outer s H E hr => ?_
  have nd := sc_ring_from.nd
  refine ⟨_, _, (pss_cons (ps_set (i := 2) nd rfl (.inl rfl) (pe_disp (pps_cons (pv 1) pe_bl pps_nil) rfl rfl (fun z => nomatch z) (by decide)))
  (pss_cons (psF' (ps_set (i := 3) nd rfl (.inl rfl) (pe_lst (pa_cons (pe_tup (pa_cons (pv 1) pa_nil)) pa_nil))))
  (pss_cons (ps_while PassesOwn.never (zpt_truth K (by rfl) (pv 3) (by intro _; rfl))
    (pss_cons (ps_set (i := 4) nd rfl (.inl rfl) (pe_lst pa_nil))
      (pss_cons (ps_for PassesOwn.never rfl (pi_seq K (by rfl) (pv 3)) (pg_name (i := 5) nd rfl (Or.inl rfl))
        (pss_one (ps_for PassesOwn.never rfl (pi_seq K (by rfl) (pe_ix (zix K (by rfl)) (pv 0) (pe_ix (zix K (by rfl)) (pv 5) (pe_un zun_neg pe_int) (fun _ _ => rfl)) (fun _ _ => rfl))) (pg_name (i := 6) nd rfl (Or.inl rfl))
            (pss_cons (ps_if (pt_cmpR (zop_eq K (by rfl) hr.units) (pv 6) (pv 1) (nomark _))
                (pss_one (ps_ret (pv 5)))
                pss_nil)
              (pss_one (ps_if (pt_cmp (pc_dnotin (units1 hr) (pv 6) (pv 2)))
                (pss_cons (ps_asg pe_bl (pg_sub (pv 2) (pv 6) (set_dict (units1 hr))))
                  (pss_one (ps_expr (zbm K (by rfl) (pe_bm PySem.F.plainAttrs_list PySem.F.slot_list_append PySem.F.type_list_append mt_append (pv 4) (pa_cons (pe_tup (zpa_star K (by rfl) (StX.pa_star (pv 5) (pa_cons (pv 6) pa_nil)))) pa_nil))))))
                pss_nil))))))
      (pss_one (psF' (ps_set (i := 3) nd rfl (.inl rfl) (pv 4)))))))
  (pss_one (ps_ret pe_non))))), inferInstance, fun as k Ex hp hl => ?_⟩
  obtain ⟨L, nx, s, rfl, hL, hs, hnx, h1, h2⟩ := hp
  walk_at "w"
  have e0 : [(Sum.inl (s : Int), AD.dat (PyData.bool true))] = keysD [s] := rfl
  rw [e0]
  refine ⟨fun m S => ∃ R ws a b c, S = ⟨[.dat (nxD L nx), .dat (natD s), .loc 0, .dat (.list (ws.map natsT)), a, b, c], [.dcK (keysD R)]⟩ ∧ Ahead L nx s R ws ∧ m = cnt L R + (if ws = [] then 0 else 1), ⟨_, [s], [[s]], _, _, _, rfl, ?_, rfl⟩, ?_⟩
  · have c0 : cnt L [s] + 1 ≤ L := Nat.le_trans (cnt_snoc (R := []) hs List.not_mem_nil) cnt_le
    refine ⟨List.mem_cons_self, fun x hx => by rw [List.mem_singleton.mp hx]; exact hs, by show 1 + cnt L [s] ≤ L; omega, fun w hw => ?_, fun x hx => .inl ⟨[s], List.mem_cons_self, by rw [List.mem_singleton.mp hx]; rfl⟩⟩
    rw [List.mem_singleton.mp hw]
    exact ⟨⟨rfl, List.nodup_cons.mpr ⟨List.not_mem_nil, .nil⟩, fun i hi => absurd hi (by simp)⟩, fun x hx => hx, by show 1 + cnt L [s] ≤ L + 1; omega⟩
  rintro m S ⟨R, ws, a, b, c, rfl, A, rfl⟩
  walk_at "w"
  cases ws with
  | nil =>
    rw [if_neg (by decide)]
    refine h2 R A.st fun x hx => ?_
    rcases A.cl x hx with ⟨u, hu, _⟩ | h
    · exact absurd hu List.not_mem_nil
    · exact h
  | cons w0 wr =>
    obtain ⟨ws, hws⟩ : ∃ ws, ws = w0 :: wr := ⟨_, rfl⟩
    rw [← hws] at A ⊢
    have hne : ws ≠ [] := by rw [hws]; exact fun z => nomatch z
    rw [if_pos (by rw [hws]; rfl), if_neg hne]
    refine forL natsT ws rfl (fun pre S => ∃ post R' lo a b, ws = pre ++ post ∧ S = ⟨[.dat (nxD L nx), .dat (natD s), .loc 0, .dat (.list (ws.map natsT)), .loc 1, a, b], [.dcK (keysD R'), .lst (lo.map natsT)]⟩ ∧ Ahead L nx s R' (post ++ lo) ∧ lo.length + cnt L R' ≤ cnt L R) ⟨ws, R, [], _, _, rfl, rfl, by rw [List.append_nil]; exact A, by simp⟩ ?_ ?_
    · rintro S ⟨post, R', lo, a, b, he, rfl, A', hc⟩
      have hp : post = [] := by
        have := congrArg List.length he
        rw [List.length_append] at this
        exact List.eq_nil_of_length_eq_zero (by omega)
      subst hp
      walk_at "w"
      have ek : (keysD R').map (fun f => (f.1, sub 1 (.list (lo.map natsT)) f.2)) = keysD R' := by
        unfold keysD
        rw [List.map_map]
        rfl
      have ef : SS.frz ⟨[.dat (nxD L nx), .dat (natD s), .loc 0, .loc 1, .loc 1, .un, .un], [.dcK (keysD R'), .lst (lo.map natsT)]⟩ 1 (lo.map natsT) = ⟨[.dat (nxD L nx), .dat (natD s), .loc 0, .dat (.list (lo.map natsT)), .dat (.list (lo.map natsT)), .un, .un], [.dcK (keysD R'), .gone]⟩ := by
        show (⟨_, [CD.dcK ((keysD R').map fun f => (f.1, sub 1 (.list (lo.map natsT)) f.2)), .gone]⟩ : SS) = _
        rw [ek]
        rfl
      refine ⟨⟨[.dat (nxD L nx), .dat (natD s), .loc 0, .dat (.list (lo.map natsT)), .dat (.list (lo.map natsT)), .un, .un], [.dcK (keysD R')]⟩, _, .trans (.un [5, 6] _) (.trans (.frz 1 (lo.map natsT) _ (Nat.zero_le _) rfl) ?_), ?_, R', lo, _, _, _, rfl, A', rfl⟩
      · show Wk 0 (SS.frz ⟨[.dat (nxD L nx), .dat (natD s), .loc 0, .loc 1, .loc 1, .un, .un], [.dcK (keysD R'), .lst (lo.map natsT)]⟩ 1 (lo.map natsT)) _
        rw [ef]
        refine .cut 1 _ (Nat.zero_le _) ?_
        simp [okS, okA, okC, keysD, List.all_map]
      · split
        · omega
        · have : 0 < lo.length := by cases lo with
            | nil => exact absurd rfl ‹¬ _›
            | cons _ _ => exact Nat.succ_pos _
          omega
    · rintro pre w post' S N he ⟨post, R', lo, a, b, he', rfl, A', hc⟩ hN
      have hp : post = w :: post' := List.append_cancel_left (he'.symm.trans he)
      subst hp
      have hw := A'.way w List.mem_cons_self
      walk_at "w"
      refine ⟨_, last_at hw.1.pos, ?_⟩
      walk_at "w"
      have hlast := A'.lt _ (hw.2.1 _ (lastN_mem hw.1.pos))
      refine ⟨_, atI_nat (by rw [List.getElem?_map, List.getElem?_range hlast]; rfl), ?_⟩
      walk_at "w"
      refine forL natD (nx (lastN w)) rfl (fun pre2 S => ∃ R' lo a, S = ⟨[.dat (nxD L nx), .dat (natD s), .loc 0, .dat (.list (ws.map natsT)), .loc 1, .dat (natsT w), a], [.dcK (keysD R'), .lst (lo.map natsT)]⟩ ∧ Ahead L nx s R' (w :: post' ++ lo) ∧ lo.length + cnt L R' ≤ cnt L R ∧ ∀ y ∈ pre2, y ∈ R' ∧ y ≠ s) ⟨R', lo, _, rfl, A', hc, fun y hy => absurd hy List.not_mem_nil⟩ ?_ ?_
      · rintro S ⟨R', lo, a, rfl, A', hc, hy⟩
        exact hN _ _ (.refl _) ⟨post', R', lo, _, _, by rw [he, List.append_assoc]; rfl, rfl, A'.done hy, hc⟩
      · rintro pre2 y post2 S N2 he2 ⟨R', lo, a, rfl, A', hc, hy⟩ hN2
        have hyn : y ∈ nx (lastN w) := by rw [he2]; exact List.mem_append_right _ List.mem_cons_self
        have hyl := hnx _ hlast y hyn
        have hw := A'.way w List.mem_cons_self
        walk_at "w"
        by_cases e1 : y = s
        · rw [if_pos (by rw [decide_eq_true_iff]; omega)]
          subst e1
          exact h1 w hw.1 hyn fun x hx => A'.lt x (hw.2.1 x hx)
        · rw [if_neg (by rw [decide_eq_true_iff]; omega), keysD_get]
          by_cases e2 : y ∈ R'
          · rw [decide_eq_true e2]
            walk_at "w"
            refine hN2 _ _ (.refl _) ⟨R', lo, _, rfl, A', hc, fun z hz => ?_⟩
            rcases List.mem_append.mp hz with h | h
            · exact hy z h
            · rw [List.mem_singleton.mp h]; exact ⟨e2, e1⟩
          · rw [decide_eq_false e2]
            walk_at "w"
            have c := cnt_snoc hyl e2
            have ln := A'.ln
            have cl := @cnt_le L R
            refine ⟨by rw [keysD_len]; omega, ?_⟩
            show asDs ((w.map natD).map RD.d ++ [RD.ad (.dat (natD y))]) _ _
            rw [asDs_dats]
            walk_at "w"
            refine ⟨by rw [List.length_append, List.length_map, List.length_singleton]; have := hw.2.2; omega, by rw [List.length_map]; omega, ?_⟩
            have em : [CD.dcK (putA (keysD R') (.inl (y : Int)) (.dat (.bool true))), .lst (lo.map natsT ++ [.tuple (w.map natD ++ [natD y])])] = [.dcK (keysD (R' ++ [y])), .lst ((lo ++ [w ++ [y]]).map natsT)] := by
              rw [keysD_put e2, List.map_append]
              show _ = [_, CD.lst (lo.map natsT ++ [.tuple ((w ++ [y]).map natD)])]
              rw [List.map_append]
              rfl
            refine hN2 _ _ (.refl _) ⟨R' ++ [y], lo ++ [w ++ [y]], _, ss_m em, A'.add e2 hyl hyn, by rw [List.length_append, List.length_singleton]; omega, fun z hz => ?_⟩
            rcases List.mem_append.mp hz with h | h
            · exact ⟨List.mem_append_left _ (hy z h).1, (hy z h).2⟩
            · rw [List.mem_singleton.mp h]
              exact ⟨List.mem_append_right _ List.mem_cons_self, e1⟩
end
end K01
end

section
set_option maxHeartbeats 1000000
namespace K01
open PySem PySem.Spec PyProof.Rows L2 Zc Zd
local macro_rules | `(tactic| walk_at "w") => `(tactic| simp only [wRet, wRetN, wSeq, wAsg, wDrop, wIfS, wNext, wBreak, wCont, e_aug, wVar, e_c_int, e_c_str, e_c_bl, e_c_non, e_c_ty, e_c_ref, wCD, wNil, wCons, wTup, wLst, wOp, wCB, wBM, wBM0, e_ty_s, e_ty_n, e_ty_d, e_ty_l, w2, e_w1, w2I, e_isi_int, e_isi_bool, e_isi_tuple, e_isi_list, e_isi_str, e_is_n, e_is_b, e_is_l, e_is_w, isNonD, e_fInt, e_fAdd_i, e_fAdd_s, e_fAdd_l, e_fAdd_t, e_fMul_i, e_fMul_l, e_fMul_t, e_fCmp, e_fEq_i, e_fEq_s, e_fEq_b, e_fEq_l, e_fEq_t, e_fIx_l, e_fIx_t, e_fIx_s, e_fLen_l, e_fLen_t, e_fLen_s, e_fTup_l, e_fTup_t, e_fLst_l, e_fLst_t, e_fIntO_i, e_fIntO_b, e_fAbs, e_fStr, e_fBool_i, e_fBool_b, e_fSum, e_fSort, wTest, Zd.wTru, e_tru_n, e_tru_b, e_tru_i, e_tru_s, e_tru_l, e_tru_t, e_asB, e_asI, Zd.wAnd, Zd.wOr, Zd.wNot, wAndV, wOrV, wNotV, wIf, wChain, wNoPart, wPart, wSl, e_fSl_l, e_fSl_t, e_fSl_s, wRevT, wRevL, wUn, wLstRg1, wLstRg2, e_app, e_pop, e_popAt, e_ext, e_name_a, e_name_n, e_nameF_a, e_nameF_n, e_nm_t, e_nm_f, e_par, e_gnil, e_gcons, e_gtup, wgSub, e_setL, wSeqI, e_items_l, e_items_t, e_items_s, wRng1, wRng2, wEnum, wZip, wFor, wLc, wGen, wLcA, wIxA, e_own_a, e_own_n, wRaise, wDIn, wDGet, wDNew, wDisp1, e_asA, e_asKey_i, e_asKey_s, e_asDc, e_setD, wStar, wIsLT, e_asD_d, e_asD_n, e_asD_l, e_asDs_0, e_asDs_1, e_vwD_d, e_vwD_n, e_vwD_l, e_coA_0, e_coA_d, e_coA_v, e_coA_n, e_coA_l, wCallP, wCallD, dealP, anyP, ofP, nl, onlyAt, isDeal, WDof, e_fin_d, e_fin_v, e_fin_n, e_fin_l, ent, SS.frz, sub, subC, unAll,
  List.getElem?_cons_zero, List.getElem?_cons_succ, List.getElem?_nil, List.set_cons_zero, List.set_cons_succ, List.set_nil, List.length_cons, List.length_nil, List.cons_append, List.nil_append, List.replicate_succ, List.replicate_zero, List.map_cons, List.map_nil, List.all_cons, List.all_nil, List.take_zero, List.take_succ_cons, List.take_nil, Nat.reduceAdd, Nat.reduceSub, Nat.reduceMul, Nat.reduceLeDiff, Nat.reduceLT, Nat.zero_le, Nat.le_refl, Bool.and_true, Bool.true_and, Bool.and_self, Bool.not_true, Bool.not_false, Bool.false_eq_true, Bool.true_eq_false, Bool.or_true, Bool.or_false, Bool.true_or, Bool.false_or, Bool.and_false, Bool.false_and, reduceIte, reduceCtorEq, if_true, if_false, true_and, and_true, and_self, true_or, or_true, false_or, or_false, false_and, and_false, exists_eq_left', exists_eq_left, exists_eq, Nat.add_zero, Nat.zero_add, List.append_nil, not_false_eq_true, not_true_eq_false, String.reduceEq, forall_const])
section
variable {P : Program} {w : World} {K : PySem.W.Frag} {mg : Str → Option Value} {base : Heap}
/-- a told round of told pairs -/
structure RingW (ps : List (Nat × Nat)) (L : Nat) (w : List Nat) : Prop where
  two : 2 ≤ w.length
  nd : w.Nodup
  ch : ∀ i, i + 1 < w.length → (w.getD i 0, w.getD (i + 1) 0) ∈ ps
  back : (lastN w, w.getD 0 0) ∈ ps
  lt : ∀ x ∈ w, x < L
/-- from s nothing leads back to s -/
def NoBack (ps : List (Nat × Nat)) (s : Nat) : Prop := ∃ R : List Nat, s ∈ R ∧ ∀ x ∈ R, ∀ y, (x, y) ∈ ps → x ≠ y → y ∈ R ∧ y ≠ s
structure Nexts (L : Nat) (pre : List (Nat × Nat)) (nx : Nat → List Nat) : Prop where
  mem : ∀ l y, y ∈ nx l ↔ (l, y) ∈ pre ∧ l ≠ y
  ln : ∀ l, (nx l).length + cnt L (nx l) ≤ L
def rowsN (L : Nat) (nx : Nat → List Nat) : List (List PyData) := (List.range L).map fun l => (nx l).map natD
theorem rowsN_len {L : Nat} {nx : Nat → List Nat} : (rowsN L nx).length = L := by unfold rowsN; rw [List.length_map, List.length_range]
theorem rowsN_row {L l : Nat} {nx : Nat → List Nat} (h : l < L) : (rowsM [] (rowsN L nx))[l]? = some (.lst ((nx l).map natD)) := by
  have e := rowsM_row (m0 := []) (rows := rowsN L nx) (i := l) (r := (nx l).map natD) (by unfold rowsN; rw [List.getElem?_map, List.getElem?_range h]; rfl)
  rw [show ([] : List CD).length + l = l from Nat.zero_add l] at e
  exact e
theorem rowsN_out {L : Nat} {nx : Nat → List Nat} : (rowsM [] (rowsN L nx))[L]? = some (.lsa (rowL 0 L)) := by
  have h := rowsM_out (m0 := []) (rows := rowsN L nx)
  rw [rowsN_len, show ([] : List CD).length + L = L from Nat.zero_add L] at h
  exact h
theorem rowsN_set {L l : Nat} {nx : Nat → List Nat} {r : List Nat} (h : l < L) : (rowsM [] (rowsN L nx)).set l (.lst (r.map natD)) = rowsM [] (rowsN L fun j => if j = l then r else nx j) := by
  have e := rowsM_set (m0 := []) (rows := rowsN L nx) (i := l) (r := r.map natD) (by rw [rowsN_len]; exact h)
  rw [show ([] : List CD).length + l = l from Nat.zero_add l] at e
  rw [e]
  congr 1
  unfold rowsN
  rw [range_set]
  exact List.map_congr_left fun j _ => by show (if j = l then _ else _) = List.map natD (if j = l then r else nx j); split <;> rfl
def ringOfP (C : Addr) : PSp := fun as k Ex => ∃ d e, as = [.dat d, .dat e] ∧
  (manyOk d = false → Ex (.at C (.int 0))) ∧ (manyOk d = true → pairsOk (intOf d) e = false → Ex (.at C (.int 1))) ∧
  (∀ L ps, Given d e L ps → (∀ w, RingW ps L w → k (.ad (.dat (natsT w)))) ∧ ((∀ s, s < L → NoBack ps s) → k (.ad (.dat .none))))
theorem ok_ring_of (C : Cn K mg base) : FnOk P w K mg base (L2.CX P w) 9 C.f_ring_of C.fd_ring_of ["levels", "pairs"] (spP K C.TB 2 (ringOfP C.C_InvalidOrder)) := by
  refine fnDX C.D_ring_of.F sc_ring_of rfl fun cdv A outer s H E hr => ?_
  have nd := sc_ring_of.nd
  have tk := L2.takes_of (X := cxOf (L2.CX P w) P w K mg base ["levels", "pairs", "nexts", "low", "high", "level", "ring", "_"] "ring_of" (defScope s_ring_of) C.f_ring_of cdv A outer s H E) rfl rfl rfl rfl
  refine ⟨_, fun Ex => _, (pss_cons (ps_expr (pe_call (ok_check_relations C) (hr.mono (by decide)) (by rfl) C.D_check_relations.g C.D_check_relations.F.kp C.D_check_relations.b .nil (L2.passes_call tk fun _ _ _ _ h => h) (pa_cons (pv 0) (pa_cons (pv 1) pa_nil))))
  (pss_cons (zslcA [7] (ps_setLc (i := 2) (own := [("_", 7)]) (g := gName 7) (tt := tYes) (by rfl) nd rfl rfl (sw_true rfl rfl rfl (by decide +kernel)) (pi_range1 (by rfl) C.m_range (pa_cons (pv 0) pa_nil)) (blkOk_by (own := [("_", 7)]) (N := ["levels", "pairs", "nexts", "low", "high", "level", "ring", "_"]) (sc := defScope s_ring_of) (by decide +kernel)) (fun _ _ _ _ _ => (pg_name (i := 7) nd rfl (Or.inl rfl))) (fun _ _ _ _ _ => pts_nil) (fun _ _ _ _ _ => (pe_lst pa_nil))))
  (pss_cons (ps_for (L2.passes_of rfl) rfl (pi_seq K (by rfl) (pv 1)) (zpg_tup2 K 2 (by rfl) (pg_tup (by rfl) (pgs_cons (pg_name (i := 3) nd rfl (Or.inl rfl)) (pgs_cons (pg_name (i := 4) nd rfl (Or.inl rfl)) pgs_nil))) (by rfl))
    (pss_one (ps_if (PW.pt (pw_and (pt_cmpR (zop_ne K (by rfl) hr.units) (pv 3) (pv 4) (nomark _)) (pw_and1 (pt_cmpR (zop_ni K (by rfl) (units65 hr)) (pv 4) (zixA (pe_ix (zix K (by rfl)) (pv 2) (pv 3) (fun _ _ => rfl))) (by rfl)))))
        (pss_one (ps_expr (zbm K (by rfl) (pe_bm PySem.F.plainAttrs_list PySem.F.slot_list_append PySem.F.type_list_append mt_append (zixA (pe_ix (zix K (by rfl)) (pv 2) (pv 3) (fun _ _ => rfl))) (pa_cons (pv 4) pa_nil)))))
        pss_nil)))
  (zghost (pss_cons (ps_for (L2.passes_of rfl) rfl (pi_range1 (by rfl) C.m_range (pa_cons (pv 0) pa_nil)) (pg_name (i := 5) nd rfl (Or.inl rfl))
    (pss_cons (psF' (ps_set (i := 6) nd rfl (.inl rfl) (pe_call (ok_ring_from C) (hr.mono (by decide)) (by rfl) C.D_ring_from.g C.D_ring_from.F.kp C.D_ring_from.b .nil pass00 (pa_cons (pv 2) (pa_cons (pv 5) pa_nil)))))
      (pss_one (ps_if (pt_cmpR zop_isnot (pv 6) pe_non (nomark _))
        (pss_one (ps_ret (pv 6)))
        pss_nil))))
  (pss_one (ps_ret pe_non))))))), fun Ex => inferInstance, fun as k Ex hp hl => ?_⟩
  obtain ⟨d, e, rfl, h1, h2, h3⟩ := hp
  walk_at "w"
  refine ⟨d, e, rfl, h1, h2, fun g1 g2 => ?_⟩
  obtain ⟨L, ps, G⟩ := given_of g1 g2
  replace h3 := h3 L ps G
  obtain ⟨h3, h4⟩ := h3
  clear h1 h2
  obtain ⟨rfl, he, L1, L2, hps⟩ := G
  walk_at "w"
  rw [Int.toNat_natCast]
  refine ⟨by omega, by omega, by rw [List.length_map, List.length_range]; omega, lcA_rows (fun (i : Nat) => PyData.int (0 + i)) (fun h => []) 0 (List.range L) [] [] (fun h hh m N hN => ?_) ?_⟩
  · walk_at "w"
    exact hN _
  walk_at "w"
  rw [items_seq he, List.length_map, List.length_range]
  have hS : (List.range L).map (fun _ => CD.lst []) ++ [CD.lsa (rowL 0 L)] = rowsM [] (rowsN L fun _ => []) := by
    unfold rowsM
    rw [rowsN_len, List.nil_append]
    unfold rowsN
    rw [List.map_map]
    rfl
  rw [hS]
  have c0 : cnt L [] ≤ L := cnt_le
  refine forL twoD ps rfl (fun pre S => ∃ nx a b c d f, Nexts L pre nx ∧ S = ⟨[.dat (natD L), .dat e, .loc L, a, b, c, d, f], rowsM [] (rowsN L nx)⟩) ⟨fun _ => [], _, _, _, _, _, ⟨fun l y => by simp, fun l => by show 0 + cnt L [] ≤ L; omega⟩, rfl⟩ ?_ ?_
  · rintro S ⟨nx, a, b, c, d, f, hx, rfl⟩
    have ef : SS.frz ⟨[.dat (natD L), .dat e, .loc L, .un, .un, .un, .un, .un], List.replicate L CD.gone ++ [CD.lst ((rowsN L nx).map PyData.list)]⟩ L ((rowsN L nx).map PyData.list) =
        ⟨[.dat (natD L), .dat e, .dat (nxD L nx), .un, .un, .un, .un, .un], List.replicate L CD.gone ++ [CD.gone]⟩ := by
      unfold SS.frz
      have e1 : (List.replicate L CD.gone ++ [CD.lst ((rowsN L nx).map PyData.list)]).map (subC L (.list ((rowsN L nx).map PyData.list))) = List.replicate L CD.gone ++ [CD.lst ((rowsN L nx).map PyData.list)] := by
        rw [List.map_append, List.map_replicate]
        rfl
      have e2 : nxD L nx = .list ((rowsN L nx).map PyData.list) := by
        unfold nxD rowsN
        rw [List.map_map]
        rfl
      show (⟨[_, _, if L = L then _ else _, _, _, _, _, _], _⟩ : SS) = _
      rw [e1, if_pos rfl, List.set_append_right _ _ (by rw [List.length_replicate]; exact Nat.le_refl L), List.length_replicate, Nat.sub_self, e2]
      rfl
    refine ⟨⟨[.dat (natD L), .dat e, .dat (nxD L nx), .un, .un, .un, .un, .un], []⟩, .trans (.un [3, 4, 5, 6, 7] _) (.trans (Wk.rows (m0 := []) (Nat.le_refl 0) (s := [.dat (natD L), .dat e, .loc L, .un, .un, .un, .un, .un]) ?_ rfl) ?_), ?_⟩
    · rw [rowsN_len]
      simp [clearA]
    · rw [rowsN_len, List.nil_append]
      refine .trans (.frz L ((rowsN L nx).map PyData.list) _ (Nat.zero_le _) ?_) ?_
      · show (List.replicate L CD.gone ++ [CD.lst ((rowsN L nx).map PyData.list)])[L]? = _
        rw [List.getElem?_append_right (by rw [List.length_replicate]; exact Nat.le_refl L), List.length_replicate, Nat.sub_self]
        rfl
      · rw [ef]
        exact .cut 0 _ (Nat.le_refl 0) rfl
    walk_at "w"
    rw [Int.toNat_natCast]
    refine ⟨by omega, by omega, forL_nat (fun i S => (∀ s, s < i → NoBack ps s) ∧ ∃ a b c d f, S = ⟨[.dat (natD L), .dat e, .dat (nxD L nx), a, b, c, d, f], []⟩) ⟨fun s hs => absurd hs (Nat.not_lt_zero s), _, _, _, _, _, rfl⟩ ?_ ?_⟩
    · rintro S ⟨hb, a, b, c, d, f, rfl⟩
      walk_at "w"
      exact h4 hb
    · rintro i S N hi ⟨hb, a, b, c, d, f, rfl⟩ hN
      walk_at "w"
      refine ⟨L, nx, i, rfl, L2, hi, fun l hl y hy => (hps _ ((hx.mem l y).mp hy).1).2, fun u hu hs hlt => ?_, fun R hR hcl => ?_⟩
      · walk_at "w"
        show k (.ad (.dat (natsT u)))
        have hp := hu.pos
        have h0 : u.getD 0 0 = i := by
          have := hu.hd
          cases u with
          | nil => cases this
          | cons x r => exact Option.some.inj this
        have e1 := (hx.mem _ _).mp hs
        refine h3 u ⟨?_, hu.nd, fun j hj => ((hx.mem _ _).mp (hu.ch j hj)).1, by rw [h0]; exact e1.1, hlt⟩
        cases hlen : decide (2 ≤ u.length)
        · have l1 : u.length = 1 := by have := of_decide_eq_false hlen; omega
          exact absurd (by show lastN u = i; unfold lastN; rw [l1]; exact h0) e1.2
        · exact of_decide_eq_true hlen
      · walk_at "w"
        refine hN _ _ (.refl _) ⟨fun s hs => ?_, _, _, _, _, _, rfl⟩
        by_cases es : s = i
        · subst es
          exact ⟨R, hR, fun x hx2 y hy ne => hcl x hx2 y ((hx.mem x y).mpr ⟨hy, ne⟩)⟩
        · exact hb s (by omega)
  · rintro pre ⟨x, y⟩ post S N hps' ⟨nx, a, b, c, d, f, hx, rfl⟩ hN
    simp only [twoD]
    have hxy : x < L ∧ y < L := hps (x, y) (by rw [hps']; exact List.mem_append_right _ List.mem_cons_self)
    walk_at "w"
    have keep : (x = y ∨ y ∈ nx x) → N ⟨[.dat (natD L), .dat e, .loc L, .dat (natD x), .dat (natD y), c, d, f], rowsM [] (rowsN L nx)⟩ := fun h => by
      refine hN _ _ (.refl _) ⟨nx, _, _, _, _, _, ⟨fun l z => ?_, hx.ln⟩, rfl⟩
      rw [hx.mem, List.mem_append, List.mem_singleton, Prod.mk.injEq]
      constructor
      · exact fun h => ⟨.inl h.1, h.2⟩
      · rintro ⟨h1 | ⟨rfl, rfl⟩, h2⟩
        · exact ⟨h1, h2⟩
        · rcases h with h | h
          · exact absurd h h2
          · exact (hx.mem _ _).mp h
    have e0 : decide ((x : Int) = (y : Int)) = decide (x = y) := decide_eq_decide.mpr (by omega)
    rw [e0]
    by_cases e1 : x = y
    · rw [decide_eq_true e1]
      walk_at "w"
      exact keep (.inl e1)
    rw [decide_eq_false e1]
    walk_at "w"
    rw [rowsN_out]
    refine ⟨x, .loc (0 + x), by rw [rowL_len]; exact ix_of hxy.1, rowL_at hxy.1, ?_⟩
    walk_at "w"
    rw [rowsN_row hxy.1]
    refine in_natsL ?_
    walk_at "w"
    by_cases e2 : y ∈ nx x
    · rw [decide_eq_true e2]
      exact keep (.inr e2)
    rw [decide_eq_false e2]
    walk_at "w"
    refine ⟨x, .loc (0 + x), by rw [rowL_len]; exact ix_of hxy.1, rowL_at hxy.1, ?_⟩
    walk_at "w"
    rw [rowsN_row hxy.1]
    have c := cnt_snoc hxy.2 e2
    have ln := hx.ln x
    refine ⟨trivial, by rw [List.length_map]; omega, ?_⟩
    rw [show (nx x).map natD ++ [natD y] = (nx x ++ [y]).map natD by rw [List.map_append]; rfl, rowsN_set hxy.1]
    refine hN _ _ (.refl _) ⟨fun j => if j = x then nx x ++ [y] else nx j, _, _, _, _, _, ⟨fun l z => ?_, fun l => ?_⟩, rfl⟩
    · show z ∈ (if l = x then nx x ++ [y] else nx l) ↔ _
      rw [List.mem_append, List.mem_singleton, Prod.mk.injEq]
      by_cases el : l = x
      · subst el
        rw [if_pos rfl, List.mem_append, List.mem_singleton, hx.mem]
        constructor
        · rintro (h | rfl)
          · exact ⟨.inl h.1, h.2⟩
          · exact ⟨.inr ⟨rfl, rfl⟩, e1⟩
        · rintro ⟨h1 | h1, h2⟩
          · exact .inl ⟨h1, h2⟩
          · exact .inr h1.2
      · rw [if_neg el, hx.mem]
        constructor
        · exact fun h => ⟨.inl h.1, h.2⟩
        · rintro ⟨h1 | h1, h2⟩
          · exact ⟨h1, h2⟩
          · exact absurd h1.1 el
    · show (if l = x then nx x ++ [y] else nx l).length + cnt L (if l = x then nx x ++ [y] else nx l) ≤ L
      split
      · rw [List.length_append, List.length_singleton]
        omega
      · exact hx.ln l
end
end K01
end

section
set_option maxHeartbeats 1000000
namespace K01
open PySem PySem.Spec PyProof.Rows L2 Zc
section
variable {P : Program} {w : World} {K : PySem.W.Frag} {mg : Str → Option Value} {base : Heap}

theorem ok_any {f : Addr} {fd : FuncData} (D : At K mg "_law_any" s__law_any ["deal", "bound"] f fd) (mi : mg "int" = none) :
    FnOk P w K mg base CX0 1 f fd ["deal", "bound"] spAny := by
  refine D.F.ok sc__law_any (fun vs H Q E h => ?_) (fun cdv A outer s H vs Q E hr h => ?_)
  · obtain ⟨d, l, n, rfl, _⟩ := h
    rfl
  obtain ⟨d, l, n, rfl, hD, n0, n1, k⟩ := h
  have hu := hr.units
  refine ⟨_, pss_cons (ps_while PassesOwn.never (PW.pt (pw_and
        (pt_cmpR (op_neD hu) (pe_ix ix_list (pv 0) pe_int (fun _ _ => rfl)) (pe_lst pa_nil) (nomark _))
        (pw_and1 (pt_cmpR op_eq (pe_ix ix_list (pe_ix ix_list (pv 0) pe_int (fun _ _ => rfl)) (pe_un un_neg pe_int) (fun _ _ => rfl)) pe_int (nomark _)))))
      (pss_one (ps_expr (pe_bm0 PySem.F.plainAttrs_list PySem.F.slot_list_pop PySem.F.type_list_pop mt_pop (pe_ix ix_list (pv 0) pe_int (fun _ _ => rfl))))))
    (pss_cons (ps_if (pt_cmpR (op_neD hu) (pe_ix ix_list (pv 0) pe_int (fun _ _ => rfl)) (pe_lst pa_nil) (nomark _))
      (pss_cons (ps_set (i := 2) sc__law_any.nd rfl (.inl rfl) (pe_callTy call_int1 (by rfl) mi boot_int (pa_cons (pe_bm0 PySem.F.plainAttrs_list PySem.F.slot_list_pop PySem.F.type_list_pop mt_pop (pe_ix ix_list (pv 0) pe_int (fun _ _ => rfl))) pa_nil)))
      (pss_cons (ps_expr (pe_bm PySem.F.plainAttrs_list PySem.F.slot_list_append PySem.F.type_list_append mt_append (pe_ix ix_list (pv 0) pe_int (fun _ _ => rfl)) (pa_cons (pe_op op_fdivW (pv 2) (pv 1)) pa_nil)))
      (pss_one (ps_ret (pe_op op_mod (pv 2) (pv 1)))))) pss_nil)
    (pss_cons (ps_asg (pe_op op_mod (pe_callTy call_int1 (by rfl) mi boot_int (pa_cons (pe_op op_add (pe_op op_mul (pe_ix ix_list (pv 0) pe_int (fun _ _ => rfl)) pe_int) pe_int) pa_nil)) pe_int)
        (pg_sub (pv 0) pe_int set_list))
    (pss_one (ps_ret (pe_op op_mod (pe_callTy call_int1 (by rfl) mi boot_int (pa_cons (pe_op op_fdivW (pe_ix ix_list (pv 0) pe_int (fun _ _ => rfl)) pe_int) pa_nil)) (pv 1)))))), ?_⟩
  refine while_by (fun σ H' => ∃ y, σ = [some (.ref d), some (.int n), y] ∧ Deal H' d l ∧ But d l H H')
    (fun _ H' => match H' l with | some (.lst xs) => xs.length | _ => 0) ⟨none, rfl, hD, But.refl _ _ _⟩ ?_ ?_
  · rintro σ H1 ⟨y, rfl, ⟨xs, b, ndl, hd, hl, hlen, hpos, b0, b1⟩, hB⟩
    refine ⟨.ref d, rfl, d, _, 0, .ref l, rfl, rfl, .inl (.inl hd), rfl, Nat.zero_le _, fun p np => ?_⟩
    have nld : l ≠ p := ne_of_none hl np
    have ndp : d ≠ p := ne_of_none hd np
    refine ne_nil_read (.inl (.inl (by rw [upd_ne nld]; exact hl))) (.inl (.inl upd_same)) ⟨_, rfl, ?_⟩
    have hd1 : (upd H1 p (.lst [])) d = some (.lst [.ref l, .int b]) := by rw [upd_ne ndp]; exact hd
    have hl1 : (upd H1 p (.lst [])) l = some (.lst (xs.map V.int)) := by rw [upd_ne nld]; exact hl
    have hB1 : But d l H (upd H1 p (.lst [])) := hB.trans (.of (same_new np))
    have at0 : atI [V.ref l, V.int b] 0 = some (V.ref l) := rfl
    have at1 : atI [V.ref l, V.int b] 1 = some (V.int b) := rfl
    rcases snoc_cases xs with rfl | ⟨ys, z, rfl⟩
    · -- the list is empty: the loop ends, the int is turned
      refine iteFe rfl (iteFe rfl ?_)
      refine ⟨.ref d, rfl, d, _, 0, .ref l, rfl, rfl, .inl (.inl hd1), at0, Nat.zero_le _, fun p2 np2 => ?_⟩
      have nl2 : l ≠ p2 := ne_of_none hl1 np2
      have nd2 : d ≠ p2 := ne_of_none hd1 np2
      refine ne_nil_read (.inl (.inl (by rw [upd_ne nl2]; exact hl1))) (.inl (.inl upd_same)) ⟨_, rfl, iteFe rfl ?_⟩
      have hd2 : (upd (upd H1 p (.lst [])) p2 (.lst [])) d = some (.lst [.ref l, .int b]) := by rw [upd_ne nd2]; exact hd1
      have hl2 : (upd (upd H1 p (.lst [])) p2 (.lst [])) l = some (.lst (([] : List Int).map V.int)) := by rw [upd_ne nl2]; exact hl1
      have hB2 := hB1.trans (.of (same_new (o := .lst []) np2))
      refine ⟨.ref d, rfl, d, _, 1, .int b, rfl, rfl, .inl (.inl hd2), at1, _, _, rfl, rfl, .inr ⟨by decide, by decide⟩, _, _, rfl, rfl, .inl ⟨_, rfl, _, _, rfl, rfl, by show (0 : Int) < 2147483647; decide, ?_⟩⟩
      refine ⟨.ref d, rfl, d, _, 1, 1, rfl, rfl, hd2, rfl, ?_⟩
      have c0 : 0 ≤ (b * 40693 + 71) % 2147483647 := Int.emod_nonneg _ (by decide)
      have c1 : (b * 40693 + 71) % 2147483647 < 2147483647 := Int.emod_lt_of_pos _ (by decide)
      refine ⟨.ref d, rfl, d, _, 1, _, rfl, rfl, .inl (.inl upd_same), rfl, _, _, rfl, rfl, ⟨by decide, by decide⟩, .inl ⟨_, rfl, .int n, rfl, _, _, rfl, rfl, n0, ?_⟩⟩
      exact k _ _ (Int.emod_nonneg _ (by omega)) (Int.emod_lt_of_pos _ n0) (Deal.num ndl hl2 (Nat.zero_le _) (fun x hx => absurd hx List.not_mem_nil) c0 c1) hB2.updD
    · refine iteTe (snoc_ne ys z) ?_
      rw [snoc_map] at hl hl1
      refine ⟨.ref d, rfl, d, _, 0, .ref l, rfl, rfl, .inl (.inl hd1), at0, 1, rfl, l, _, -1, .int z, rfl, rfl, .inl (.inl hl1), atI_last _ _, rfl, _, rfl, ?_⟩
      have lenY : ys.length + 1 ≤ 48 := by rw [← snoc_len ys z]; exact hlen
      have posY : ∀ x ∈ ys, 0 ≤ x := fun x hx => hpos x (List.mem_append_left _ hx)
      have z0 : 0 ≤ z := hpos z (List.mem_append_right _ (List.mem_singleton.mpr rfl))
      refine ite2 (fun e => ?_) (fun e => ?_)
      · -- its last number is 0: it goes
        refine ⟨.ref d, rfl, d, _, 0, .ref l, rfl, rfl, .inl (.inl hd1), at0, .inl ⟨rfl, _, .inl (.inl hl1)⟩, l, _, .int z, rfl, rfl, hl1, snoc_last _ _, ?_⟩
        refine ⟨⟨y, rfl, ?_, hB1.updL⟩, ?_⟩
        · rw [List.dropLast_concat]
          exact Deal.list ndl hd1 (by omega) posY b0 b1
        · show (match upd (upd H1 p (.lst [])) l (.lst (ys.map V.int ++ [V.int z]).dropLast) l with | some (.lst xs) => xs.length | _ => 0) < (match H1 l with | some (.lst xs) => xs.length | _ => 0)
          rw [upd_same, hl]
          simp
      · -- it is not: it is parted
        refine ⟨.ref d, rfl, d, _, 0, .ref l, rfl, rfl, .inl (.inl hd1), at0, Nat.zero_le _, fun p2 np2 => ?_⟩
        have nl2 : l ≠ p2 := ne_of_none hl1 np2
        have nd2 : d ≠ p2 := ne_of_none hd1 np2
        have hd2 : (upd (upd H1 p (.lst [])) p2 (.lst [])) d = some (.lst [.ref l, .int b]) := by rw [upd_ne nd2]; exact hd1
        have hl2 : (upd (upd H1 p (.lst [])) p2 (.lst [])) l = some (.lst (ys.map V.int ++ [V.int z])) := by rw [upd_ne nl2]; exact hl1
        have hB2 := hB1.trans (.of (same_new (o := .lst []) np2))
        refine ne_nil_read (ns := ys ++ [z]) (.inl (.inl (by rw [snoc_map]; exact hl2))) (.inl (.inl upd_same)) ⟨_, rfl, iteTe (snoc_ne ys z) ?_⟩
        -- rest = int(deal[0].pop())
        refine ⟨.ref d, rfl, d, _, 0, .ref l, rfl, rfl, .inl (.inl hd2), at0, .inl ⟨rfl, _, .inl (.inl hl2)⟩, l, _, .int z, rfl, rfl, hl2, snoc_last _ _, .inl ⟨z, rfl, ?_⟩⟩
        rw [List.dropLast_concat]
        -- deal[0].append(rest // bound)
        have hd3 : (upd (upd (upd H1 p (.lst [])) p2 (.lst [])) l (.lst (ys.map V.int))) d = some (.lst [.ref l, .int b]) := by rw [upd_ne ndl]; exact hd2
        refine ⟨.ref d, rfl, d, _, 0, .ref l, rfl, rfl, .inl (.inl hd3), at0, .inl ⟨rfl, _, .inl (.inl upd_same)⟩, .int z, rfl, .int n, rfl, z, n, rfl, rfl, wide_div n0 (b := 64) (by omega) (by decide) (by decide), l, _, _, rfl, rfl, upd_same, by rw [List.length_map]; exact Nat.lt_of_le_of_lt (show ys.length ≤ 48 by omega) (by decide), ?_⟩
        -- return rest % bound
        refine ⟨.int z, rfl, .int n, rfl, z, n, rfl, rfl, n0, ?_⟩
        refine k _ _ (Int.emod_nonneg _ (by omega)) (Int.emod_lt_of_pos _ n0) ?_ hB2.updL.updL
        rw [← snoc_map]
        refine Deal.list ndl hd3 (by rw [snoc_len]; omega) (fun x hx => ?_) b0 b1
        rcases List.mem_append.mp hx with hx | hx
        · exact posY x hx
        · rw [List.mem_singleton.mp hx]
          exact Int.ediv_nonneg z0 (by omega)
  · intro σ H1 Q1 Q2 hq h
    obtain ⟨v, e1, p, xs, i, v', e2, e3, e4, e5, e6, h2⟩ := h
    refine ⟨v, e1, p, xs, i, v', e2, e3, e4, e5, e6, fun p2 np2 => ?_⟩
    obtain ⟨d1, d2, g1, g2, g3, g4, c, e7, h3⟩ := h2 p2 np2
    refine ⟨d1, d2, g1, g2, g3, g4, c, e7, ?_⟩
    cases c with
    | false => exact iteF (hq _ _ (by rw [if_neg Bool.false_ne_true] at h3; exact h3))
    | true =>
      rw [if_pos rfl] at h3
      refine iteT ?_
      obtain ⟨v, e1, p, xs, i, v', e2, e3, e4, e5, j, e6, q, zs, j2, v2, f2, f3, f4, f5, f6, c, f7, h4⟩ := h3
      exact ⟨v, e1, p, xs, i, v', e2, e3, e4, e5, j, e6, q, zs, j2, v2, f2, f3, f4, f5, f6, c, f7, hq _ _ h4⟩
theorem ok_of {f fA : Addr} {fd fdA : FuncData} (D : At K mg "_law_of" s__law_of ["deal", "some"] f fd)
    (DA : At K mg "_law_any" s__law_any ["deal", "bound"] fA fdA) (mi : mg "int" = none) (ml : mg "len" = none) :
    FnOk P w K mg base CX0 2 f fd ["deal", "some"] (spOf K) := by
  have GA : FnOk P w K mg base CX0 1 fA fdA ["deal", "bound"] spAny := ok_any DA mi
  refine D.F.ok sc__law_of (fun vs H Q E h => ?_) (fun cdv A outer s H vs Q E hr h => ?_)
  · obtain ⟨d, l, a, xs, rfl, _⟩ := h
    rfl
  obtain ⟨d, l, a, xs, rfl, hD, hS, n0, n1, k⟩ := h
  refine ⟨_, pss_one (ps_ret (pe_ix ix_list (pv 1) (pe_call GA hr (by rfl) DA.g DA.F.kp DA.b .nil pass0 (pa_cons (pv 0) (pa_cons (pe_callB call_len_seq (by rfl) ml PySem.boot_len (pa_cons (pv 1) pa_nil)) pa_nil))) (fun _ _ => rfl))), ?_⟩
  refine ⟨.ref a, rfl, .ref d, rfl, .ref a, rfl, a, xs, rfl, .inl (hS H (But.refl _ _ _)), d, l, (xs.length : Int), rfl, hD, by omega, by omega, fun r H' r0 r1 hD' hB => ?_⟩
  have hr1 : r.toNat < xs.length := by omega
  refine ⟨a, xs, r, xs[r.toNat], rfl, rfl, hS H' hB, ?_, k r.toNat _ H' (List.getElem?_eq_getElem hr1) hD' hB⟩
  have e : atI xs ((r.toNat : Nat) : Int) = some xs[r.toNat] := atI_nat (List.getElem?_eq_getElem hr1)
  rw [Int.toNat_of_nonneg r0] at e
  exact e

theorem ok_draw {f : Addr} {fd : FuncData} (D : At K mg "_law_draw" s__law_draw ["script", "salt"] f fd) (mi : mg "int" = none) (ma : mg "abs" = none) :
    FnOk P w K mg base CX0 1 f fd ["script", "salt"] (spDraw K) := by
  refine D.F.ok sc__law_draw (fun vs H Q E h => ?_) (fun cdv A outer s H vs Q E hr h => ?_)
  · obtain ⟨a, ns, z, rfl, _⟩ := h
    rfl
  obtain ⟨a, ns, z, rfl, hS, hlen, z0, z1, k⟩ := h
  have nd := sc__law_draw.nd
  refine ⟨_, pss_cons (ps_setLc (i := 2) (own := [("cell", 4)]) (g := gName 4) (tt := tYes) (by rfl) nd rfl rfl (sw_true rfl rfl rfl (by decide +kernel))
      (pi_list (pe_slice sl_list (pv 0) po_none (po_some pe_int))) (blkOk_by (own := [("cell", 4)]) (N := ["script", "salt", "cells", "blend", "cell"]) (sc := defScope s__law_draw) (by decide +kernel))
      (fun _ _ _ _ _ => pg_name (i := 4) nd rfl (Or.inl rfl)) (fun _ _ _ _ _ => pts_nil)
      (fun _ _ _ _ _ => pe_callB call_abs (by rfl) ma boot_abs (pa_cons (pe_callTy call_int1 (by rfl) mi boot_int (pa_cons (pv 4) pa_nil)) pa_nil)))
    (pss_cons (ps_set (i := 3) nd rfl (.inl rfl) (pe_op op_add pe_int (pe_op op_mul pe_int (pv 1))))
    (pss_cons (ps_for PassesOwn.never rfl (pi_list (pv 2)) (pg_name (i := 4) nd rfl (.inl rfl))
      (pss_one (ps_set (i := 3) nd rfl (.inl rfl) (pe_op op_mod (pe_callTy call_int1 (by rfl) mi boot_int (pa_cons (pe_op op_add (pe_op op_add (pe_op op_mul (pv 3) pe_int) (pe_op op_mod (pv 4) pe_int)) pe_int) pa_nil)) pe_int))))
    (pss_one (ps_ret (pe_lst (pa_cons (pe_revL (pe_lc (own := [("cell", 4)]) (g := gName 4) (by rfl) nd (pi_list (pv 2))
        (blkOk_by (own := [("cell", 4)]) (N := ["script", "salt", "cells", "blend", "cell"]) (sc := defScope s__law_draw) (by decide +kernel))
        (fun _ _ _ _ _ => pg_name (i := 4) nd rfl (Or.inl rfl)) (fun _ _ _ _ _ => pts_one (pt_cmpR op_ge (pv 4) (pe_op op_pow pe_int pe_int) (nomark _)))
        (fun _ _ _ _ _ => pv 4))) (pa_cons (pv 3) pa_nil))))))), ?_⟩
  obtain ⟨ms, ems, lms⟩ := cut48 ns
  -- cells
  refine ⟨.ref a, rfl, 48, rfl, a, _, rfl, hS, fun c nc => ⟨c, rfl, ⟨_, .inl (.inl upd_same)⟩, fun D nD => ?_⟩⟩
  rw [ems] at nD ⊢
  have scl : Same H (upd H c (.lst (ms.map V.int))) := same_new nc
  have ncD : c ≠ D := ne_of_none upd_same nD
  refine lc_list (xs := ms.map V.int) (fun i H' => ∃ acc : List Int, H' c = some (.lst (ms.map V.int)) ∧ H' D = some (.lst (acc.map V.int)) ∧ acc.length ≤ i ∧ (∀ x ∈ acc, 0 ≤ x) ∧ Same H H')
    ⟨[], by rw [upd_ne ncD, upd_same], upd_same, Nat.le_refl _, fun x hx => absurd hx List.not_mem_nil, scl.trans (same_new nD)⟩
    (fun i H' _ ⟨_, h1, _⟩ => .inl (.inl h1)) ?_ ?_
  · rintro i x H' hx ⟨acc, h1, h2, h3, h4, h5⟩
    obtain ⟨n, _, rfl⟩ := map_at hx
    have hlt : i < 48 := by
      have q := (List.getElem?_eq_some_iff.mp hx).1
      rw [List.length_map] at q
      omega
    refine ⟨rfl, .int n, rfl, .inl ⟨n, rfl, n, rfl, acc.map V.int, h2, ?_, acc ++ [if n < 0 then -n else n], ?_, ?_, ?_, ?_, ?_⟩⟩
    · rw [List.length_map]
      exact Nat.lt_of_le_of_lt (show acc.length ≤ 48 by omega) (by decide)
    · rw [upd_ne ncD]
      exact h1
    · rw [upd_same, snoc_map]
    · rw [snoc_len]
      omega
    · intro x hx
      rcases List.mem_append.mp hx with hx | hx
      · exact h4 x hx
      · rw [List.mem_singleton.mp hx]
        split <;> omega
    · intro b o e
      by_cases hb : b = D
      · exact absurd e (by rw [hb]; intro e; have := scl.free nD; rw [this] at e; cases e)
      · rw [upd_ne hb]
        exact h5 b o e
  rintro H1 ⟨cs, h1, h2, h3, h4, h5⟩
  have lcs : cs.length ≤ 48 := by
    rw [List.length_map] at h3
    omega
  -- blend
  refine ⟨.int z, rfl, 104729, z, rfl, rfl, .inl ⟨by decide, by decide⟩, 7919, _, rfl, rfl, ?_⟩
  refine ⟨.ref D, rfl, D, rfl, ⟨_, .inl (.inl h2)⟩, for_list (K := K) (a := D) (xs := cs.map V.int)
    (fun i σ H' => ∃ (b : Int) (y : Option V), σ = [some (.ref a), some (.int z), some (.ref D), some (.int b), y] ∧ H' = H1 ∧ 0 ≤ b ∧ b < 2147483647)
    ⟨_, none, rfl, rfl, by omega, by omega⟩ (fun i σ H' _ ⟨_, _, _, e, _⟩ => by rw [e]; exact .inl (.inl h2)) ?_ ?_⟩
  · rintro i x σ H' hx ⟨b, y, rfl, rfl, b0, b1⟩
    obtain ⟨n, _, rfl⟩ := map_at hx
    refine ⟨.int b, rfl, b, 48271, rfl, rfl, .inr ⟨by decide, by decide⟩, .int n, rfl, n, 2147483549, rfl, rfl, by show (0 : Int) < 2147483549; decide, _, _, rfl, rfl, _, _, rfl, rfl, .inl ⟨_, rfl, _, 2147483647, rfl, rfl, by show (0 : Int) < 2147483647; decide, ?_⟩⟩
    exact ⟨_, _, rfl, rfl, Int.emod_nonneg _ (by decide), Int.emod_lt_of_pos _ (by decide)⟩
  rintro σ H' ⟨b, y, rfl, rfl, b0, b1⟩
  -- what is handed back
  refine ⟨.ref D, rfl, D, rfl, ⟨_, .inl (.inl h2)⟩, fun L nL => ?_⟩
  have nDL : D ≠ L := ne_of_none h2 nL
  refine lc_list (xs := cs.map V.int) (fun i H2 => ∃ acc : List Int, H2 D = some (.lst (cs.map V.int)) ∧ H2 L = some (.lst (acc.map V.int)) ∧ acc.length ≤ i ∧ (∀ x ∈ acc, 0 ≤ x) ∧ Same H H2)
    ⟨[], by rw [upd_ne nDL]; exact h2, upd_same, Nat.le_refl _, fun x hx => absurd hx List.not_mem_nil, h5.trans (same_new nL)⟩
    (fun i H2 _ ⟨_, g1, _⟩ => .inl (.inl g1)) ?_ ?_
  · rintro i x H2 hx ⟨acc, g1, g2, g3, g4, g5⟩
    obtain ⟨n, hn, rfl⟩ := map_at hx
    have hlt : i < 48 := by
      have q := (List.getElem?_eq_some_iff.mp hn).1
      omega
    refine ⟨rfl, .int n, rfl, 10, 18, rfl, rfl, ⟨by decide, by decide, by decide⟩, n, _, rfl, rfl, _, rfl, ite2 (fun hge => ?_) (fun hge => ?_)⟩
    · refine ⟨.int n, rfl, acc.map V.int, g2, ?_, acc ++ [n], ?_, ?_, ?_, ?_, ?_⟩
      · rw [List.length_map]
        exact Nat.lt_of_le_of_lt (show acc.length ≤ 48 by omega) (by decide)
      · rw [upd_ne nDL]
        exact g1
      · rw [upd_same, snoc_map]
      · rw [snoc_len]
        omega
      · intro x hx
        rcases List.mem_append.mp hx with hx | hx
        · exact g4 x hx
        · rw [List.mem_singleton.mp hx]
          exact h4 n (List.mem_of_getElem? hn)
      · intro q o e
        by_cases hb : q = L
        · exact absurd e (by rw [hb]; intro e; have := h5.free nL; rw [this] at e; cases e)
        · rw [upd_ne hb]
          exact g5 q o e
    · exact ⟨acc, g1, g2, by omega, g4, g5⟩
  rintro H2 ⟨xs, g1, g2, g3, g4, g5⟩
  rw [List.length_map] at g3
  refine ⟨L, _, rfl, .inl (.inl g2), fun l nl => ?_⟩
  refine ⟨.int b, rfl, by show 2 ≤ sizeLine; decide, fun d nd2 => ?_⟩
  have ndl : d ≠ l := fun e => by
    rw [e, upd_same] at nd2
    cases nd2
  have sl : Same H (upd H2 l (.lst (xs.map V.int).reverse)) := g5.trans (same_new nl)
  refine k d l _ (sl.free nd2) (g5.free nl) ⟨xs.reverse, b, ndl, upd_same, ?_, ?_, ?_, b0, b1⟩ (sl.trans (same_new nd2))
  · rw [upd_ne (fun e => ndl e.symm), upd_same, List.map_reverse]
  · rw [List.length_reverse]
    omega
  · intro x hx
    exact g4 x (List.mem_reverse.mp hx)
end
end K01
end

section
set_option maxHeartbeats 1000000
namespace K01
open PySem PySem.Spec PyProof.Rows L2 Zc Zd
local macro_rules | `(tactic| walk_at "w") => `(tactic| simp only [wRetN, wSeq, wNext, wBreak, wCont, wVar, e_c_int, e_c_str, e_c_bl, e_c_non, e_c_ty, e_c_ref, wCD, wNil, e_ty_s, e_ty_n, e_ty_d, e_ty_l, w2I, e_is_n, e_is_b, e_is_l, e_is_w, e_fInt, e_fAdd_i, e_fAdd_s, e_fAdd_l, e_fAdd_t, e_fMul_i, e_fMul_l, e_fMul_t, e_fCmp, e_fEq_i, e_fEq_s, e_fEq_b, e_fEq_l, e_fEq_t, e_fIx_l, e_fIx_t, e_fIx_s, e_fLen_l, e_fLen_t, e_fLen_s, e_fTup_l, e_fTup_t, e_fLst_l, e_fLst_t, e_fIntO_i, e_fIntO_b, e_fAbs, e_fStr, e_fBool_i, e_fBool_b, e_fSum, e_fSort, e_fSortT, wSortSetT, Zd.kSst, q_kSst2, wSortSetL, Zd.kSsl, q_kSsl2, q_callK, q_told, e_hears, e_tru_n, e_tru_b, e_tru_i, e_tru_s, e_tru_l, e_tru_t, e_asB, e_asI, wNoPart, e_fSl_l, e_fSl_t, e_fSl_s, e_pop, e_popAt, e_ext, e_name_a, e_name_n, e_nameF_a, e_nameF_n, e_nm_t, e_nm_f, e_gnil, e_gtup, e_items_l, e_items_t, e_items_s, e_own_a, e_own_n, wDNew, e_asA, e_asKey_i, e_asKey_s, e_asDc, e_asD_d, e_asD_n, e_asD_l, e_asDs_0, e_vwD_d, e_vwD_n, e_vwD_l, e_coA_0, dealP,  nl, onlyAt, isDeal, WDof, e_fin_d, e_fin_v, e_fin_n, e_fin_l, ent, SS.frz, sub, subC, unAll, q_asg, q_drop, q_ret, q_ifS, q_aug, q_par, q_kPar, q_for, q_raise, q_cons, q_star, q_kStar_l, q_kStar_t, q_as, q_dats, q_co_d, q_co_v, q_co_n, q_co_l, q_tup, q_lst, q_op, q_cb, q_bm, q_bm0, q_w2, q_w1, q_isi_int, q_isi_bool, q_isi_tuple, q_isi_list, q_isi_str, q_isLT, q_test, q_tru, q_and, q_or, q_not, q_andV, q_orV, q_notV, q_if, q_part, q_sl, q_revT, q_kRevT, q_revL, q_kRevL, q_un, q_lstRg1, q_lstRg2, q_chain, q_kChain, q_app, q_gcons, q_gsub, q_setL, q_setD, q_seqI, q_rng1, q_kRng1, q_rng2, q_kRng2, q_enum, q_kEnum, q_kEnum2, q_zip, q_kZip, q_lc, q_lcA, q_gen, q_callP, q_callD, q_kDeal2, q_ixA, q_kIxA1, q_dIn, q_dGet, q_disp1, q_any, q_of, Int.toNat_natCast, Zd.kAsg, Zd.kDrop, Zd.kRet, Zd.kIfS, Zd.kAug2, Zd.kAug, Zd.kPar2, Zd.kFor, Zd.kRaise, Zd.kRaise1, Zd.kCons2, Zd.kCons, Zd.kStar2, Zd.kStar, Zd.kAs2, Zd.kAs, Zd.kDats, Zd.kCo, Zd.kTup2, Zd.kTup, Zd.kLst2, Zd.kLst, Zd.kOp2, Zd.kOp, Zd.kCB, Zd.kBM2, Zd.kBM, Zd.kBM0, Zd.kR, Zd.k22, Zd.k21, Zd.k1, Zd.kIsi, Zd.kIsLT, Zd.kB, Zd.kTest, Zd.kTru2, Zd.kTru, Zd.kAnd, Zd.kOr, Zd.kNot, Zd.kAndV2, Zd.kAndV, Zd.kOrV2, Zd.kOrV, Zd.kNotV2, Zd.kNotV, Zd.kIf, Zd.kPart2, Zd.kPart, Zd.kSl3, Zd.kSl2, Zd.kSl1, Zd.kSl, Zd.kRevT, Zd.kRevL, Zd.kUn2, Zd.kUn, Zd.kLr2, Zd.kLr, Zd.kLs4, Zd.kLs3, Zd.kLs2, Zd.kLs, Zd.kChain4, Zd.kChain3, Zd.kChain2, Zd.kChain, Zd.kApp, Zd.kgCons, Zd.kgSub2, Zd.kgSub, Zd.kSetL, Zd.kSetD3, Zd.kSetD2, Zd.kSetD, Zd.kSeq3, Zd.kSeq2, Zd.kSeq1, Zd.kLc, Zd.kLcA, Zd.kGen, Zd.kCall3, Zd.kCall2, Zd.kCall1, Zd.kCallK1, Zd.kCallK2, Zd.kTold1, Zd.kTold2, Zd.kDeal1, Zd.kIxA2, Zd.kIxA, Zd.kDIn3, Zd.kDIn2, Zd.kDIn1, Zd.kDIn, Zd.kDGet3, Zd.kDGet2, Zd.kDGet1, Zd.kDGet, Zd.kDisp4, Zd.kDisp3, Zd.kDisp2, Zd.kDisp1, Zd.kTurn, Zd.kElt, Zd.kCond, Zd.kItem, Zd.kGo, Zd.kGenE, Zd.kZip, isTupD, isLstD, isIntD, isBoolD, isStrD,
  List.getElem?_cons_zero, List.getElem?_cons_succ, List.getElem?_nil, List.set_cons_zero, List.set_cons_succ, List.set_nil, List.length_cons, List.length_nil, List.cons_append, List.nil_append, List.replicate_succ, List.replicate_zero, List.map_cons, List.map_nil, List.reverse_cons, List.reverse_nil, List.all_cons, List.all_nil, List.take_zero, List.take_succ_cons, List.take_nil, Nat.reduceAdd, Nat.reduceSub, Nat.reduceMul, Nat.reduceLeDiff, Nat.reduceLT, Nat.zero_le, Nat.le_refl, Bool.and_true, Bool.true_and, Bool.and_self, Bool.not_true, Bool.not_false, Bool.false_eq_true, Bool.true_eq_false, Bool.or_true, Bool.or_false, Bool.true_or, Bool.false_or, Bool.and_false, Bool.false_and, reduceIte, reduceCtorEq, if_true, if_false, true_and, and_true, and_self, true_or, or_true, false_or, or_false, false_and, and_false, exists_eq_left', exists_eq_left, exists_eq, Nat.add_zero, Nat.zero_add, List.append_nil, not_false_eq_true, not_true_eq_false, String.reduceEq, forall_const])
section
variable {P : Program} {w : World} {K : PySem.W.Frag} {mg : Str → Option Value} {base : Heap}
theorem ok__law_any (C : Cn K mg base) : FnOk P w K mg base CX0 1 C.f__law_any C.fd__law_any ["deal", "bound"] (spD K C.TB 2 anyP) := (ok_any C.D__law_any C.m_int).imp fun vs H Q E h => any_imp h
theorem ok__law_of (C : Cn K mg base) : FnOk P w K mg base CX0 2 C.f__law_of C.fd__law_of ["deal", "some"] (spD K C.TB 2 ofP) := (ok_of C.D__law_of C.D__law_any C.m_int C.m_len).imp fun vs H Q E h => of_imp h
theorem perm_take' : ∀ {l : List Nat} {k x : Nat}, l[k]? = some x → l.Perm (x :: l.eraseIdx k)
  | [], k, x, h => by cases h
  | a :: r, 0, x, h => by
    cases h
    exact List.Perm.refl _
  | a :: r, k + 1, x, h => by
    have h' : r[k]? = some x := h
    rw [List.eraseIdx_cons_succ]
    exact ((perm_take' h').cons a).trans (List.Perm.swap _ _ _)
theorem eraseIdx_map' {α β : Type} (f : α → β) : ∀ (l : List α) (k : Nat), (l.map f).eraseIdx k = (l.eraseIdx k).map f
  | [], _ => rfl
  | a :: r, 0 => rfl
  | a :: r, k + 1 => by
    rw [List.map_cons, List.eraseIdx_cons_succ, List.eraseIdx_cons_succ, List.map_cons, eraseIdx_map' f r k]
/-- some numbers in any order -/
def mixedP : PSp := fun as k _ => ∃ ns : List Nat, as = [.dat (.list (ns.map natD))] ∧ ns.length ≤ 1000 ∧ (∀ n ∈ ns, n < 2 ^ 64) ∧ ∀ es : List Nat, es.Perm ns → k (.new (.lst (es.map natD)))
theorem plain_nats {ns : List Nat} (h : ∀ n ∈ ns, n < 2 ^ 64) : plainAll (ns.map natD) = true := by
  induction ns with
  | nil => rfl
  | cons a r ih =>
    show (decide ((a : Int).natAbs < 2 ^ 64) && plainAll (r.map natD)) = true
    rw [ih fun n hn => h n (List.mem_cons_of_mem _ hn), decide_eq_true (by have := h a List.mem_cons_self; omega)]
    rfl
theorem depth_nats : ∀ {ns : List Nat}, PyData.depthAll (ns.map natD) ≤ 1
  | [] => Nat.zero_le _
  | a :: r => by
    show max (natD a).depth (PyData.depthAll (r.map natD)) ≤ 1
    exact Nat.max_le.mpr ⟨by simp [natD, PyData.depth], depth_nats⟩
theorem eqOk_nats {ns : List Nat} (h : ∀ n ∈ ns, n < 2 ^ 64) : eqOk (.list (ns.map natD)) (.list []) := by
  refine ⟨plain_nats h, rfl, ?_, by simp [PyData.depth, PyData.depthAll]⟩
  show PyData.depth (.list (ns.map natD)) ≤ 64
  have := @depth_nats ns
  simp only [PyData.depth]
  omega
theorem eqvAll_nil {ds : List PyData} : PyData.eqvAll ds [] = ds.isEmpty := by cases ds <;> rfl
theorem ok__law_mixed (C : Cn K mg base) : FnOk P w K mg base CX0 2 C.f__law_mixed C.fd__law_mixed ["deal", "some"] (spD K C.TB 2 (mixedP)) := by
  refine fnD C.D__law_mixed.F sc__law_mixed rfl fun cdv A outer s H E hr => ?_
  have nd := sc__law_mixed.nd
  refine ⟨_, _, (pss_cons (psP false false (ps_par (i := 2) (j := 3) (by rfl) nd rfl rfl (by decide) rfl rfl (pa_cons (pe_callTy (zcr_list K (by rfl)) (by rfl) C.m_list boot_list (pa_cons (pv 1) pa_nil)) (pa_cons (pe_lst pa_nil) pa_nil)) (by rfl)))
  (pss_cons (ps_while PassesOwn.never (pt_cmpR (zop_ne K (by rfl) hr.units) (pv 2) (pe_lst pa_nil) (nomark _))
    (pss_one (ps_expr (zbm K (by rfl) (pe_bm PySem.F.plainAttrs_list PySem.F.slot_list_append PySem.F.type_list_append mt_append (pv 3) (pa_cons (zbm K (by rfl) (pe_bm PySem.F.plainAttrs_list PySem.F.slot_list_pop PySem.F.type_list_pop mt_popAt (pv 2) (pa_cons (pe_call (ok__law_any C) (hr.mono (by decide)) (by rfl) C.D__law_any.g C.D__law_any.F.kp C.D__law_any.b .nil pass00 (pa_cons (pv 0) (pa_cons (pe_callB (zcr_len K (by rfl)) (by rfl) C.m_len PySem.boot_len (pa_cons (pv 2) pa_nil)) pa_nil))) pa_nil))) pa_nil))))))
  (pss_one (ps_ret (pv 3))))), inferInstance, fun as k Ex hp hl => ?_⟩
  obtain ⟨as', rfl, ns, rfl, hz, hb, hk⟩ := hp
  walk_at "w"
  refine ⟨fun m S => ∃ left found : List Nat, S = ⟨[.loc 0, .dat (.list (ns.map natD)), .loc 2, .loc 3], [.deal 1, .held, .lst (left.map natD), .lst (found.map natD)]⟩ ∧ (found ++ left).Perm ns ∧ m = left.length, ⟨_, ns, [], rfl, .refl _, rfl⟩, ?_⟩
  rintro m S ⟨left, found, rfl, hp, rfl⟩
  have hlen := hp.length_eq
  rw [List.length_append] at hlen
  walk_at "w"
  refine ⟨eqOk_nats fun n hn => hb n (hp.mem_iff.mp (List.mem_append_right _ hn)), ?_⟩
  rw [eqvAll_nil]
  cases left with
  | nil =>
    rw [if_neg (by decide)]
    rw [List.append_nil] at hp
    exact hk found hp
  | cons x r =>
    rw [if_pos (show (!((x :: r).map natD).isEmpty) = true from rfl)]
    obtain ⟨left, hl⟩ : ∃ left, left = x :: r := ⟨_, rfl⟩
    rw [← hl] at hp hlen ⊢
    have pos : 0 < left.length := by rw [hl]; exact Nat.succ_pos _
    refine ⟨by rw [List.length_map]; omega, by rw [List.length_map]; omega, fun a ha => ?_⟩
    rw [List.length_map] at ha
    have ha' : a < left.length := by omega
    refine ⟨a, natD left[a], by rw [List.length_map]; exact ix_of ha', by rw [List.getElem?_map, List.getElem?_eq_getElem ha']; rfl, by rw [List.length_map]; omega, by rw [List.length_map]; omega, ?_⟩
    refine ⟨_, _, .refl _, ?_, left.eraseIdx a, found ++ [left[a]], ss_m (by rw [List.map_append, eraseIdx_map']; rfl), ?_, rfl⟩
    · rw [List.length_eraseIdx_of_lt ha']
      omega
    · have e : left.Perm (left[a] :: left.eraseIdx a) := perm_take' (List.getElem?_eq_getElem ha')
      rw [List.append_assoc]
      exact (List.Perm.append_left found e.symm).trans hp
/-- the closing by rounds -/
def natsLs (l : List (List Nat)) : List PyData := l.map natsL
theorem nat_perm' {ns' : List Int} {l : List Nat} (h : ns'.Perm (l.map Int.ofNat)) (s : ns'.Pairwise (· ≤ ·)) : ∃ b' : List Nat, ns' = b'.map Int.ofNat ∧ b'.Perm l ∧ b'.Pairwise (· ≤ ·) := by
  have all : ∀ x ∈ ns', ∃ n : Nat, x = Int.ofNat n := fun x hx => by
    obtain ⟨n, _, e⟩ := List.mem_map.mp (h.mem_iff.mp hx)
    exact ⟨n, e.symm⟩
  have e1 : ns' = (ns'.map Int.toNat).map Int.ofNat := by
    rw [List.map_map]
    have e0 : ns'.map (Int.ofNat ∘ Int.toNat) = ns'.map id := List.map_congr_left fun x hx => by
      obtain ⟨n, rfl⟩ := all x hx
      rfl
    rw [e0, List.map_id]
  refine ⟨ns'.map Int.toNat, e1, ?_, ?_⟩
  · have := h.map Int.toNat
    rw [List.map_map] at this
    have e2 : l.map (Int.toNat ∘ Int.ofNat) = l := (List.map_congr_left fun x _ => rfl).trans (List.map_id' l)
    rw [e2] at this
    exact this
  · rw [List.pairwise_map]
    exact s.imp fun {a b} hab => by omega
theorem asc_len' : ∀ {l : List Nat} {lo n : Nat}, l.Pairwise (· < ·) → (∀ x ∈ l, lo ≤ x ∧ x < n) → l.length ≤ n - lo
  | [], _, _, _, _ => Nat.zero_le _
  | a :: r, lo, n, h, hx => by
    cases h with
    | cons h1 h2 =>
      have ha := hx a List.mem_cons_self
      have := asc_len' (lo := a + 1) (n := n) h2 fun x hm => ⟨h1 x hm, (hx x (List.mem_cons_of_mem _ hm)).2⟩
      rw [List.length_cons]
      omega
theorem asc_len {l : List Nat} {n : Nat} (h : l.Pairwise (· < ·)) (hx : ∀ x ∈ l, x < n) : l.length ≤ n := by
  have := asc_len' (lo := 0) h fun x hm => ⟨Nat.zero_le x, hx x hm⟩
  omega
theorem intsOf_nats : ∀ {l : List Nat}, intsOf (l.map natD) = some (l.map Int.ofNat)
  | [] => rfl
  | a :: r => by
    show (intsOf (r.map natD)).map ((a : Int) :: ·) = _
    rw [intsOf_nats]
    rfl
/-- B: the lots behind many rounds -/
def closedP : PSp := fun as k _ => ∃ (n : Nat) (ps : List (Nat × Nat)), as = [.dat (natD n), .dat (.list (ps.map twoD))] ∧ n ≤ 12 ∧ (∀ p ∈ ps, p.1 < n ∧ p.2 < n) ∧ ∀ B : List (List Nat), Closing n ps B → Full n ps n B → k (.ad (.dat (ordD B)))
theorem ok__law_closed (C : Cn K mg base) : FnOk P w K mg base CX0 1 C.f__law_closed C.fd__law_closed ["many", "pairs"] (spP K C.TB 2 (closedP)) := by
  refine fnD C.D__law_closed.F sc__law_closed rfl fun cdv A outer s H E hr => ?_
  have nd := sc__law_closed.nd
  refine ⟨_, _, (pss_cons (ps_set (i := 2) nd rfl (.inr rfl) (zlc [6] (pe_lc (own := [("level", 6)]) (g := gName 6) (tt := tYes) (by rfl) nd (pi_range1 (by rfl) C.m_range (pa_cons (pv 0) pa_nil)) (blkOk_by (own := [("level", 6)]) (N := ["many", "pairs", "below", "turn", "low", "high", "level", "one", "lot"]) (sc := defScope s__law_closed) (by decide +kernel)) (fun _ _ _ _ _ => (pg_name (i := 6) nd rfl (Or.inl rfl))) (fun _ _ _ _ _ => pts_nil) (fun _ _ _ _ _ => (pe_lst (pa_cons (pv 6) pa_nil))))))
  (pss_cons (ps_for PassesOwn.never rfl (pi_range1 (by rfl) C.m_range (pa_cons (pv 0) pa_nil)) (pg_name (i := 3) nd rfl (Or.inl rfl))
    (pss_one (ps_for PassesOwn.never rfl (pi_seq K (by rfl) (pv 1)) (zpg_tup2 K 2 (by rfl) (pg_tup (by rfl) (pgs_cons (pg_name (i := 4) nd rfl (Or.inl rfl)) (pgs_cons (pg_name (i := 5) nd rfl (Or.inr rfl)) pgs_nil))) (by rfl))
        (pss_one (ps_asg (pe_callB (zcr_sorted K (by rfl)) (by rfl) C.m_sorted (by decide +kernel) (pa_cons (pe_op (zop_add K (by rfl)) (pe_ix (zix K (by rfl)) (pv 2) (pv 5) (fun _ _ => rfl)) (zlc [7] (pe_lc (own := [("one", 7)]) (g := gName 7)  (by rfl) nd (pi_seq K (by rfl) (pe_ix (zix K (by rfl)) (pv 2) (pv 4) (fun _ _ => rfl))) (blkOk_by (own := [("one", 7)]) (N := ["many", "pairs", "below", "turn", "low", "high", "level", "one", "lot"]) (sc := defScope s__law_closed) (by decide +kernel)) (fun _ _ _ _ _ => (pg_name (i := 7) nd rfl (Or.inl rfl))) (fun _ _ _ _ _ => (pts_one (pt_cmpR (zop_ni K (by rfl) (units65 hr)) (pv 7) (pe_ix (zix K (by rfl)) (pv 2) (pv 5) (fun _ _ => rfl)) (by rfl)))) (fun _ _ _ _ _ => (pv 7))))) pa_nil)) (pg_sub (pv 2) (pv 5) set_list))))))
  (pss_one (ps_ret (pe_callTy (zcr_tuple K (by rfl)) (by rfl) C.m_tuple boot_tuple (pa_cons (zlc [8] (pe_lc (own := [("lot", 8)]) (g := gName 8) (tt := tYes) (by rfl) nd (pi_seq K (by rfl) (pv 2)) (blkOk_by (own := [("lot", 8)]) (N := ["many", "pairs", "below", "turn", "low", "high", "level", "one", "lot"]) (sc := defScope s__law_closed) (by decide +kernel)) (fun _ _ _ _ _ => (pg_name (i := 8) nd rfl (Or.inl rfl))) (fun _ _ _ _ _ => pts_nil) (fun _ _ _ _ _ => (pe_callTy (zcr_tuple K (by rfl)) (by rfl) C.m_tuple boot_tuple (pa_cons (pv 8) pa_nil))))) pa_nil)))))), inferInstance, fun as k Ex hp hl => ?_⟩
  obtain ⟨n, ps, rfl, hn, hps, hk⟩ := hp
  walk_at "w"
  refine ⟨by omega, by omega, by rw [List.length_map, List.length_range]; omega, lcQ (fun (i : Nat) => PyData.int (0 + i)) (List.range n) rfl (fun _ => true) (fun i => natsL [i]) (fun i hi N1 N0 h1 h2 => ?_) ?_⟩
  · rw [Int.zero_add]
    walk_at "w"
    exact h1 rfl
  rw [filter_yes]
  walk_at "w"
  rw [show (List.range n).map (fun i => natsL [i]) = ((List.range n).map fun i => [i]).map natsL by rw [List.map_map]; rfl]
  have C0 : Closing n ps ((List.range n).map fun i => [i]) := by
    refine ⟨by rw [List.length_map, List.length_range], fun i b hb => ?_⟩
    rw [List.getElem?_map] at hb
    have hi : i < n := by
      by_cases hi : i < n
      · exact hi
      · rw [List.getElem?_eq_none (by rw [List.length_range]; omega)] at hb; cases hb
    rw [List.getElem?_range hi] at hb
    cases hb
    exact ⟨List.pairwise_singleton _ _, fun x hx => by rw [List.mem_singleton.mp hx]; exact hi, List.mem_cons_self, fun x hx => by rw [List.mem_singleton.mp hx]; exact .refl i⟩
  refine ⟨by omega, by omega, forQ_nat (fun t S => ∃ B a b c d f g, S = ⟨[.dat (natD n), .dat (.list (ps.map twoD)), .loc 0, a, b, c, d, f, g], [.lst (B.map natsL)]⟩ ∧ Closing n ps B ∧ Full n ps t B) ⟨_, _, _, _, _, _, _, rfl, C0, Full.zero C0⟩ ?_ ?_⟩
  · rintro S ⟨B, a, b, c, d, f, g, rfl, CB, FB⟩
    walk_at "w"
    refine ⟨by rw [List.length_map, CB.len]; omega, lcQ natsL B rfl (fun _ => true) natsT (fun l hl N1 N0 h1 h2 => ?_) ?_⟩
    · simp only [natsL]
      walk_at "w"
      exact h1 rfl
    · rw [filter_yes]
      walk_at "w"
      exact hk B CB FB
  · rintro t S N ht ⟨B, a, b, c, d, f, g, rfl, CB, FB⟩ hN
    walk_at "w"
    refine forQ twoD ps rfl (fun pre S => ∃ B a b c d f g, S = ⟨[.dat (natD n), .dat (.list (ps.map twoD)), .loc 0, a, b, c, d, f, g], [.lst (B.map natsL)]⟩ ∧ Closing n ps B ∧ Full n ps t B ∧ Rnd ps t pre.length B) ⟨B, _, _, _, _, _, _, rfl, CB, FB, fun p hp => absurd hp (by simp)⟩ ?_ ?_
    · rintro S ⟨B, a, b, c, d, f, g, rfl, CB, FB, RB⟩
      exact hN _ _ (.refl _) ⟨B, _, _, _, _, _, _, rfl, CB, Full.next CB RB⟩
    · rintro pre ⟨x, y⟩ post S N2 he ⟨B, a, b, c, d, f, g, rfl, CB, FB, RB⟩ hN2
      have hxy : x < n ∧ y < n := hps (x, y) (by rw [he]; exact List.mem_append_right _ List.mem_cons_self)
      simp only [twoD]
      walk_at "w"
      have hBx : B[x]? = some (B.getD x []) := by rw [List.getD_eq_getElem?_getD, List.getElem?_eq_getElem (by rw [CB.len]; exact hxy.1)]; rfl
      have hBy : B[y]? = some (B.getD y []) := by rw [List.getD_eq_getElem?_getD, List.getElem?_eq_getElem (by rw [CB.len]; exact hxy.2)]; rfl
      have ax : atI (B.map natsL) (x : Int) = some (natsL (B.getD x [])) := at_map hBx
      have ay : atI (B.map natsL) (y : Int) = some (natsL (B.getD y [])) := at_map hBy
      obtain ⟨bl, hbl⟩ : ∃ bl, bl = B.getD x [] := ⟨_, rfl⟩
      obtain ⟨bh, hbh⟩ : ∃ bh, bh = B.getD y [] := ⟨_, rfl⟩
      rw [← hbl] at hBx ax
      rw [← hbh] at hBy ay
      have Cl := CB.lot x bl hBx
      have Ch := CB.lot y bh hBy
      have ll : bl.length ≤ n := asc_len Cl.1 Cl.2.1
      have lh : bh.length ≤ n := asc_len Ch.1 Ch.2.1
      refine ⟨natsL bh, ay, natsL bl, ax, ?_⟩
      simp only [natsL]
      walk_at "w"
      refine ⟨by rw [List.length_map]; omega, lcQ natD bl rfl (fun v => !decide (v ∈ bh)) natD (fun v hv N1 N0 g1 g2 => ?_) ?_⟩
      · walk_at "w"
        refine ⟨_, ay, in_natsL ?_⟩
        walk_at "w"
        cases c1 : decide (v ∈ bh)
        · exact g1 (by rw [c1]; rfl)
        · exact g2 (by rw [c1]; rfl)
      · walk_at "w"
        have lf := List.length_filter_le (fun v => !decide (v ∈ bh)) bl
        refine ⟨by rw [List.length_map, List.length_map]; omega, (bh ++ bl.filter fun v => !decide (v ∈ bh)).map Int.ofNat, by rw [← List.map_append]; exact intsOf_nats, fun ns' hp hs => ?_⟩
        obtain ⟨b', rfl, perm, srt⟩ := nat_perm' hp hs
        have hy' : y < B.length := by rw [CB.len]; exact hxy.2
        refine ⟨y, by rw [List.length_map]; exact ix_of hy', ?_⟩
        have em : (B.map natsL).set y (.list ((b'.map Int.ofNat).map PyData.int)) = (B.set y b').map natsL := by
          rw [List.map_set, List.map_map]
          rfl
        obtain ⟨C1, G1, A1⟩ := CB.step hBx hBy (by rw [he]; exact List.mem_append_right _ List.mem_cons_self) perm srt
        have len1 : (B.set y b').length = B.length := List.length_set
        have Hp : ps[pre.length]? = some (x, y) := by rw [he, List.getElem?_append_right (Nat.le_refl _), Nat.sub_self]; rfl
        refine hN2 _ _ (.refl _) ⟨B.set y b', _, _, _, _, _, _, ss_m (by rw [em]), C1, FB.grow G1 len1, ?_⟩
        rw [List.length_append]
        exact RB.next FB G1 len1 Hp hxy.1 hBx (List.getElem?_set_self hy') A1
theorem rgD_nat {n : Nat} : rgD 0 (n : Int) = (List.range n).map natD := by
  unfold rgD
  rw [Int.sub_zero, Int.toNat_natCast]
  exact range_natD n
/-- drawn pairs, any; ups: mostly of a row -/
def pairsP : PSp := fun as k _ => ∃ n : Nat, as = [.dat (natD n)] ∧ 1 ≤ n ∧ n ≤ 12 ∧ ∀ ps : List (Nat × Nat), ps.length ≤ 24 → (∀ p ∈ ps, p.1 < n ∧ p.2 < n) → k (.new (.lst (ps.map twoD)))
theorem ok__law_pairs (C : Cn K mg base) : FnOk P w K mg base CX0 3 C.f__law_pairs C.fd__law_pairs ["deal", "many"] (spD K C.TB 2 (pairsP)) := by
  refine fnD C.D__law_pairs.F sc__law_pairs rfl fun cdv A outer s H E hr => ?_
  have nd := sc__law_pairs.nd
  refine ⟨_, _, (pss_cons (psP true false (ps_par (i := 2) (j := 3) (by rfl) nd rfl rfl (by decide) rfl rfl (pa_cons (pe_call (ok__law_mixed C) (hr.mono (by decide)) (by rfl) C.D__law_mixed.g C.D__law_mixed.F.kp C.D__law_mixed.b .nil pass00 (pa_cons (pv 0) (pa_cons (pe_listRg rfl (by rfl) C.m_list (prg_1 (by rfl) C.m_range (pv 1))) pa_nil))) (pa_cons (pe_lst pa_nil) pa_nil)) (by rfl)))
  (pss_cons (ps_for PassesOwn.never rfl (pi_range1 (by rfl) C.m_range (pa_cons (pe_call (ok__law_any C) (hr.mono (by decide)) (by rfl) C.D__law_any.g C.D__law_any.F.kp C.D__law_any.b .nil pass00 (pa_cons (pv 0) (pa_cons (pe_op (zop_add K (by rfl)) (pe_op (zop_mul K (by rfl)) pe_int (pv 1)) pe_int) pa_nil))) pa_nil)) (pg_name (i := 4) nd rfl (Or.inl rfl))
    (pss_cons (psP true true (ps_par (i := 5) (j := 6) (by rfl) nd rfl rfl (by decide) rfl rfl (pa_cons (pe_call (ok__law_any C) (hr.mono (by decide)) (by rfl) C.D__law_any.g C.D__law_any.F.kp C.D__law_any.b .nil pass00 (pa_cons (pv 0) (pa_cons (pv 1) pa_nil))) (pa_cons (pe_call (ok__law_any C) (hr.mono (by decide)) (by rfl) C.D__law_any.g C.D__law_any.F.kp C.D__law_any.b .nil pass00 (pa_cons (pv 0) (pa_cons (pv 1) pa_nil))) pa_nil)) (by rfl)))
      (pss_cons (ps_asg (pe_ifExp (pt_cmpR zop_gt (pe_call (ok__law_any C) (hr.mono (by decide)) (by rfl) C.D__law_any.g C.D__law_any.F.kp C.D__law_any.b .nil pass00 (pa_cons (pv 0) (pa_cons pe_int pa_nil))) pe_int (nomark _)) (pe_tup (pa_cons (pe_callB (zcr_min (by rfl)) (by rfl) C.m_min PyProof.Rows.boot_min (pa_cons (pv 5) (pa_cons (pv 6) pa_nil))) (pa_cons (pe_callB (zcr_max (by rfl)) (by rfl) C.m_max PyProof.Rows.boot_max (pa_cons (pv 5) (pa_cons (pv 6) pa_nil))) pa_nil))) (pe_tup (pa_cons (pv 5) (pa_cons (pv 6) pa_nil)))) (zpg_tup2 K 2 (by rfl) (pg_tup (by rfl) (pgs_cons (pg_name (i := 7) nd rfl (Or.inl rfl)) (pgs_cons (pg_name (i := 8) nd rfl (Or.inl rfl)) pgs_nil))) (by rfl)))
      (pss_one (ps_expr (zbm K (by rfl) (pe_bm PySem.F.plainAttrs_list PySem.F.slot_list_append PySem.F.type_list_append mt_append (pv 3) (pa_cons (pe_tup (pa_cons (pe_ix (zix K (by rfl)) (pv 2) (pv 7) (fun _ _ => rfl)) (pa_cons (pe_ix (zix K (by rfl)) (pv 2) (pv 8) (fun _ _ => rfl)) pa_nil))) pa_nil))))))))
  (pss_one (ps_ret (pv 3))))), inferInstance, fun as k Ex hp hl => ?_⟩
  obtain ⟨as', rfl, n, rfl, n1, n2, hk⟩ := hp
  walk_at "w"
  refine ⟨by omega, by omega, List.range n, by rw [rgD_nat], by rw [List.length_range]; omega, fun m hm => by have := List.mem_range.mp hm; omega, fun row hrow => ?_⟩
  have hlen : row.length = n := by rw [hrow.length_eq, List.length_range]
  have hrl : ∀ x ∈ row, x < n := fun x hx => List.mem_range.mp (hrow.mem_iff.mp hx)
  walk_at "w"
  refine ⟨mulW (by decide) (by omega), by omega, by omega, fun turns ht => ⟨by omega, by omega, ?_⟩⟩
  refine forQ_nat (fun i S => ∃ (ps : List (Nat × Nat)) (a b c d f : AD), S = ⟨[.loc 0, .dat (natD n), .dat (.list (row.map natD)), .loc 2, a, b, c, d, f], [.deal 1, .held, .lst (ps.map twoD)]⟩ ∧ ps.length = i ∧ ∀ p ∈ ps, p.1 < n ∧ p.2 < n) ⟨[], _, _, _, _, _, rfl, rfl, fun p hp => absurd hp List.not_mem_nil⟩ ?_ ?_
  · rintro S ⟨ps, a, b, c, d, f, rfl, hl, hps⟩
    walk_at "w"
    exact hk ps (by omega) hps
  · rintro i S N hi ⟨ps, a, b, c, d, f, rfl, hl, hps⟩ hN
    walk_at "w"
    have add : ∀ (x y : Nat) (s4 s5 s6 s7 s8 : AD), x < n → y < n → (ps.map twoD).length < 1000000 ∧ N ⟨[.loc 0, .dat (natD n), .dat (.list (row.map natD)), .loc 2, s4, s5, s6, s7, s8], [.deal 1, .held, .lst (ps.map twoD ++ [.tuple [natD (row.getD x 0), natD (row.getD y 0)]])]⟩ := fun x y s4 s5 s6 s7 s8 hx hy =>
      ⟨by rw [List.length_map]; omega, hN _ _ (.refl _) ⟨ps ++ [(row.getD x 0, row.getD y 0)], _, _, _, _, _, ss_m (by rw [List.map_append]; rfl), by rw [List.length_append, hl]; rfl, fun p hp => by
        rcases List.mem_append.mp hp with h | h
        · exact hps p h
        · rw [List.mem_singleton.mp h]
          have g : ∀ z, z < n → row.getD z 0 < n := fun z hz => by
            rw [List.getD_eq_getElem?_getD, List.getElem?_eq_getElem (by omega)]
            exact hrl _ (List.getElem_mem _)
          exact ⟨g x hx, g y hy⟩⟩⟩
    refine ⟨by omega, by omega, fun x hx => ⟨by omega, by omega, fun y hy => ⟨by omega, by omega, fun z hz => ?_⟩⟩⟩
    have at_ : ∀ {m : Nat}, m < n → atI (row.map natD) (m : Int) = some (natD (row.getD m 0)) := fun hm => at_getD (by omega)
    have hx' : x < n := by omega
    have hy' : y < n := by omega
    split
    · by_cases c1 : (y : Int) < (x : Int)
      · rw [if_pos c1, if_neg (by omega)]
        exact ⟨_, at_ hy', _, at_ hx', add y x _ _ _ _ _ hy' hx'⟩
      · rw [if_neg c1]
        by_cases c2 : (y : Int) > (x : Int)
        · rw [if_pos c2]
          exact ⟨_, at_ hx', _, at_ hy', add x y _ _ _ _ _ hx' hy'⟩
        · rw [if_neg c2]
          exact ⟨_, at_ hx', _, at_ hx', add x x _ _ _ _ _ hx' hx'⟩
    · exact ⟨_, at_ hx', _, at_ hy', add x y _ _ _ _ _ hx' hy'⟩
end
end K01
end

section
set_option maxHeartbeats 1000000
namespace K01
open PySem PySem.Spec PyProof.Rows L2 Zc Zd
local macro_rules | `(tactic| walk_at "w") => `(tactic| simp only [wRetN, wSeq, wNext, wBreak, wCont, wVar, e_c_int, e_c_str, e_c_bl, e_c_non, e_c_ty, e_c_ref, wCD, wNil, e_ty_s, e_ty_n, e_ty_d, e_ty_l, w2I, e_is_n, e_is_b, e_is_l, e_is_w, e_fInt, e_fAdd_i, e_fAdd_s, e_fAdd_l, e_fAdd_t, e_fMul_i, e_fMul_l, e_fMul_t, e_fCmp, e_fEq_i, e_fEq_s, e_fEq_b, e_fEq_l, e_fEq_t, e_fIx_l, e_fIx_t, e_fIx_s, e_fLen_l, e_fLen_t, e_fLen_s, e_fTup_l, e_fTup_t, e_fLst_l, e_fLst_t, e_fIntO_i, e_fIntO_b, e_fAbs, e_fStr, e_fBool_i, e_fBool_b, e_fSum, e_fSort, e_fSortT, wSortSetT, Zd.kSst, q_kSst2, wSortSetL, Zd.kSsl, q_kSsl2, q_callK, q_told, e_hears, e_tru_n, e_tru_b, e_tru_i, e_tru_s, e_tru_l, e_tru_t, e_asB, e_asI, wNoPart, e_fSl_l, e_fSl_t, e_fSl_s, e_pop, e_popAt, e_ext, e_name_a, e_name_n, e_nameF_a, e_nameF_n, e_nm_t, e_nm_f, e_gnil, e_gtup, e_items_l, e_items_t, e_items_s, e_own_a, e_own_n, wDNew, e_asA, e_asKey_i, e_asKey_s, e_asDc, e_asD_d, e_asD_n, e_asD_l, e_asDs_0, e_vwD_d, e_vwD_n, e_vwD_l, e_coA_0, dealP,  nl, onlyAt, isDeal, WDof, e_fin_d, e_fin_v, e_fin_n, e_fin_l, ent, SS.frz, sub, subC, unAll, q_asg, q_drop, q_ret, q_ifS, q_aug, q_par, q_kPar, q_for, q_raise, q_cons, q_star, q_kStar_l, q_kStar_t, q_as, q_dats, q_co_d, q_co_v, q_co_n, q_co_l, q_tup, q_lst, q_op, q_cb, q_bm, q_bm0, q_w2, q_w1, q_isi_int, q_isi_bool, q_isi_tuple, q_isi_list, q_isi_str, q_isLT, q_test, q_tru, q_and, q_or, q_not, q_andV, q_orV, q_notV, q_if, q_part, q_sl, q_revT, q_kRevT, q_revL, q_kRevL, q_un, q_lstRg1, q_lstRg2, q_chain, q_kChain, q_app, q_gcons, q_gsub, q_setL, q_setD, q_seqI, q_rng1, q_kRng1, q_rng2, q_kRng2, q_enum, q_kEnum, q_kEnum2, q_zip, q_kZip, q_lc, q_lcA, q_gen, q_callP, q_callD, q_kDeal2, q_ixA, q_kIxA1, q_dIn, q_dGet, q_disp1, q_any, q_of, Int.toNat_natCast, Zd.kAsg, Zd.kDrop, Zd.kRet, Zd.kIfS, Zd.kAug2, Zd.kAug, Zd.kPar2, Zd.kFor, Zd.kRaise, Zd.kRaise1, Zd.kCons2, Zd.kCons, Zd.kStar2, Zd.kStar, Zd.kAs2, Zd.kAs, Zd.kDats, Zd.kCo, Zd.kTup2, Zd.kTup, Zd.kLst2, Zd.kLst, Zd.kOp2, Zd.kOp, Zd.kCB, Zd.kBM2, Zd.kBM, Zd.kBM0, Zd.kR, Zd.k22, Zd.k21, Zd.k1, Zd.kIsi, Zd.kIsLT, Zd.kB, Zd.kTest, Zd.kTru2, Zd.kTru, Zd.kAnd, Zd.kOr, Zd.kNot, Zd.kAndV2, Zd.kAndV, Zd.kOrV2, Zd.kOrV, Zd.kNotV2, Zd.kNotV, Zd.kIf, Zd.kPart2, Zd.kPart, Zd.kSl3, Zd.kSl2, Zd.kSl1, Zd.kSl, Zd.kRevT, Zd.kRevL, Zd.kUn2, Zd.kUn, Zd.kLr2, Zd.kLr, Zd.kLs4, Zd.kLs3, Zd.kLs2, Zd.kLs, Zd.kChain4, Zd.kChain3, Zd.kChain2, Zd.kChain, Zd.kApp, Zd.kgCons, Zd.kgSub2, Zd.kgSub, Zd.kSetL, Zd.kSetD3, Zd.kSetD2, Zd.kSetD, Zd.kSeq3, Zd.kSeq2, Zd.kSeq1, Zd.kLc, Zd.kLcA, Zd.kGen, Zd.kCall3, Zd.kCall2, Zd.kCall1, Zd.kCallK1, Zd.kCallK2, Zd.kTold1, Zd.kTold2, Zd.kDeal1, Zd.kIxA2, Zd.kIxA, Zd.kDIn3, Zd.kDIn2, Zd.kDIn1, Zd.kDIn, Zd.kDGet3, Zd.kDGet2, Zd.kDGet1, Zd.kDGet, Zd.kDisp4, Zd.kDisp3, Zd.kDisp2, Zd.kDisp1, Zd.kTurn, Zd.kElt, Zd.kCond, Zd.kItem, Zd.kGo, Zd.kGenE, Zd.kZip, isTupD, isLstD, isIntD, isBoolD, isStrD,
  List.getElem?_cons_zero, List.getElem?_cons_succ, List.getElem?_nil, List.set_cons_zero, List.set_cons_succ, List.set_nil, List.length_cons, List.length_nil, List.cons_append, List.nil_append, List.replicate_succ, List.replicate_zero, List.map_cons, List.map_nil, List.reverse_cons, List.reverse_nil, List.all_cons, List.all_nil, List.take_zero, List.take_succ_cons, List.take_nil, Nat.reduceAdd, Nat.reduceSub, Nat.reduceMul, Nat.reduceLeDiff, Nat.reduceLT, Nat.zero_le, Nat.le_refl, Bool.and_true, Bool.true_and, Bool.and_self, Bool.not_true, Bool.not_false, Bool.false_eq_true, Bool.true_eq_false, Bool.or_true, Bool.or_false, Bool.true_or, Bool.false_or, Bool.and_false, Bool.false_and, reduceIte, reduceCtorEq, if_true, if_false, true_and, and_true, and_self, true_or, or_true, false_or, or_false, false_and, and_false, exists_eq_left', exists_eq_left, exists_eq, Nat.add_zero, Nat.zero_add, List.append_nil, not_false_eq_true, not_true_eq_false, String.reduceEq, forall_const])
section
variable {P : Program} {w : World} {K : PySem.W.Frag} {mg : Str → Option Value} {base : Heap}
def isRingP : PSp := fun as k _ => ∃ (L : Nat) (ps : List (Nat × Nat)) (w : List Nat), as = [.dat (.list (ps.map twoD)), .dat (natsT w)] ∧ L ≤ 12 ∧ (∀ p ∈ ps, p.1 < L ∧ p.2 < L) ∧ RingW ps L w ∧ k (.ad (.dat (.bool true)))
theorem ok__law_is_ring (C : Cn K mg base) : FnOk P w K mg base CX0 1 C.f__law_is_ring C.fd__law_is_ring ["pairs", "ring"] (spP K C.TB 2 (isRingP)) := by
  refine fnD C.D__law_is_ring.F sc__law_is_ring rfl fun cdv A outer s H E hr => ?_
  have nd := sc__law_is_ring.nd
  refine ⟨_, _, (pss_cons (ps_if (PW.pt (pw_or (pt_not (zpt_truth K (by rfl) (pe_callB (zcr_isi K (by rfl)) (by rfl) C.m_isinstance boot_isinstance (pa_cons (pv 1) (pa_cons (pe_bltn (v := .ty "tuple") (by rfl) C.m_tuple boot_tuple rfl) pa_nil))) (by intro _; rfl))) (pw_or (pt_cmpR zop_lt (pe_callB (zcr_len K (by rfl)) (by rfl) C.m_len PySem.boot_len (pa_cons (pv 1) pa_nil)) pe_int (nomark _)) (pw_or1 (pt_cmpR (zop_ne K (by rfl) hr.units) (pe_callB (zcr_sortedT K (by rfl)) (by rfl) C.m_sorted (by decide +kernel) (pa_cons (pv 1) pa_nil)) (pe_callB (cr_sortedSet (by rfl)) (by rfl) C.m_sorted (by decide +kernel) (pa_cons (pe_callTy (zcr_setT K (by rfl) (by rfl)) (by rfl) C.m_set boot_set (pa_cons (pv 1) pa_nil)) pa_nil)) (nomark _))))))
    (pss_one (ps_ret pe_bl))
    pss_nil)
  (pss_one (ps_ret (pe_cmpR (zop_eq K (by rfl) hr.units) (zlc [2] (pe_lc (own := [("at", 2)]) (g := gName 2)  (by rfl) nd (pi_range1 (by rfl) C.m_range (pa_cons (pe_callB (zcr_len K (by rfl)) (by rfl) C.m_len PySem.boot_len (pa_cons (pv 1) pa_nil)) pa_nil)) (blkOk_by (own := [("at", 2)]) (N := ["pairs", "ring", "at"]) (sc := defScope s__law_is_ring) (by decide +kernel)) (fun _ _ _ _ _ => (pg_name (i := 2) nd rfl (Or.inl rfl))) (fun _ _ _ _ _ => (pts_one (pt_cmpR (zop_ni K (by rfl) (units65 hr)) (pe_tup (pa_cons (pe_ix (zix K (by rfl)) (pv 1) (pe_op zop_sub (pv 2) pe_int) (fun _ _ => rfl)) (pa_cons (pe_ix (zix K (by rfl)) (pv 1) (pv 2) (fun _ _ => rfl)) pa_nil))) (pv 0) (by rfl)))) (fun _ _ _ _ _ => (pv 2)))) (pe_lst pa_nil) (nomark _))))), inferInstance, fun as k Ex hp hl => ?_⟩
  obtain ⟨L, ps, wy, rfl, hL, hps, R, hk⟩ := hp
  have two := R.two
  have wl : wy.length ≤ L := nodup_len R.nd R.lt
  walk_at "w"
  simp only [natsT, Bool.not_true, Bool.false_eq_true, if_false, e_fLen_t]
  walk_at "w"
  rw [List.length_map, decide_eq_false (by omega)]
  walk_at "w"
  refine ⟨_, intsOf_nats, by omega, fun o1 p1 s1 => ?_⟩
  refine ⟨_, intsOf_nats, by rw [List.length_map]; omega, fun o2 s2 m2 => ?_⟩
  have e12 : o1 = o2 := ascExt (asc_nodup s1 (p1.nodup_iff.mpr (ints_nodup R.nd))) s2 fun x => by rw [m2, p1.mem_iff]
  subst e12
  have small : ∀ x ∈ o1, x.natAbs < 2 ^ 64 := fun x hx => by
    obtain ⟨n, hn, rfl⟩ := List.mem_map.mp (p1.mem_iff.mp hx)
    have := R.lt n hn
    rw [show (Int.ofNat n).natAbs = n from rfl]
    omega
  refine ⟨eqOk_ints small small, ?_⟩
  rw [eqvAll_ints, Bool.not_true, if_neg Bool.false_ne_true, List.length_map, List.length_range]
  refine ⟨by omega, by omega, by omega, ?_⟩
  have hsm : ∀ q ∈ ps, q.1 < 2 ^ 64 ∧ q.2 < 2 ^ 64 := fun q hq => by have := hps q hq; omega
  have at_ : ∀ {m : Nat}, m < wy.length → atI (wy.map natD) (m : Int) = some (natD (wy.getD m 0)) := fun hm => at_getD hm
  have lt_ : ∀ {m : Nat}, m < wy.length → wy.getD m 0 < L := fun {m} hm => by
    rw [List.getD_eq_getElem?_getD, List.getElem?_eq_getElem hm]
    exact R.lt _ (List.getElem_mem _)
  refine lcQ natD (List.range wy.length) (range_natD _) (fun _ => false) (fun x => natD x) (fun x hx N1 N0 h1 h0 => ?_) ?_
  · have hx' := List.mem_range.mp hx
    walk_at "w"
    by_cases z : x = 0
    · subst z
      refine ⟨natD (lastN wy), last_at (by omega), _, at_ hx', ?_⟩
      exact in_two (p := (lastN wy, wy.getD 0 0)) ⟨by have := R.lt _ (lastN_mem (w := wy) (by omega)); omega, by have := lt_ hx'; omega⟩ hsm (by rw [decide_eq_true R.back]; exact h0 rfl)
    · refine ⟨natD (wy.getD (x - 1) 0), by rw [show ((x : Int) - 1) = ((x - 1 : Nat) : Int) by omega]; exact at_ (by omega), _, at_ hx', ?_⟩
      have hm := R.ch (x - 1) (by omega)
      rw [show x - 1 + 1 = x by omega] at hm
      exact in_two (p := (wy.getD (x - 1) 0, wy.getD x 0)) ⟨by have := lt_ (m := x - 1) (by omega); omega, by have := lt_ hx'; omega⟩ hsm (by rw [decide_eq_true hm]; exact h0 rfl)
  rw [List.filter_eq_nil_iff.mpr fun _ _ => Bool.false_ne_true]
  walk_at "w"
  exact ⟨eqOk_ints (l := []) (m := []) (fun _ h => nomatch h) (fun _ h => nomatch h), hk⟩
end
end K01
end

section
set_option maxHeartbeats 1000000
/-! What the law's closing knows, and what of it the program's answers say. -/
namespace K01
open PySem PySem.Spec PyProof.Rows L2 Zc Zd
section
variable {ps : List (Nat × Nat)} {n : Nat} {B : List (List Nat)}
open Classical in
/-- what is within some levels lies within n rounds -/
theorem path_all (hp : ∀ p ∈ ps, p.1 < n ∧ p.2 < n) {x h : Nat} (hx : x < n) (r : Reach ps x h) : PathLe ps n x h := by
  let S : Nat → List Nat := fun t => (List.range n).filter fun y => decide (PathLe ps t x y)
  have stay : ∀ t, (∀ y, y < n → PathLe ps (t + 1) x y → PathLe ps t x y) → ∀ {y}, Reach ps x y → PathLe ps t x y := fun t st y r => by
    induction r with
    | refl => exact (PathLe.refl 0 x).mono (Nat.zero_le _)
    | step _ hm ih => exact st _ (hp _ hm).2 (.step ih hm)
  have grow : ∀ t, (∃ t', t' < t ∧ ∀ y, y < n → PathLe ps (t' + 1) x y → PathLe ps t' x y) ∨ t + 1 ≤ (S t).length := by
    intro t
    induction t with
    | zero =>
      right
      have m : x ∈ S 0 := List.mem_filter.mpr ⟨List.mem_range.mpr hx, decide_eq_true (PathLe.refl 0 x)⟩
      exact List.length_pos_of_mem m
    | succ t ih =>
      rcases ih with ⟨t', lt, st⟩ | le
      · exact .inl ⟨t', by omega, st⟩
      · by_cases st : ∀ y, y < n → PathLe ps (t + 1) x y → PathLe ps t x y
        · exact .inl ⟨t, by omega, st⟩
        · right
          obtain ⟨y, hy⟩ := Classical.not_forall.mp st
          obtain ⟨hy1, hy⟩ := Classical.not_imp.mp hy
          obtain ⟨hy2, hy3⟩ := Classical.not_imp.mp hy
          have := (filter_lt (p := fun y => decide (PathLe ps (t + 1) x y)) (q := fun y => decide (PathLe ps t x y)) (fun y h => decide_eq_true (of_decide_eq_true h).up) (l := List.range n)).2 ⟨y, List.mem_range.mpr hy1, decide_eq_true hy2, decide_eq_false hy3⟩
          show t + 1 + 1 ≤ ((List.range n).filter fun y => decide (PathLe ps (t + 1) x y)).length
          have le' : t + 1 ≤ ((List.range n).filter fun y => decide (PathLe ps t x y)).length := le
          omega
  rcases grow n with ⟨t', lt, st⟩ | le
  · exact (stay t' st r).mono (Nat.le_of_lt lt)
  · have : (S n).length ≤ n := Nat.le_trans (List.length_filter_le _ _) (by rw [List.length_range]; exact Nat.le_refl n)
    omega
theorem getD_lot {i : Nat} (h : i < B.length) : B[i]? = some (B.getD i []) := by
  rw [List.getD_eq_getElem?_getD, List.getElem?_eq_getElem h]
  rfl
/-- what is known of the closing -/
structure Cl (ps : List (Nat × Nat)) (n : Nat) (B : List (List Nat)) : Prop where
  n1 : 1 ≤ n
  n2 : n ≤ 12
  hp : ∀ p ∈ ps, p.1 < n ∧ p.2 < n
  len : B.length = n
  asc : ∀ i, i < n → (B.getD i []).Pairwise (· < ·)
  lt : ∀ i, i < n → ∀ x ∈ B.getD i [], x < n
  mem : ∀ i, i < n → ∀ x, x < n → (x ∈ B.getD i [] ↔ Reach ps x i)
theorem cl_of (n1 : 1 ≤ n) (n2 : n ≤ 12) (hp : ∀ p ∈ ps, p.1 < n ∧ p.2 < n) (C : Closing n ps B) (F : Full n ps n B) : Cl ps n B where
  n1 := n1
  n2 := n2
  hp := hp
  len := C.len
  asc := fun i hi => (C.lot i _ (getD_lot (by rw [C.len]; exact hi))).1
  lt := fun i hi => (C.lot i _ (getD_lot (by rw [C.len]; exact hi))).2.1
  mem := fun i hi x hx => by
    have e := getD_lot (B := B) (i := i) (by rw [C.len]; exact hi)
    exact ⟨fun h => (C.lot i _ e).2.2.2 x h, fun h => F x i _ hi e (path_all hp hx h)⟩
variable (C : Cl ps n B)
theorem Cl.own {i : Nat} (C : Cl ps n B) (hi : i < n) : i ∈ B.getD i [] := (C.mem i hi i hi).mpr (.refl i)
/-- natural numbers that are ascending are told by their members -/
theorem ascNat {l m : List Nat} (h1 : l.Pairwise (· < ·)) (h2 : m.Pairwise (· < ·)) (h : ∀ x, x ∈ l ↔ x ∈ m) : l = m := by
  have up : ∀ {l : List Nat}, l.Pairwise (· < ·) → (l.map Int.ofNat).Pairwise (· < ·) := fun h => List.pairwise_map.mpr (h.imp fun {a b} z => by show (a : Int) < (b : Int); omega)
  have := ascExt (up h1) (up h2) fun x => by
    rw [List.mem_map, List.mem_map]
    exact ⟨fun ⟨a, ha, e⟩ => ⟨a, (h a).mp ha, e⟩, fun ⟨a, ha, e⟩ => ⟨a, (h a).mpr ha, e⟩⟩
  exact List.map_inj_right (fun a b e => Int.ofNat.inj e) |>.mp this
theorem lt_range (n : Nat) : (List.range n).Pairwise (· < ·) := List.pairwise_lt_range
theorem Cl.eq (C : Cl ps n B) : ordB n (vB ps n) = B := by
  refine List.ext_getElem (by unfold ordB; rw [List.length_map, List.length_range, C.len]) fun i h1 h2 => ?_
  have hi : i < n := by rw [← C.len]; exact h2
  have e : B[i] = B.getD i [] := by rw [List.getD_eq_getElem?_getD, List.getElem?_eq_getElem h2]; rfl
  rw [e]
  have e2 : (ordB n (vB ps n))[i] = lowsB n (vB ps n) i := by simp [ordB]
  rw [e2]
  refine ascNat ((lt_range n).filter _) (C.asc i hi) fun x => ?_
  unfold lowsB
  rw [List.mem_filter, List.mem_range, vB_iff C.hp]
  exact ⟨fun ⟨a, b⟩ => (C.mem i hi x a).mpr b, fun h => ⟨C.lt i hi x h, (C.mem i hi x (C.lt i hi x h)).mp h⟩⟩
/-- two levels within each other -/
def Knot (ps : List (Nat × Nat)) (n : Nat) : Prop := ∃ a b, a < n ∧ b < n ∧ b ≠ a ∧ Reach ps b a ∧ Reach ps a b
theorem Cl.knot (C : Cl ps n B) : (List.range n).any (knotB n (vB ps n)) = true ↔ Knot ps n := by
  rw [List.any_eq_true]
  constructor
  · rintro ⟨a, ha, h⟩
    have ha' := List.mem_range.mp ha
    obtain ⟨b, hb, hv⟩ := List.any_eq_true.mp h
    obtain ⟨hb1, hb2⟩ := List.mem_filter.mp hb
    obtain ⟨hb3, hb4⟩ := List.mem_filter.mp hb1
    rw [vB_iff C.hp] at hv hb4
    exact ⟨a, b, ha', List.mem_range.mp hb3, (fun e => by rw [decide_eq_true e] at hb2; cases hb2), hb4, hv⟩
  · rintro ⟨a, b, ha, hb, ne, r1, r2⟩
    refine ⟨a, List.mem_range.mpr ha, List.any_eq_true.mpr ⟨b, List.mem_filter.mpr ⟨List.mem_filter.mpr ⟨List.mem_range.mpr hb, (vB_iff C.hp b a).mpr r1⟩, ?_⟩, (vB_iff C.hp a b).mpr r2⟩⟩
    rw [decide_eq_false ne]
    rfl
theorem ring_knot {w : List Nat} (R : RingW ps n w) : Knot ps n := by
  have two := R.two
  have lt : ∀ i, i < w.length → w.getD i 0 < n := fun i hi => by
    rw [List.getD_eq_getElem?_getD, List.getElem?_eq_getElem hi]
    exact R.lt _ (List.getElem_mem _)
  have ne : w.getD 1 0 ≠ w.getD 0 0 := fun e => by
    rw [List.getD_eq_getElem?_getD, List.getD_eq_getElem?_getD, List.getElem?_eq_getElem (show 1 < w.length by omega), List.getElem?_eq_getElem (show 0 < w.length by omega)] at e
    have e' : w[1] = w[0] := e
    exact List.pairwise_iff_getElem.mp R.nd 0 1 _ _ (by omega) e'.symm
  have go : ∀ k, 1 + k < w.length → Reach ps (w.getD 1 0) (w.getD (1 + k) 0) := fun k => by
    induction k with
    | zero => exact fun _ => .refl _
    | succ k ih => exact fun h => .step (ih (by omega)) (R.ch (1 + k) (by omega))
  refine ⟨w.getD 0 0, w.getD 1 0, lt 0 (by omega), lt 1 (by omega), ne, ?_, .step (.refl _) (R.ch 0 (by omega))⟩
  have e := go (w.length - 2) (by omega)
  rw [show 1 + (w.length - 2) = w.length - 1 by omega] at e
  exact .step e R.back
theorem noback (h : ∀ s, s < n → NoBack ps s) : ¬ Knot ps n := by
  rintro ⟨a, b, ha, hb, ne, r1, r2⟩
  obtain ⟨R, hs, hR⟩ := h a ha
  have fwd : ∀ {y}, Reach ps a y → y ∈ R := fun r => by
    induction r with
    | refl => exact hs
    | @step l z _ hm ih =>
      by_cases e : l = z
      · exact e ▸ ih
      · exact (hR l ih z hm e).1
  have bR := fwd r2
  have back : ∀ {y}, Reach ps b y → y ∈ R ∧ y ≠ a := fun r => by
    induction r with
    | refl => exact ⟨bR, ne⟩
    | @step l z _ hm ih =>
      by_cases e : l = z
      · exact e ▸ ih
      · exact hR l ih.1 z hm e
  exact (back r1).2 rfl
/-! ### which data are orders -/
theorem asc_pair : ∀ {l : List Int}, ascI l = true ↔ l.Pairwise (· < ·)
  | [] => ⟨fun _ => .nil, fun _ => rfl⟩
  | [a] => ⟨fun _ => .cons (fun _ h => absurd h List.not_mem_nil) .nil, fun _ => rfl⟩
  | a :: b :: r => by
    show (decide (a < b) && ascI (b :: r)) = true ↔ _
    rw [Bool.and_eq_true, decide_eq_true_iff, asc_pair]
    constructor
    · rintro ⟨h1, h2⟩
      refine .cons (fun c hc => ?_) h2
      rcases List.mem_cons.mp hc with rfl | hc
      · exact h1
      · cases h2 with
        | cons g1 g2 => have := g1 c hc; omega
    · rintro (_ | ⟨h1, h2⟩)
      exact ⟨h1 b List.mem_cons_self, h2⟩
theorem ints_of_nats {l : List Nat} : (l.map natD).map intOf = l.map Int.ofNat := by
  rw [List.map_map]
  rfl
theorem levs_nats {l : List Nat} : (l.map natD).all (isLev (n : Nat)) = decide (∀ x ∈ l, x < n) := by
  rw [Bool.eq_iff_iff, decide_eq_true_iff, List.all_eq_true]
  constructor
  · intro h x hx
    have := h (natD x) (List.mem_map.mpr ⟨x, hx, rfl⟩)
    have h2 : (decide (0 ≤ (x : Int)) && decide ((x : Int) < (n : Int))) = true := this
    rw [Bool.and_eq_true, decide_eq_true_iff, decide_eq_true_iff] at h2
    omega
  · intro h d hd
    obtain ⟨x, hx, rfl⟩ := List.mem_map.mp hd
    show (decide (0 ≤ (x : Int)) && decide ((x : Int) < (n : Int))) = true
    have := h x hx
    rw [Bool.and_eq_true, decide_eq_true_iff, decide_eq_true_iff]
    omega
theorem lot_ok {l : List Nat} : isLotD (n : Nat) (natsT l) = true ↔ (∀ x ∈ l, x < n) ∧ l.Pairwise (· < ·) := by
  show ((l.map natD).all (isLev (n : Nat)) && ascI ((l.map natD).map intOf)) = true ↔ _
  rw [Bool.and_eq_true, levs_nats, ints_of_nats, asc_pair, decide_eq_true_iff, List.pairwise_map]
  exact ⟨fun ⟨a, b⟩ => ⟨a, b.imp fun {x y} h => by have h' : (x : Int) < (y : Int) := h; omega⟩, fun ⟨a, b⟩ => ⟨a, b.imp fun {x y} h => by show (x : Int) < (y : Int); omega⟩⟩
theorem natsOf_T {l : List Nat} : natsOf (natsT l) = l := by
  show ((l.map natD).map fun d => (intOf d).toNat) = l
  rw [List.map_map]
  exact (List.map_congr_left fun x _ => by show ((x : Int)).toNat = x; omega).trans (List.map_id' l)
theorem ord_lev {O : List (List Nat)} {lv : Nat} : levR O lv = true ↔ lv ∈ O.getD lv [] ∧ ∀ low ∈ O.getD lv [], (low = lv ∨ lv ∉ O.getD low []) ∧ ∀ x ∈ O.getD low [], x ∈ O.getD lv [] := by
  unfold levR
  rw [Bool.and_eq_true, decide_eq_true_iff, List.all_eq_true]
  refine and_congr_right fun _ => forall_congr' fun low => forall_congr' fun _ => ?_
  unfold okL
  rw [Bool.and_eq_true, Bool.or_eq_true, decide_eq_true_iff, Bool.not_eq_true', decide_eq_false_iff_not, List.all_eq_true]
  exact and_congr_right fun _ => forall_congr' fun x => forall_congr' fun _ => decide_eq_true_iff
theorem isOrd_B (C : Cl ps n B) (b : Bool) (h : b = true ↔ ¬ Knot ps n) : isOrdD (ordD B) = b := by
  rw [Bool.eq_iff_iff, h]
  have n1 := C.n1
  have n2 := C.n2
  have len : (B.map natsT).length = n := by rw [List.length_map, C.len]
  show (decide (1 ≤ ((B.map natsT).length : Int)) && decide (((B.map natsT).length : Int) ≤ 12) && (B.map natsT).all (isLotD ((B.map natsT).length : Nat)) && (List.range (B.map natsT).length).all (levR ((B.map natsT).map natsOf))) = true ↔ _
  have e1 : (B.map natsT).map natsOf = B := by
    rw [List.map_map]
    exact (List.map_congr_left fun x _ => natsOf_T).trans (List.map_id' B)
  have e2 : (B.map natsT).all (isLotD (n : Nat)) = true := List.all_eq_true.mpr fun d hd => by
    obtain ⟨l, hl, rfl⟩ := List.mem_map.mp hd
    obtain ⟨i, hi, e⟩ := List.mem_iff_getElem.mp hl
    have hi' : i < n := by rw [← C.len]; exact hi
    have e' : B.getD i [] = l := by rw [List.getD_eq_getElem?_getD, List.getElem?_eq_getElem hi]; exact e
    exact lot_ok.mpr (e' ▸ ⟨C.lt i hi', C.asc i hi'⟩)
  rw [len, e1, e2, decide_eq_true (show 1 ≤ (n : Int) by omega), decide_eq_true (show (n : Int) ≤ 12 by omega), Bool.true_and, Bool.true_and, Bool.true_and, List.all_eq_true]
  constructor
  · rintro h ⟨a, b, ha, hb, ne, r1, r2⟩
    have := ((ord_lev.mp (h a (List.mem_range.mpr ha))).2 b ((C.mem a ha b hb).mpr r1)).1
    rcases this with e | z
    · exact ne e
    · exact z ((C.mem b hb a ha).mpr r2)
  · intro h lv hlv
    have hl := List.mem_range.mp hlv
    refine ord_lev.mpr ⟨C.own hl, fun low hlow => ⟨?_, fun x hx => ?_⟩⟩
    · have ll := C.lt lv hl low hlow
      by_cases e : low = lv
      · exact .inl e
      · exact .inr fun z => h ⟨lv, low, hl, ll, e, (C.mem lv hl low ll).mp hlow, (C.mem low ll lv hl).mp z⟩
    · have ll := C.lt lv hl low hlow
      have lx := C.lt low ll x hx
      exact (C.mem lv hl x lx).mpr (((C.mem low ll x lx).mp hx).trans ((C.mem lv hl low ll).mp hlow))
/-- a lot that is no lot, a level that is not its own -/
theorem bad_lot {bs : List PyData} (h : ∃ b ∈ bs, isLotD (bs.length : Nat) b = false) : isOrdD (.tuple bs) = false := by
  obtain ⟨b, hb, e⟩ := h
  have : bs.all (isLotD (bs.length : Nat)) = false := by
    cases q : bs.all (isLotD (bs.length : Nat)) with
    | false => rfl
    | true => rw [List.all_eq_true.mp q b hb] at e; cases e
  show (decide (1 ≤ (bs.length : Int)) && decide ((bs.length : Int) ≤ 12) && bs.all (isLotD (bs.length : Nat)) && (List.range bs.length).all (levR (bs.map natsOf))) = false
  rw [this, Bool.and_false, Bool.false_and]
theorem bad_own {O : List (List Nat)} {i : Nat} (hi : i < O.length) (h : i ∉ O.getD i []) : isOrdD (ordD O) = false := by
  have e1 : (O.map natsT).map natsOf = O := by
    rw [List.map_map]
    exact (List.map_congr_left fun x _ => natsOf_T).trans (List.map_id' O)
  have : (List.range (O.map natsT).length).all (levR ((O.map natsT).map natsOf)) = false := by
    cases q : (List.range (O.map natsT).length).all (levR ((O.map natsT).map natsOf)) with
    | false => rfl
    | true =>
      have z := List.all_eq_true.mp q i (List.mem_range.mpr (by rw [List.length_map]; exact hi))
      rw [e1] at z
      exact absurd (ord_lev.mp z).1 h
  show (decide (1 ≤ ((O.map natsT).length : Int)) && decide (((O.map natsT).length : Int) ≤ 12) && (O.map natsT).all (isLotD ((O.map natsT).length : Nat)) && (List.range (O.map natsT).length).all (levR ((O.map natsT).map natsOf))) = false
  rw [this, Bool.and_false]
/-- the lot at one place turned: each way in which the law spoils it -/
theorem turned_no {l : List Nat} {x : Nat} (hx : l.head? = some x) : isLotD (n : Nat) (natsT (l.reverse ++ [x])) = false := by
  cases q : isLotD (n : Nat) (natsT (l.reverse ++ [x])) with
  | false => rfl
  | true =>
    have h := (lot_ok.mp q).2
    cases l with
    | nil => cases hx
    | cons a r =>
      have mx : x ∈ a :: r := by cases hx; exact List.mem_cons_self
      have := (List.pairwise_append.mp h).2.2 x (List.mem_reverse.mpr mx) x (List.mem_singleton.mpr rfl)
      omega
theorem above_no {l : List Nat} : isLotD (n : Nat) (natsT (l ++ [n])) = false := by
  cases q : isLotD (n : Nat) (natsT (l ++ [n])) with
  | false => rfl
  | true =>
    have := (lot_ok.mp q).1 n (List.mem_append_right _ (List.mem_singleton.mpr rfl))
    omega
theorem truth_no {ds : List PyData} {i : Int} {b : Bool} : isLotD i (.tuple (ds ++ [.bool b])) = false := by
  show ((ds ++ [PyData.bool b]).all (isLev i) && _) = false
  rw [List.all_append]
  show ((ds.all (isLev i) && (false && true)) && _) = false
  rw [Bool.false_and, Bool.and_false, Bool.false_and]
end
end K01
end

section
set_option maxHeartbeats 4000000
namespace K01
open PySem PySem.Spec PyProof.Rows L2 Zc Zd
local macro_rules | `(tactic| walk_at "w") => `(tactic| simp only [wRetN, wSeq, wNext, wBreak, wCont, wVar, e_c_int, e_c_str, e_c_bl, e_c_non, e_c_ty, e_c_ref, wCD, wNil, e_ty_s, e_ty_n, e_ty_d, e_ty_l, w2I, e_is_n, e_is_b, e_is_l, e_is_w, e_fInt, e_fAdd_i, e_fAdd_s, e_fAdd_l, e_fAdd_t, e_fMul_i, e_fMul_l, e_fMul_t, e_fCmp, e_fEq_i, e_fEq_s, e_fEq_b, e_fEq_l, e_fEq_t, e_fIx_l, e_fIx_t, e_fIx_s, e_fLen_l, e_fLen_t, e_fLen_s, e_fTup_l, e_fTup_t, e_fLst_l, e_fLst_t, e_fIntO_i, e_fIntO_b, e_fAbs, e_fStr, e_fBool_i, e_fBool_b, e_fSum, e_fSort, e_fSortT, wSortSetT, Zd.kSst, q_kSst2, wSortSetL, Zd.kSsl, q_kSsl2, q_callK, q_told, e_hears, e_tru_n, e_tru_b, e_tru_i, e_tru_s, e_tru_l, e_tru_t, e_asB, e_asI, wNoPart, e_fSl_l, e_fSl_t, e_fSl_s, e_pop, e_popAt, e_ext, e_name_a, e_name_n, e_nameF_a, e_nameF_n, e_nm_t, e_nm_f, e_gnil, e_gtup, e_items_l, e_items_t, e_items_s, e_own_a, e_own_n, wDNew, e_asA, e_asKey_i, e_asKey_s, e_asDc, e_asD_d, e_asD_n, e_asD_l, e_asDs_0, e_vwD_d, e_vwD_n, e_vwD_l, e_coA_0, dealP,  nl, onlyAt, isDeal, WDof, e_fin_d, e_fin_v, e_fin_n, e_fin_l, ent, SS.frz, sub, subC, unAll, q_asg, q_drop, q_ret, q_ifS, q_aug, q_par, q_kPar, q_for, q_raise, q_cons, q_star, q_kStar_l, q_kStar_t, q_as, q_dats, q_co_d, q_co_v, q_co_n, q_co_l, q_tup, q_lst, q_op, q_cb, q_bm, q_bm0, q_w2, q_w1, q_isi_int, q_isi_bool, q_isi_tuple, q_isi_list, q_isi_str, q_isLT, q_test, q_tru, q_and, q_or, q_not, q_andV, q_orV, q_notV, q_if, q_part, q_sl, q_revT, q_kRevT, q_revL, q_kRevL, q_un, q_lstRg1, q_lstRg2, q_chain, q_kChain, q_app, q_gcons, q_gsub, q_setL, q_setD, q_seqI, q_rng1, q_kRng1, q_rng2, q_kRng2, q_enum, q_kEnum, q_kEnum2, q_zip, q_kZip, q_lc, q_lcA, q_gen, q_callP, q_callD, q_kDeal2, q_ixA, q_kIxA1, q_dIn, q_dGet, q_disp1, q_any, q_of, Int.toNat_natCast, Zd.kAsg, Zd.kDrop, Zd.kRet, Zd.kIfS, Zd.kAug2, Zd.kAug, Zd.kPar2, Zd.kFor, Zd.kRaise, Zd.kRaise1, Zd.kCons2, Zd.kCons, Zd.kStar2, Zd.kStar, Zd.kAs2, Zd.kAs, Zd.kDats, Zd.kCo, Zd.kTup2, Zd.kTup, Zd.kLst2, Zd.kLst, Zd.kOp2, Zd.kOp, Zd.kCB, Zd.kBM2, Zd.kBM, Zd.kBM0, Zd.kR, Zd.k22, Zd.k21, Zd.k1, Zd.kIsi, Zd.kIsLT, Zd.kB, Zd.kTest, Zd.kTru2, Zd.kTru, Zd.kAnd, Zd.kOr, Zd.kNot, Zd.kAndV2, Zd.kAndV, Zd.kOrV2, Zd.kOrV, Zd.kNotV2, Zd.kNotV, Zd.kIf, Zd.kPart2, Zd.kPart, Zd.kSl3, Zd.kSl2, Zd.kSl1, Zd.kSl, Zd.kRevT, Zd.kRevL, Zd.kUn2, Zd.kUn, Zd.kLr2, Zd.kLr, Zd.kLs4, Zd.kLs3, Zd.kLs2, Zd.kLs, Zd.kChain4, Zd.kChain3, Zd.kChain2, Zd.kChain, Zd.kApp, Zd.kgCons, Zd.kgSub2, Zd.kgSub, Zd.kSetL, Zd.kSetD3, Zd.kSetD2, Zd.kSetD, Zd.kSeq3, Zd.kSeq2, Zd.kSeq1, Zd.kLc, Zd.kLcA, Zd.kGen, Zd.kCall3, Zd.kCall2, Zd.kCall1, Zd.kCallK1, Zd.kCallK2, Zd.kTold1, Zd.kTold2, Zd.kDeal1, Zd.kIxA2, Zd.kIxA, Zd.kDIn3, Zd.kDIn2, Zd.kDIn1, Zd.kDIn, Zd.kDGet3, Zd.kDGet2, Zd.kDGet1, Zd.kDGet, Zd.kDisp4, Zd.kDisp3, Zd.kDisp2, Zd.kDisp1, Zd.kTurn, Zd.kElt, Zd.kCond, Zd.kItem, Zd.kGo, Zd.kGenE, Zd.kZip, isTupD, isLstD, isIntD, isBoolD, isStrD,
  List.getElem?_cons_zero, List.getElem?_cons_succ, List.getElem?_nil, List.set_cons_zero, List.set_cons_succ, List.set_nil, List.length_cons, List.length_nil, List.cons_append, List.nil_append, List.replicate_succ, List.replicate_zero, List.map_cons, List.map_nil, List.reverse_cons, List.reverse_nil, List.all_cons, List.all_nil, List.take_zero, List.take_succ_cons, List.take_nil, Nat.reduceAdd, Nat.reduceSub, Nat.reduceMul, Nat.reduceLeDiff, Nat.reduceLT, Nat.zero_le, Nat.le_refl, Bool.and_true, Bool.true_and, Bool.and_self, Bool.not_true, Bool.not_false, Bool.false_eq_true, Bool.true_eq_false, Bool.or_true, Bool.or_false, Bool.true_or, Bool.false_or, Bool.and_false, Bool.false_and, reduceIte, reduceCtorEq, if_true, if_false, true_and, and_true, and_self, true_or, or_true, false_or, or_false, false_and, and_false, exists_eq_left', exists_eq_left, exists_eq, Nat.add_zero, Nat.zero_add, List.append_nil, not_false_eq_true, not_true_eq_false, String.reduceEq, forall_const])
section
variable {P : Program} {w : World} {K : PySem.W.Frag} {mg : Str → Option Value} {base : Heap}
def lw16 (C : Cn K mg base) : WS := (wSeq (wAsg (wLst (wCons (wTold C.p_law (Str.ofString "law.<locals>.<lambda>") C.C_InvalidOrder 2 (orderOfP C.C_InvalidOrder) false (wCons (wVar 12) (wCons (wC V.non) wNil))) wNil)) (wName 8)) (wSeq (wDrop (wBM "list" wAppend (wVar 8) (wCons (wTold C.p_law (Str.ofString "law.<locals>.<lambda>") C.C_InvalidOrder 2 (orderOfP C.C_InvalidOrder) false (wCons (wVar 2) (wCons (wVar 13) wNil))) wNil))) (wSeq (wDrop (wBM "list" wAppend (wVar 8) (wCons (wTold C.p_law (Str.ofString "law.<locals>.<lambda>") C.C_InvalidOrder 2 (ringOfP C.C_InvalidOrder) false (wCons (wVar 12) (wCons (wC V.non) wNil))) wNil))) (wSeq (wDrop (wBM "list" wAppend (wVar 8) (wCons (wTold C.p_law (Str.ofString "law.<locals>.<lambda>") C.C_InvalidOrder 2 (ringOfP C.C_InvalidOrder) false (wCons (wVar 2) (wCons (wVar 13) wNil))) wNil))) (wRet (wOp (w2 (fEq false)) (wVar 8) (wLst (wCons (wLst (wCons (wC (V.int 0)) wNil)) (wCons (wLst (wCons (wC (V.int 1)) wNil)) (wCons (wLst (wCons (wC (V.int 0)) wNil)) (wCons (wLst (wCons (wC (V.int 1)) wNil)) wNil)))))))))))
def lw14 (C : Cn K mg base) : WS := (wGhost (wSeq (wAsg (wCallD (fun x => False) 2 ofP (wCons (wVar 1) (wCons (wLst (wCons (wC (V.int 0)) (wCons (wUn (fun i => -i) (wC (V.int 1))) (wCons (wC (V.int 13)) (wCons (wC (V.bl true)) (wCons (wC V.non) (wCons (wC (V.str (Str.ofString "2"))) (wCons (wTup (wCons (wC (V.int 2)) wNil)) wNil)))))))) wNil))) (wNameF 12)) (wSeq (wAsg (wCallD (fun x => False) 2 ofP (wCons (wVar 1) (wCons (wLst (wCons (wC V.non) (wCons (wC (V.int 7)) (wCons (wC (V.str (Str.ofString "01"))) (wCons (wLst (wCons (wTup (wCons (wC (V.int 0)) (wCons (wVar 2) wNil))) wNil)) (wCons (wLst (wCons (wTup (wCons (wC (V.int 0)) wNil)) wNil)) (wCons (wLst (wCons (wLst (wCons (wC (V.int 0)) (wCons (wC (V.int 0)) wNil))) wNil)) (wCons (wLst (wCons (wTup (wCons (wC (V.int 0)) (wCons (wC (V.bl true)) wNil))) wNil)) (wCons (wLst (wCons (wC V.non) wNil)) (wCons (wLst (wCons (wTup (wCons (wC (V.int 0)) (wCons (wC (V.int 0)) (wCons (wC (V.int 0)) wNil)))) wNil)) (wCons wDNew wNil))))))))))) wNil))) (wNameF 13)) (lw16 C))))
def lw13 (C : Cn K mg base) : WS := (wSeq (wIfS (wOr (wTest (wOp (w2 (fEq true)) (wCB (w1 fRepr) (wCons (wCallP (fun x => False) 1 orderP (wCons (wVar 4) wNil)) wNil)) (wCB (w1 fRepr) (wCons (wOp (w2 (fEq false)) (wVar 5) (wLst wNil)) wNil)))) (wTest (wOp (wIs true) (wCallP (fun x => False) 1 orderP (wCons (wTup (wCons (wTup (wCons (wC (V.int 0)) wNil)) (wCons (wTup (wCons (wC (V.int 0)) (wCons (wC (V.int 1)) wNil))) (wCons (wTup (wCons (wC (V.int 1)) (wCons (wC (V.int 2)) wNil))) wNil)))) wNil)) (wC (V.bl false))))) (wRet (wC (V.bl false))) wNext) (lw14 C))
def lw12 (C : Cn K mg base) : WS := (wSeq (wIfS (wOr (wTest (wOp (wIs true) (wCallP (fun x => False) 1 orderP (wCons (wCB (w1 fTupOf) (wCons (wLc (wSeqI (wVar 10)) (wName 15) (fun S k => k true S) (wCB (w1 fTupOf) (wCons (wVar 15) wNil)) [15]) wNil)) wNil)) (wC (V.bl false)))) (wTest (wOp (wIs true) (wCallP (fun x => False) 1 orderP (wCons (wCallD (fun x => False) 2 ofP (wCons (wVar 1) (wCons (wLst (wCons (wCB (w1 fListOf) (wCons (wVar 4) wNil)) (wCons (wC V.non) (wCons (wTup wNil) (wCons (wC (V.int 7)) (wCons (wTup (wCons (wTup (wCons (wC (V.int 0)) wNil)) (wCons (wLst (wCons (wC (V.int 1)) wNil)) wNil))) (wCons (wTup (wCons (wTup (wCons (wC (V.bl true)) wNil)) wNil)) wNil))))))) wNil))) wNil)) (wC (V.bl false))))) (wRet (wC (V.bl false))) wNext) (lw13 C))
def lw9 (C : Cn K mg base) : WS := (wGhost (wSeq (wAsg (wLc (wSeqI (wVar 4)) (wName 15) (fun S k => k true S) (wCB (w1 fListOf) (wCons (wVar 15) wNil)) [15]) (wName 10)) (wSeq (wAsg (wCallD (fun x => False) 2 anyP (wCons (wVar 1) (wCons (wVar 2) wNil))) (wNameF 11)) (wSeq (wAsg (wCallD (fun x => False) 2 ofP (wCons (wVar 1) (wCons (wLst (wCons (wOp (w2 fAdd) (wRevL (wOp (w2 fIx) (wVar 10) (wVar 11))) (wSl (wOp (w2 fIx) (wVar 10) (wVar 11)) wNoPart (wPart (wC (V.int 1))))) (wCons (wOp (w2 fAdd) (wOp (w2 fIx) (wVar 10) (wVar 11)) (wLst (wCons (wVar 2) wNil))) (wCons (wLc (wSeqI (wOp (w2 fIx) (wVar 10) (wVar 11))) (wName 16) (wTest (wOp (w2 (fEq true)) (wVar 16) (wVar 11))) (wVar 16) [16]) (wCons (wOp (w2 fAdd) (wOp (w2 fIx) (wVar 10) (wVar 11)) (wLst (wCons (wC (V.bl true)) wNil))) wNil))))) wNil))) (wgSub (wVar 10) (wVar 11) wSetL)) (lw12 C)))))
def lw8 (C : Cn K mg base) : WS := (wSeq (wIfS (wTest (wOp (w2 (fEq false)) (wVar 5) (wLst wNil))) (wIfS (wOr (wTest (wOp (w2 (fEq true)) (wCB (w1 fRepr) (wCons (wVar 8) wNil)) (wCB (w1 fRepr) (wCons (wVar 4) wNil)))) (wOr (wTest (wOp (wIs true) (wVar 9) (wC V.non))) (wTest (wOp (wIs true) (wCallK (fun x => False) 1 orderP (wCons (wVar 8) wNil)) (wC (V.bl true)))))) (wRet (wC (V.bl false))) wNext) (wIfS (wOr (wTest (wOp (w2 (fEq true)) (wVar 8) (wLst (wCons (wC (V.int 2)) wNil)))) (Zd.wNot (Zd.wTru (wCallP (fun x => False) 2 isRingP (wCons (wVar 3) (wCons (wVar 9) wNil)))))) (wRet (wC (V.bl false))) wNext)) (lw9 C))
def lw7 (C : Cn K mg base) : WS := (wSeq (wAsg (wTold C.p_law (Str.ofString "law.<locals>.<lambda>") C.C_InvalidOrder 2 (ringOfP C.C_InvalidOrder) true (wCons (wVar 7) (wCons (wVar 2) wNil))) (wNameF 9)) (lw8 C))
def lw6 (C : Cn K mg base) : WS := (wSeq (wAsg (wTold C.p_law (Str.ofString "law.<locals>.<lambda>") C.C_InvalidOrder 2 (orderOfP C.C_InvalidOrder) true (wCons (wVar 7) (wCons (wVar 2) wNil))) (wName 8)) (lw7 C))
def lw5 (C : Cn K mg base) : WS := (wSeq (wAsg (wIf (wTest (wOp (w2 (fEq false)) (wCallD (fun x => False) 2 anyP (wCons (wVar 1) (wCons (wC (V.int 2)) wNil))) (wC (V.int 0)))) (wVar 3) (wCB (w1 fTupOf) (wCons (wVar 3) wNil))) (wNameF 7)) (lw6 C))
def lw0 (C : Cn K mg base) : WS := (wSeq (wAsg (wCallD (fun x => False) 2 ofP (wCons (wVar 1) (wCons (wLst (wCons (wC (V.int 1)) (wCons (wC (V.int 2)) (wCons (wC (V.int 3)) (wCons (wC (V.int 4)) (wCons (wC (V.int 4)) (wCons (wC (V.int 5)) (wCons (wC (V.int 6)) (wCons (wC (V.int 12)) wNil))))))))) wNil))) (wNameF 2)) (wSeq (wAsg (wCallD (fun x => False) 2 pairsP (wCons (wVar 1) (wCons (wVar 2) wNil))) (wNameF 3)) (wSeq (wAsg (wCallP (fun x => False) 2 closedP (wCons (wVar 2) (wCons (wVar 3) wNil))) (wNameF 4)) (wSeq (wAsg (wLst wNil) (wNameF 5)) (wSeq (wFor (wRng1 (wCons (wVar 2) wNil)) (wName 6) (wAsg (wOp (w2 fAdd) (wVar 5) (wLc (wSeqI (wOp (w2 fIx) (wVar 4) (wVar 6))) (wName 14) (wAnd (wTest (wOp (w2 (fEq true)) (wVar 14) (wVar 6))) (wTest (wOp (w2 (fIn false)) (wVar 6) (wOp (w2 fIx) (wVar 4) (wVar 14))))) (wTup (wCons (wVar 6) (wCons (wVar 14) wNil))) [14])) (wNameF 5))) (lw5 C))))))
abbrev lamN : Str := "law.<locals>.<lambda>"
abbrev M0 (C : Cn K mg base) : List CD := [.deal 1, .held, .tab C.p_law lamN]
theorem natD_inj {a b : Nat} (h : natD a = natD b) : a = b := Int.ofNat.inj (PyData.int.inj h)
theorem twoD_inj {p q : Nat × Nat} (h : twoD p = twoD q) : p = q := by
  have h' := PyData.tuple.inj h
  have h1 := List.cons.inj h'
  have h2 := List.cons.inj h1.2
  exact Prod.ext (natD_inj h1.1) (natD_inj h2.1)
theorem twos_inj : ∀ {ps qs : List (Nat × Nat)}, ps.map twoD = qs.map twoD → ps = qs
  | [], [], _ => rfl
  | [], _ :: _, h => by cases h
  | _ :: _, [], h => by cases h
  | p :: ps, q :: qs, h => by
    have h1 := List.cons.inj h
    rw [twoD_inj h1.1, twos_inj h1.2]
theorem given_eq {n L : Nat} {e : PyData} {ps qs : List (Nat × Nat)} (he : seqD e (ps.map twoD)) (G : Given (natD n) e L qs) : L = n ∧ qs = ps := by
  refine ⟨(natD_inj G.d).symm, ?_⟩
  rcases he with rfl | rfl <;> rcases G.e with h | h
  · exact (twos_inj (PyData.list.inj h)).symm
  · cases h
  · cases h
  · exact (twos_inj (PyData.tuple.inj h)).symm
theorem given_ok {n : Nat} {e : PyData} {ps : List (Nat × Nat)} (n1 : 1 ≤ n) (n2 : n ≤ 12) (he : seqD e (ps.map twoD)) (hp : ∀ p ∈ ps, p.1 < n ∧ p.2 < n) : manyOk (natD n) = true ∧ pairsOk (intOf (natD n)) e = true := by
  constructor
  · show (decide (1 ≤ (n : Int)) && decide ((n : Int) ≤ 12)) = true
    rw [decide_eq_true (by omega), decide_eq_true (by omega)]
    rfl
  · have : (ps.map twoD).all (pairOk (n : Nat)) = true := List.all_eq_true.mpr fun d hd => by
      obtain ⟨p, hp', rfl⟩ := List.mem_map.mp hd
      have := hp p hp'
      show (decide ((2 : Int) = 2) && ((decide (0 ≤ (p.1 : Int)) && decide ((p.1 : Int) < (n : Int))) && ((decide (0 ≤ (p.2 : Int)) && decide ((p.2 : Int) < (n : Int))) && true))) = true
      rw [decide_eq_true (show 0 ≤ (p.1 : Int) by omega), decide_eq_true (show (p.1 : Int) < n by omega), decide_eq_true (show 0 ≤ (p.2 : Int) by omega), decide_eq_true (show (p.2 : Int) < n by omega)]
      rfl
    rcases he with rfl | rfl
    · exact this
    · exact this
section
variable {ps : List (Nat × Nat)} {n : Nat} {B : List (List Nat)} {ks : List (Nat × Nat)} {e : PyData} {a b : AD}
theorem bulk_le {k : Nat} : ∀ {ds : List PyData}, (∀ d ∈ ds, bulk d ≤ k) → bulkAll ds ≤ (k + 2) * ds.length
  | [], _ => Nat.zero_le _
  | d :: ds, h => by
    have h1 := h d List.mem_cons_self
    have h2 := bulk_le (ds := ds) fun x hx => h x (List.mem_cons_of_mem _ hx)
    show bulk d + 2 + bulkAll ds ≤ (k + 2) * (ds.length + 1)
    rw [Nat.mul_succ]
    omega
theorem reprOk_ord (X : Cl ps n B) : reprOk (ordD B) := by
  have n2 := X.n2
  have lot : ∀ l ∈ B, (∀ x ∈ l, x < n) ∧ l.length ≤ n := fun l hl => by
    obtain ⟨i, hi, e⟩ := List.mem_iff_getElem.mp hl
    have hi' : i < n := by rw [← X.len]; exact hi
    have e' : B.getD i [] = l := by rw [List.getD_eq_getElem?_getD, List.getElem?_eq_getElem hi]; exact e
    exact e' ▸ ⟨X.lt i hi', asc_len (X.asc i hi') (X.lt i hi')⟩
  refine ⟨rfl, plain_ordD fun l hl x hx => by have := (lot l hl).1 x hx; omega, Nat.lt_of_le_of_lt depth_ordD (by decide), ?_⟩
  have h : ∀ d ∈ B.map natsT, bulk d ≤ 1000 := fun d hd => by
    obtain ⟨l, hl, rfl⟩ := List.mem_map.mp hd
    have := (lot l hl).2
    show bulkAll (l.map natD) + 3 ≤ 1000
    rw [show bulkAll (l.map natD) = 68 * l.length from bulk_intsG _ _]
    omega
  have := bulk_le h
  rw [List.length_map, X.len] at this
  show bulkAll (B.map natsT) + 3 ≤ 10000000
  omega
theorem ord_len (X : Cl ps n B) : ∀ bs, ordD B = .tuple bs → ∀ b ∈ bs, ∀ ds, b = .tuple ds → ds.length ≤ 1000000 := by
  have n2 := X.n2
  rintro bs h b hb ds rfl
  cases PyData.tuple.inj h
  obtain ⟨l, hl, e⟩ := List.mem_map.mp hb
  obtain ⟨i, hi, e1⟩ := List.mem_iff_getElem.mp hl
  have hi' : i < n := by rw [← X.len]; exact hi
  have e' : B.getD i [] = l := by rw [List.getD_eq_getElem?_getD, List.getElem?_eq_getElem hi]; exact e1
  have := asc_len (X.asc i hi') (X.lt i hi')
  rw [e'] at this
  cases PyData.tuple.inj e
  rw [List.length_map]
  omega
theorem eqOk_twos (X : Cl ps n B) (hks : ∀ q ∈ ks, q.1 < n ∧ q.2 < n) : eqOk (.list (ks.map twoD)) (.list []) := by
  have n2 := X.n2
  refine ⟨plainAll_of fun d hd => ?_, rfl, Nat.le_trans (depth_lst (n := 2) fun d hd => ?_) (by decide), by simp [PyData.depth, PyData.depthAll]⟩
  · obtain ⟨q, hq, rfl⟩ := List.mem_map.mp hd
    have := hks q hq
    exact plain_two (by omega) (by omega)
  · obtain ⟨q, hq, rfl⟩ := List.mem_map.mp hd
    exact depth_two
theorem items_ord {kx : List PyData → Prop} : itemsD (ordD B) kx = kx (B.map natsT) := rfl
theorem eqv_empty : PyData.eqvAll (ks.map twoD) [] = decide (ks = []) := by cases ks <;> rfl
/-- no lot too long -/
def lotLen : PyData → Bool
  | .tuple bs => bs.all fun b => match b with
    | .tuple ds => decide (ds.length ≤ 1000000)
    | _ => true
  | _ => true
theorem lot_len {d : PyData} (h : lotLen d = true) : ∀ bs, d = .tuple bs → ∀ b ∈ bs, ∀ ds, b = .tuple ds → ds.length ≤ 1000000 := by
  rintro bs rfl b hb ds rfl
  exact of_decide_eq_true (List.all_eq_true.mp h _ hb)
theorem e_asD_dc {S : SS} {k : PyData → SS → Prop} : asD (.new (.dcK [])) S k = k (.dict []) S := rfl
theorem e_fRepr_b {b : Bool} {k : RD → Prop} : fRepr (.bool b) k = k (.ad (.dat (.str (blS b)))) := rfl
theorem law_go16 (C : Cn K mg base) (n1 : 1 ≤ n) (n2 : n ≤ 12) {bad odd : PyData} (hb : manyOk bad = false) (ho : pairsOk (n : Nat) odd = false) :
    lw16 C (lawW 3) ⟨[.un, .loc 0, .dat (natD n), .un, .un, .un, .un, .un, .un, .un, .un, .un, .dat bad, .dat odd, .un, .un, .un], M0 C⟩ := by
  have g1 : manyOk (natD n) = true := by
    show (decide (1 ≤ (n : Int)) && decide ((n : Int) ≤ 12)) = true
    rw [decide_eq_true (by omega), decide_eq_true (by omega)]
    rfl
  have no1 : ∀ L qs, ¬ Given bad .none L qs := fun L qs G => by
    have := (given_ok G.l1 G.l2 G.e G.lt).1
    rw [← G.d, hb] at this
    cases this
  have no2 : ∀ L qs, ¬ Given (natD n) odd L qs := fun L qs G => by
    have := (given_ok G.l1 G.l2 G.e G.lt).2
    rw [← G.d, show intOf (natD n) = (n : Int) from rfl, ho] at this
    cases this
  unfold lw16
  walk_at "w"
  refine ⟨⟨2, rfl⟩, bad, .none, rfl, fun _ => ?_, fun h => (by rw [hb] at h; cases h), fun L qs G => absurd G (no1 L qs)⟩
  walk_at "w"
  refine ⟨⟨2, rfl⟩, natD n, odd, rfl, fun h => (by rw [g1] at h; cases h), fun _ _ => ?_, fun L qs G => absurd G (no2 L qs)⟩
  walk_at "w"
  refine ⟨⟨2, rfl⟩, bad, .none, rfl, fun _ => ?_, fun h => (by rw [hb] at h; cases h), fun L qs G => absurd G (no1 L qs)⟩
  walk_at "w"
  refine ⟨⟨2, rfl⟩, natD n, odd, rfl, fun h => (by rw [g1] at h; cases h), fun _ _ => ?_, fun L qs G => absurd G (no2 L qs)⟩
  walk_at "w"
  obtain ⟨F, eF⟩ : ∃ F, F = [PyData.list [PyData.int 0], PyData.list [PyData.int 1], PyData.list [PyData.int 0], PyData.list [PyData.int 1]] := ⟨_, rfl⟩
  have e1 : PyData.eqvAll F F = true := by rw [eF]; decide +kernel
  have e2 : eqOk (.list F) (.list F) := by rw [eF]; exact ⟨by decide +kernel, by decide +kernel, by decide +kernel, by decide +kernel⟩
  rw [← eF, e1]
  exact ⟨e2, True.intro⟩
theorem law_go14 (C : Cn K mg base) (n1 : 1 ≤ n) (n2 : n ≤ 12) {a3 a4 a5 a7 a10 a11 : AD} {m : List CD} :
    lw14 C (lawW 3) ⟨[.un, .loc 0, .dat (natD n), a3, a4, a5, .un, a7, .un, .un, a10, a11, .un, .un, .un, .un, .un], M0 C ++ m⟩ := by
  unfold lw14
  refine ⟨⟨[.un, .loc 0, .dat (natD n), .un, .un, .un, .un, .un, .un, .un, .un, .un, .un, .un, .un, .un, .un], M0 C⟩, .trans (.un [3, 4, 5, 7, 10, 11] _) (.cut 3 _ (Nat.le_refl _) rfl), ?_⟩
  walk_at "w"
  intro bad hbad
  have hb : manyOk bad = false := by
    simp only [List.mem_cons, List.not_mem_nil, or_false] at hbad
    rcases hbad with rfl | rfl | rfl | rfl | rfl | rfl | rfl <;> rfl
  rw [e_asD_dc]
  walk_at "w"
  intro odd hodd
  have ho : pairsOk (n : Nat) odd = false := by
    simp only [List.mem_cons, List.not_mem_nil, or_false] at hodd
    rcases hodd with rfl | rfl | rfl | rfl | rfl | rfl | rfl | rfl | rfl | rfl <;> simp [pairsOk, pairOk, isLev]
  exact law_go16 C n1 n2 hb ho
theorem law_go13 (C : Cn K mg base) (X : Cl ps n B) (hk : ks = [] ↔ ¬ Knot ps n) (hks : ∀ q ∈ ks, q.1 < n ∧ q.2 < n) {d10 d11 : PyData} :
    lw13 C (lawW 3) ⟨[.un, .loc 0, .dat (natD n), .dat (.list (ps.map twoD)), .dat (ordD B), .dat (.list (ks.map twoD)), .un, .dat e, .un, .un, .dat d10, .dat d11, .un, .un, .un, .un, .un], M0 C ++ [.gone]⟩ := by
  have n1 := X.n1
  have n2 := X.n2
  unfold lw13
  walk_at "w"
  refine ⟨_, rfl, ord_len X, ?_⟩
  rw [isOrd_B X (decide (ks = [])) (by rw [decide_eq_true_iff]; exact hk)]
  walk_at "w"
  rw [e_fRepr_b]
  walk_at "w"
  refine ⟨eqOk_twos X hks, ?_⟩
  rw [eqv_empty, e_fRepr_b]
  walk_at "w"
  rw [if_neg (by decide)]
  refine ⟨_, rfl, lot_len rfl, ?_⟩
  rw [show isOrdD (PyData.tuple [PyData.tuple [PyData.int 0], PyData.tuple [PyData.int 0, PyData.int 1], PyData.tuple [PyData.int 1, PyData.int 2]]) = false from by decide +kernel]
  walk_at "w"
  exact law_go14 C n1 n2 (m := [.gone])
theorem law_go12 (C : Cn K mg base) (X : Cl ps n B) (hk : ks = [] ↔ ¬ Knot ps n) (hks : ∀ q ∈ ks, q.1 < n ∧ q.2 < n) (hkl : ks.length ≤ 12 * n) (he : seqD e (ps.map twoD)) {vs : List (List PyData)} (hv : vs.length = n) (hvl : ∀ v ∈ vs, v.length ≤ 1000) (bad : isOrdD (.tuple (vs.map .tuple)) = false) {z : Int} :
    lw12 C (lawW 3) ⟨[.un, .loc 0, .dat (natD n), .dat (.list (ps.map twoD)), .dat (ordD B), .dat (.list (ks.map twoD)), .un, .dat e, .un, .un, .loc 3, .dat (.int z), .un, .un, .un, .un, .un], M0 C ++ [.lst (vs.map .list)]⟩ := by
  have n1 := X.n1
  have n2 := X.n2
  unfold lw12
  walk_at "w"
  refine ⟨by rw [List.length_map]; omega, ?_⟩
  refine lcQ PyData.list vs rfl (fun _ => true) PyData.tuple (fun l hl N1 N0 h1 h0 => ?_) ?_
  · walk_at "w"
    exact h1 rfl
  rw [List.filter_eq_self.mpr fun _ _ => rfl]
  walk_at "w"
  refine ⟨_, rfl, fun bs hb b hb2 ds hd => ?_, ?_⟩
  · cases PyData.tuple.inj hb
    obtain ⟨v, hv2, e⟩ := List.mem_map.mp hb2
    rw [hd] at e
    rw [← PyData.tuple.inj e]
    exact Nat.le_trans (hvl v hv2) (by decide)
  rw [bad]
  walk_at "w"
  rw [if_neg (by decide)]
  simp only [ordD, e_fLst_t]
  walk_at "w"
  intro d hd
  have h : lotLen d = true ∧ isOrdD d = false := by
    simp only [List.mem_cons, List.not_mem_nil, or_false] at hd
    rcases hd with rfl | rfl | rfl | rfl | rfl | rfl
    · exact ⟨rfl, rfl⟩
    all_goals decide +kernel
  refine ⟨d, rfl, lot_len h.1, ?_⟩
  rw [h.2]
  walk_at "w"
  exact law_go13 C X hk hks
theorem law_go9 (C : Cn K mg base) (X : Cl ps n B) (hk : ks = [] ↔ ¬ Knot ps n) (hks : ∀ q ∈ ks, q.1 < n ∧ q.2 < n) (hkl : ks.length ≤ 12 * n) (he : seqD e (ps.map twoD)) {s8 s9 : AD} {m : List CD} :
    lw9 C (lawW 3) ⟨[.un, .loc 0, .dat (natD n), .dat (.list (ps.map twoD)), .dat (ordD B), .dat (.list (ks.map twoD)), a, .dat e, s8, s9, .un, .un, .un, .un, b, .un, .un], M0 C ++ m⟩ := by
  have n1 := X.n1
  have n2 := X.n2
  unfold lw9
  refine ⟨⟨[.un, .loc 0, .dat (natD n), .dat (.list (ps.map twoD)), .dat (ordD B), .dat (.list (ks.map twoD)), .un, .dat e, .un, .un, .un, .un, .un, .un, .un, .un, .un], M0 C⟩, .trans (.un [6, 8, 9, 14] _) (.cut 3 _ (Nat.le_refl _) rfl), ?_⟩
  walk_at "w"
  rw [items_ord]
  walk_at "w"
  refine ⟨by rw [List.length_map, X.len]; omega, ?_⟩
  refine lcQ natsT B rfl (fun _ => true) natsL (fun l hl N1 N0 h1 h0 => ?_) ?_
  · walk_at "w"
    simp only [natsT]
    walk_at "w"
    exact h1 rfl
  rw [List.filter_eq_self.mpr fun _ _ => rfl]
  walk_at "w"
  refine ⟨by omega, by omega, fun i hi => ?_⟩
  have hi' : i < n := by omega
  have hat : atI (B.map natsL) (i : Int) = some (PyData.list ((B.getD i []).map natD)) := at_getD (f := natsL) (z := []) (by rw [X.len]; exact hi')
  have bl := asc_len (X.asc i hi') (X.lt i hi')
  refine ⟨_, hat, ?_⟩
  walk_at "w"
  refine ⟨_, hat, ?_⟩
  walk_at "w"
  obtain ⟨x, r, er⟩ : ∃ x r, B.getD i [] = x :: r := by
    cases q : B.getD i [] with
    | nil => have := X.own hi'; rw [q] at this; exact absurd this List.not_mem_nil
    | cons x r => exact ⟨x, r, rfl⟩
  have ecut : Zd.cutD ((B.getD i []).map natD) none (some 1) = [natD x] := by
    rw [er]
    unfold Zd.cutD
    rw [HT.sIx_none, show HT.sIx (List.map natD (x :: r)).length (List.map natD (x :: r)).length (some 1) = min 1 (List.map natD (x :: r)).length from HT.sIx_nat _ _ 1]
    rw [show min 1 (List.map natD (x :: r)).length = 1 by simp]
    rfl
  rw [ecut]
  refine ⟨by rw [List.length_reverse, List.length_map]; show _ + 1 ≤ _; omega, _, hat, ?_⟩
  walk_at "w"
  refine ⟨by rw [List.length_map]; omega, _, hat, ?_⟩
  walk_at "w"
  refine ⟨by rw [List.length_map]; omega, ?_⟩
  refine lcQ natD (B.getD i []) rfl (fun y => !decide (y = i)) natD (fun y hy N1 N0 h1 h0 => ?_) ?_
  · walk_at "w"
    by_cases e : y = i
    · rw [if_neg (by rw [decide_eq_true (by rw [e])]; decide)]
      exact h0 (by rw [decide_eq_true e]; rfl)
    · rw [if_pos (by rw [decide_eq_false (by omega)]; rfl)]
      exact h1 (by rw [decide_eq_false e]; rfl)
  walk_at "w"
  refine ⟨_, hat, ?_⟩
  walk_at "w"
  refine ⟨by rw [List.length_map]; omega, ?_⟩
  have put : ∀ ds : List PyData, ds.length ≤ 1000 → isOrdD (.tuple (((B.map fun l => l.map natD).set i ds).map PyData.tuple)) = false → lw12 C (lawW 3) ⟨[.un, .loc 0, .dat (natD n), .dat (.list (ps.map twoD)), .dat (ordD B), .dat (.list (ks.map twoD)), .un, .dat e, .un, .un, .loc 3, .dat (.int i), .un, .un, .un, .un, .un], M0 C ++ [.lst ((B.map natsL).set i (.list ds))]⟩ := fun ds hl hb => by
    have e1 : (B.map natsL).set i (.list ds) = ((B.map fun l => l.map natD).set i ds).map PyData.list := by
      rw [List.map_set, List.map_map]
      rfl
    rw [e1]
    refine law_go12 C X hk hks hkl he (by rw [List.length_set, List.length_map, X.len]) (fun v hv => ?_) hb
    rcases List.mem_or_eq_of_mem_set hv with h | h
    · obtain ⟨l, hl', rfl⟩ := List.mem_map.mp h
      obtain ⟨j, hj, ej⟩ := List.mem_iff_getElem.mp hl'
      have hj' : j < n := by rw [← X.len]; exact hj
      have e' : B.getD j [] = l := by rw [List.getD_eq_getElem?_getD, List.getElem?_eq_getElem hj]; exact ej
      have := asc_len (X.asc j hj') (X.lt j hj')
      rw [e'] at this
      rw [List.length_map]
      omega
    · rw [h]
      exact hl
  have hix : L2.ixN (B.map natsL).length (i : Int) = some i := by rw [List.length_map, X.len]; exact ix_of hi'
  have hlen : ((B.map fun l => l.map natD).length) = n := by rw [List.length_map, X.len]
  have hbad : ∀ ds : List PyData, isLotD (n : Nat) (.tuple ds) = false → isOrdD (.tuple (((B.map fun l => l.map natD).set i ds).map PyData.tuple)) = false := fun ds h => by
    refine bad_lot ⟨.tuple ds, List.mem_map.mpr ⟨ds, List.mem_of_getElem? (List.getElem?_set_self (by rw [hlen]; exact hi')), rfl⟩, ?_⟩
    rw [List.length_map, List.length_set, hlen]
    exact h
  intro d hd
  simp only [List.mem_cons, List.not_mem_nil, or_false] at hd
  rcases hd with rfl | rfl | rfl | rfl
  · refine ⟨i, hix, put _ (by rw [List.length_append, List.length_reverse, List.length_map]; show _ + 1 ≤ _; omega) (hbad _ ?_)⟩
    have := turned_no (n := n) (l := B.getD i []) (x := x) (by rw [er]; rfl)
    rw [natsT, List.map_append, List.map_reverse] at this
    exact this
  · refine ⟨i, hix, put _ (by rw [List.length_append, List.length_map]; show _ + 1 ≤ _; omega) (hbad _ ?_)⟩
    have := above_no (n := n) (l := B.getD i [])
    rw [natsT, List.map_append] at this
    exact this
  · refine ⟨i, hix, put _ (by rw [List.length_map]; exact Nat.le_trans (List.length_filter_le _ _) (by omega)) ?_⟩
    have e1 : PyData.tuple (((B.map fun l => l.map natD).set i ((List.filter (fun y => !decide (y = i)) (B.getD i [])).map natD)).map PyData.tuple) = ordD (B.set i (List.filter (fun y => !decide (y = i)) (B.getD i []))) := by
      unfold ordD
      rw [List.map_set, List.map_set, List.map_map]
      rfl
    rw [e1]
    refine bad_own (i := i) (by rw [List.length_set, X.len]; exact hi') fun z => ?_
    rw [List.getD_eq_getElem?_getD, List.getElem?_set_self (by rw [X.len]; exact hi')] at z
    have := (List.mem_filter.mp z).2
    rw [decide_eq_true rfl] at this
    cases this
  · refine ⟨i, hix, put _ (by rw [List.length_append, List.length_map]; show _ + 1 ≤ _; omega) (hbad _ truth_no)⟩
theorem law_go8a (C : Cn K mg base) (X : Cl ps n B) (hk : ks = [] ↔ ¬ Knot ps n) (hks : ∀ q ∈ ks, q.1 < n ∧ q.2 < n) (hkl : ks.length ≤ 12 * n) (he : seqD e (ps.map twoD)) (no : ¬ Knot ps n) :
    lw8 C (lawW 3) ⟨[.un, .loc 0, .dat (natD n), .dat (.list (ps.map twoD)), .dat (ordD B), .dat (.list (ks.map twoD)), a, .dat e, .dat (ordD B), .dat .none, .un, .un, .un, .un, b, .un, .un], M0 C⟩ := by
  have n1 := X.n1
  have n2 := X.n2
  have k0 := hk.mpr no
  subst k0
  unfold lw8
  walk_at "w"
  refine ⟨eqOk_ints (l := []) (m := []) (fun _ h => nomatch h) (fun _ h => nomatch h), ?_⟩
  rw [if_pos (show PyData.eqvAll [] [] = true from rfl)]
  refine ⟨reprOk_ord X, ?_⟩
  walk_at "w"
  refine ⟨reprOk_ord X, ?_⟩
  walk_at "w"
  rw [if_neg (by decide), if_neg (by decide)]
  refine ⟨_, rfl, ord_len X, ?_⟩
  rw [isOrd_B X true ⟨fun _ => no, fun _ => rfl⟩]
  walk_at "w"
  exact law_go9 C X hk hks hkl he (m := [])
theorem law_go8b (C : Cn K mg base) (X : Cl ps n B) (hk : ks = [] ↔ ¬ Knot ps n) (hks : ∀ q ∈ ks, q.1 < n ∧ q.2 < n) (hkl : ks.length ≤ 12 * n) (he : seqD e (ps.map twoD)) (yes : Knot ps n) {wy : List Nat} (R : RingW ps n wy) :
    lw8 C (lawW 3) ⟨[.un, .loc 0, .dat (natD n), .dat (.list (ps.map twoD)), .dat (ordD B), .dat (.list (ks.map twoD)), a, .dat e, .loc 3, .dat (natsT wy), .un, .un, .un, .un, b, .un, .un], M0 C ++ [.lst [.int 2]]⟩ := by
  have n1 := X.n1
  have n2 := X.n2
  unfold lw8
  walk_at "w"
  have k1 : ks ≠ [] := fun z => hk.mp z yes
  refine ⟨eqOk_twos X hks, ?_⟩
  rw [eqv_empty, decide_eq_false k1, if_neg Bool.false_ne_true]
  refine ⟨eqOk_ints (l := [2]) (m := [2]) (by decide) (by decide), ?_⟩
  rw [if_neg (by decide)]
  refine ⟨n, ps, wy, rfl, n2, X.hp, R, ?_⟩
  walk_at "w"
  exact law_go9 C X hk hks hkl he (m := [CD.lst [PyData.int 2]])
theorem law_go7a (C : Cn K mg base) (X : Cl ps n B) (hk : ks = [] ↔ ¬ Knot ps n) (hks : ∀ q ∈ ks, q.1 < n ∧ q.2 < n) (hkl : ks.length ≤ 12 * n) (he : seqD e (ps.map twoD)) (no : ¬ Knot ps n) :
    lw7 C (lawW 3) ⟨[.un, .loc 0, .dat (natD n), .dat (.list (ps.map twoD)), .dat (ordD B), .dat (.list (ks.map twoD)), a, .dat e, .dat (ordD B), .un, .un, .un, .un, .un, b, .un, .un], M0 C⟩ := by
  have n1 := X.n1
  have n2 := X.n2
  obtain ⟨g1, g2⟩ := given_ok n1 n2 he X.hp
  unfold lw7
  walk_at "w"
  refine ⟨⟨2, rfl⟩, natD n, e, rfl, fun h => (by rw [g1] at h; cases h), fun _ h => (by rw [g2] at h; cases h), fun L qs G => ?_⟩
  obtain ⟨rfl, rfl⟩ := given_eq he G
  refine ⟨fun wy R => absurd (ring_knot R) no, fun _ => ?_⟩
  walk_at "w"
  exact law_go8a C X hk hks hkl he no
theorem law_go7b (C : Cn K mg base) (X : Cl ps n B) (hk : ks = [] ↔ ¬ Knot ps n) (hks : ∀ q ∈ ks, q.1 < n ∧ q.2 < n) (hkl : ks.length ≤ 12 * n) (he : seqD e (ps.map twoD)) (yes : Knot ps n) :
    lw7 C (lawW 3) ⟨[.un, .loc 0, .dat (natD n), .dat (.list (ps.map twoD)), .dat (ordD B), .dat (.list (ks.map twoD)), a, .dat e, .loc 3, .un, .un, .un, .un, .un, b, .un, .un], M0 C ++ [.lst [.int 2]]⟩ := by
  have n1 := X.n1
  have n2 := X.n2
  obtain ⟨g1, g2⟩ := given_ok n1 n2 he X.hp
  unfold lw7
  walk_at "w"
  refine ⟨⟨2, rfl⟩, natD n, e, rfl, fun h => (by rw [g1] at h; cases h), fun _ h => (by rw [g2] at h; cases h), fun L qs G => ?_⟩
  obtain ⟨rfl, rfl⟩ := given_eq he G
  refine ⟨fun wy R => ?_, fun h => absurd yes (noback h)⟩
  walk_at "w"
  exact law_go8b C X hk hks hkl he yes R
theorem law_go6 (C : Cn K mg base) (X : Cl ps n B) (hk : ks = [] ↔ ¬ Knot ps n) (hks : ∀ q ∈ ks, q.1 < n ∧ q.2 < n) (hkl : ks.length ≤ 12 * n) (he : seqD e (ps.map twoD)) :
    lw6 C (lawW 3) ⟨[.un, .loc 0, .dat (natD n), .dat (.list (ps.map twoD)), .dat (ordD B), .dat (.list (ks.map twoD)), a, .dat e, .un, .un, .un, .un, .un, .un, b, .un, .un], M0 C⟩ := by
  have n1 := X.n1
  have n2 := X.n2
  obtain ⟨g1, g2⟩ := given_ok n1 n2 he X.hp
  unfold lw6
  walk_at "w"
  refine ⟨⟨2, rfl⟩, natD n, e, rfl, fun h => (by rw [g1] at h; cases h), fun _ h => (by rw [g2] at h; cases h), fun L qs G => ?_⟩
  obtain ⟨rfl, rfl⟩ := given_eq he G
  rw [X.eq]
  refine ⟨fun h => ?_, fun h => ?_⟩
  · walk_at "w"
    exact law_go7b C X hk hks hkl he (X.knot.mp h)
  · walk_at "w"
    exact law_go7a C X hk hks hkl he fun z => by rw [X.knot.mpr z] at h; cases h
theorem law_go5 (C : Cn K mg base) (X : Cl ps n B) (hk : ks = [] ↔ ¬ Knot ps n) (hks : ∀ q ∈ ks, q.1 < n ∧ q.2 < n) (hkl : ks.length ≤ 12 * n) :
    lw5 C (lawW 3) ⟨[.un, .loc 0, .dat (natD n), .dat (.list (ps.map twoD)), .dat (ordD B), .dat (.list (ks.map twoD)), a, .un, .un, .un, .un, .un, .un, .un, b, .un, .un], M0 C⟩ := by
  have n1 := X.n1
  have n2 := X.n2
  unfold lw5
  walk_at "w"
  refine ⟨by decide, by decide, fun x hx => ?_⟩
  split
  · exact law_go6 C X hk hks hkl (.inl rfl)
  · exact law_go6 C X hk hks hkl (.inr rfl)
end
theorem law_go (C : Cn K mg base) : lw0 C (lawW (2 + C.LS.length)) ⟨.un :: .loc 0 :: List.replicate (17 - 2) .un, dealB ++ C.LS.map fun p => .tab p.2 lamN⟩ := by
  show lw0 C (lawW 3) ⟨[.un, .loc 0, .un, .un, .un, .un, .un, .un, .un, .un, .un, .un, .un, .un, .un, .un, .un], M0 C⟩
  unfold lw0
  walk_at "w"
  intro d hd
  obtain ⟨n, rfl, n1, n2⟩ : ∃ n : Nat, d = natD n ∧ 1 ≤ n ∧ n ≤ 12 := by
    simp only [List.mem_cons, List.not_mem_nil, or_false] at hd
    rcases hd with rfl | rfl | rfl | rfl | rfl | rfl | rfl | rfl
    · exact ⟨1, rfl, by decide, by decide⟩
    · exact ⟨2, rfl, by decide, by decide⟩
    · exact ⟨3, rfl, by decide, by decide⟩
    · exact ⟨4, rfl, by decide, by decide⟩
    · exact ⟨4, rfl, by decide, by decide⟩
    · exact ⟨5, rfl, by decide, by decide⟩
    · exact ⟨6, rfl, by decide, by decide⟩
    · exact ⟨12, rfl, by decide, by decide⟩
  refine ⟨n, rfl, n1, n2, fun ps hl hps => ?_⟩
  walk_at "w"
  refine ⟨n, ps, rfl, n2, hps, fun B CB FB => ?_⟩
  have X := cl_of n1 n2 hps CB FB
  walk_at "w"
  refine ⟨by omega, by omega, forQ_nat (fun i S => ∃ (ks : List (Nat × Nat)) (a b : AD), S = ⟨[.un, .loc 0, .dat (natD n), .dat (.list (ps.map twoD)), .dat (ordD B), .dat (.list (ks.map twoD)), a, .un, .un, .un, .un, .un, .un, .un, b, .un, .un], M0 C⟩ ∧
    (ks = [] ↔ ∀ x, x < i → ∀ y ∈ B.getD x [], y ≠ x → x ∉ B.getD y []) ∧ (∀ q ∈ ks, q.1 < n ∧ q.2 < n) ∧ ks.length ≤ 12 * i) ⟨[], .un, .un, rfl, ⟨fun _ x h => absurd h (Nat.not_lt_zero x), fun _ => rfl⟩, fun q hq => absurd hq List.not_mem_nil, Nat.zero_le _⟩ ?_ ?_⟩
  · rintro S ⟨ks, a, b, rfl, hk, hks, hl⟩
    refine law_go5 C X ?_ hks hl
    rw [hk]
    constructor
    · rintro h ⟨x, y, hx, hy, ne, r1, r2⟩
      exact h x hx y ((X.mem x hx y hy).mpr r1) ne ((X.mem y hy x hx).mpr r2)
    · intro h x hx y hy ne z
      have hy' := X.lt x hx y hy
      exact h ⟨x, y, hx, hy', ne, (X.mem x hx y hy').mp hy, (X.mem y hy' x hx).mp z⟩
  · rintro i S N hi ⟨ks, a, b, rfl, hk, hks, hl⟩ hN
    walk_at "w"
    refine ix_ord (by rw [X.len]; exact hi) ?_
    walk_at "w"
    rw [items_natsT]
    walk_at "w"
    have bl := asc_len (X.asc i hi) (X.lt i hi)
    refine ⟨by rw [List.length_map]; omega, ?_⟩
    refine lcQ natD (B.getD i []) rfl (fun y => !decide (y = i) && decide (i ∈ B.getD y [])) (fun y => twoD (i, y)) (fun y hy N1 N0 h1 h0 => ?_) ?_
    · have hy' := X.lt i hi y hy
      walk_at "w"
      by_cases e : y = i
      · rw [if_neg (by rw [decide_eq_true (by rw [e])]; decide)]
        exact h0 (by rw [decide_eq_true e]; rfl)
      · rw [if_pos (by rw [decide_eq_false (by omega)]; rfl)]
        rw [decide_eq_false e] at h1 h0
        refine ix_ord (by rw [X.len]; exact hy') ?_
        walk_at "w"
        refine in_natsT ?_
        walk_at "w"
        cases c : decide (i ∈ B.getD y []) <;> rw [c] at h1 h0
        · exact h0 rfl
        · exact h1 rfl
    walk_at "w"
    obtain ⟨add, hadd⟩ : ∃ add : List (Nat × Nat), add = ((B.getD i []).filter fun y => !decide (y = i) && decide (i ∈ B.getD y [])).map fun y => (i, y) := ⟨_, rfl⟩
    have hal : add.length ≤ n := by
      rw [hadd, List.length_map]
      exact Nat.le_trans (List.length_filter_le _ _) bl
    have em : List.map (fun y => twoD (i, y)) (List.filter (fun y => !decide (y = i) && decide (i ∈ B.getD y [])) (B.getD i [])) = add.map twoD := by rw [hadd, List.map_map]; rfl
    have ma : ∀ q, q ∈ add ↔ q.1 = i ∧ q.2 ∈ B.getD i [] ∧ q.2 ≠ i ∧ i ∈ B.getD q.2 [] := fun q => by
      rw [hadd, List.mem_map]
      constructor
      · rintro ⟨y, hy, rfl⟩
        obtain ⟨h1, h2⟩ := List.mem_filter.mp hy
        rw [Bool.and_eq_true, Bool.not_eq_true', decide_eq_false_iff_not, decide_eq_true_iff] at h2
        exact ⟨rfl, h1, h2⟩
      · rintro ⟨e1, h1, h2, h3⟩
        exact ⟨q.2, List.mem_filter.mpr ⟨h1, by rw [decide_eq_false h2, decide_eq_true h3]; rfl⟩, by rw [← e1]⟩
    rw [em, ← List.map_append, List.length_map, List.length_map]
    refine ⟨by omega, hN _ _ (.refl _) ⟨ks ++ add, _, _, rfl, ?_, fun q hq => ?_, by rw [List.length_append]; omega⟩⟩
    · rw [List.append_eq_nil_iff, hk]
      constructor
      · rintro ⟨h1, h2⟩ x hx y hy ne z
        rcases Nat.lt_succ_iff_lt_or_eq.mp hx with hx | rfl
        · exact h1 x hx y hy ne z
        · have : (x, y) ∈ add := (ma (x, y)).mpr ⟨rfl, hy, ne, z⟩
          rw [h2] at this
          exact absurd this List.not_mem_nil
      · intro h
        refine ⟨fun x hx => h x (by omega), List.eq_nil_iff_forall_not_mem.mpr fun q hq => ?_⟩
        obtain ⟨e1, h1, h2, h3⟩ := (ma q).mp hq
        exact h i (by omega) q.2 h1 h2 h3
    · rcases List.mem_append.mp hq with hq | hq
      · exact hks q hq
      · obtain ⟨e1, h1, _⟩ := (ma q).mp hq
        exact ⟨by omega, X.lt i hi _ h1⟩
end
end K01
end

section
set_option maxHeartbeats 4000000
set_option synthInstance.maxHeartbeats 4000000
set_option synthInstance.maxSize 100000
namespace K01
open PySem PySem.Spec PyProof.Rows L2 Zc Zd
section
variable {P : Program} {w : World} {K : PySem.W.Frag} {mg : Str → Option Value} {base : Heap}
theorem ok__law_draw (C : Cn K mg base) : FnOk P w K mg base CX0 1 C.f__law_draw C.fd__law_draw ["script", "salt"] (spDraw K) := ok_draw C.D__law_draw C.m_int C.m_abs
theorem ok_law (C : Cn K mg base) : FnG P w K mg base 12 C.f_law C.fd_law ["script"] (spLawL K C.CS C.LS) := by
  refine fnLaw (TB := C.TB) (qn := "law.<locals>.<lambda>") rfl C.D_law.F C.code_law sc_law (by decide) (by simpa [Cn.LS] using C.nd_lams) (by simpa [Cn.LS, Cn.CS] using C.dis_lams) fun A outer s H E hr hg => ?_
  have nd := sc_law.nd
  refine ⟨_, _, 1, (pss_cons (psF' (ps_set (i := 1) nd rfl (.inl rfl) (pe_call (ok__law_draw C) (hr.mono (by decide)) (by rfl) C.D__law_draw.g C.D__law_draw.F.kp C.D__law_draw.b .nil pass00 (pa_cons (pv 0) (pa_cons pe_int pa_nil)))))
  (pss_cons (psF' (ps_set (i := 2) nd rfl (.inr rfl) (pe_call (ok__law_of C) (hr.mono (by decide)) (by rfl) C.D__law_of.g C.D__law_of.F.kp C.D__law_of.b .nil pass00 (pa_cons (pv 1) (pa_cons (pe_lst (pa_cons pe_int (pa_cons pe_int (pa_cons pe_int (pa_cons pe_int (pa_cons pe_int (pa_cons pe_int (pa_cons pe_int (pa_cons pe_int pa_nil))))))))) pa_nil)))))
  (pss_cons (psF' (ps_set (i := 3) nd rfl (.inl rfl) (pe_call (ok__law_pairs C) (hr.mono (by decide)) (by rfl) C.D__law_pairs.g C.D__law_pairs.F.kp C.D__law_pairs.b .nil pass00 (pa_cons (pv 1) (pa_cons (pv 2) pa_nil)))))
  (pss_cons (psF' (ps_set (i := 4) nd rfl (.inr rfl) (pe_call (ok__law_closed C) (hr.mono (by decide)) (by rfl) C.D__law_closed.g C.D__law_closed.F.kp C.D__law_closed.b .nil pass00 (pa_cons (pv 2) (pa_cons (pv 3) pa_nil)))))
  (pss_cons (psF' (ps_set (i := 5) nd rfl (.inl rfl) (pe_lst pa_nil)))
  (pss_cons (ps_for PassesOwn.never rfl (pi_range1 (by rfl) C.m_range (pa_cons (pv 2) pa_nil)) (pg_name (i := 6) nd rfl (Or.inr rfl))
    (pss_one (psF' (ps_set (i := 5) nd rfl (.inl rfl) (pe_op (zop_add K (by rfl)) (pv 5) (zlc [14] (pe_lc (own := [("b", 14)]) (g := gName 14)  (by rfl) nd (pi_seq K (by rfl) (pe_ix (zix K (by rfl)) (pv 4) (pv 6) (fun _ _ => rfl))) (blkOk_by (own := [("b", 14)]) (N := ["script", "deal", "many", "pairs", "below", "knots", "a", "given", "told", "ring", "value", "at", "bad", "odd", "b", "lot", "one"]) (sc := defScope s_law) (by decide +kernel)) (fun _ _ _ _ _ => (pg_name (i := 14) nd rfl (Or.inl rfl))) (fun _ _ _ _ _ => (pts_one (PW.pt (pw_and (pt_cmpR (zop_ne K (by rfl) hr.units) (pv 14) (pv 6) (nomark _)) (pw_and1 (pt_cmpR (zop_in K (by rfl) (units65 hr)) (pv 6) (pe_ix (zix K (by rfl)) (pv 4) (pv 14) (fun _ _ => rfl)) (by rfl))))))) (fun _ _ _ _ _ => (pe_tup (pa_cons (pv 6) (pa_cons (pv 14) pa_nil)))))))))))
  (pss_cons (psF' (ps_set (i := 7) nd rfl (.inr rfl) (pe_ifExp (pt_cmpR (zop_eq K (by rfl) hr.units) (pe_call (ok__law_any C) (hr.mono (by decide)) (by rfl) C.D__law_any.g C.D__law_any.F.kp C.D__law_any.b .nil pass00 (pa_cons (pv 1) (pa_cons pe_int pa_nil))) pe_int (nomark _)) (pv 3) (pe_callTy (zcr_tuple K (by rfl)) (by rfl) C.m_tuple boot_tuple (pa_cons (pv 3) pa_nil)))))
  (pss_cons (ps_set (i := 8) nd rfl (.inl rfl) (zlamX (q := "law.<locals>.<lambda>") (pe_lamX (k := 9) C.D__law_told (by rfl) rfl sc__law_told rfl (.inl rfl) (told_at C.E_InvalidOrder rfl (by decide) sc__law_told.nd rfl rfl (by decide) (by decide) (fun _ => rfl)) C.lam_law rfl (hr.mono (by decide)) (show LamX.LamS (defScope s_law) _ from LamX.lamS_by (by decide +kernel)) rfl (fun _ _ _ _ _ => rfl) (fun _ _ _ _ _ _ _ hr => (pe_callKw (ok_order_of C) (hr.mono (by decide)) (by rfl) C.D_order_of.g C.D_order_of.F.kp (kb_rev (ks := ["pairs", "levels"]) C.D_order_of.F (by simp) rfl (fun _ _ _ _ _ _ ws hl => match ws, hl with | [_, _], _ => rfl)) (L2.passes_call (L2.takes_of rfl rfl rfl rfl) fun _ _ _ _ h => h) (pk_cons (pv 7) (pk_cons (pv 2) pk_nil)))))))
  (pss_cons (psF' (ps_set (i := 9) nd rfl (.inl rfl) (zlamX (q := "law.<locals>.<lambda>") (pe_lamX (k := 9) C.D__law_told (by rfl) rfl sc__law_told rfl (.inl rfl) (told_at C.E_InvalidOrder rfl (by decide) sc__law_told.nd rfl rfl (by decide) (by decide) (fun _ => rfl)) C.lam_law rfl (hr.mono (by decide)) (show LamX.LamS (defScope s_law) _ from LamX.lamS_by (by decide +kernel)) rfl (fun _ _ _ _ _ => rfl) (fun _ _ _ _ _ _ _ hr => (pe_callKw (ok_ring_of C) (hr.mono (by decide)) (by rfl) C.D_ring_of.g C.D_ring_of.F.kp (kb_rev (ks := ["pairs", "levels"]) C.D_ring_of.F (by simp) rfl (fun _ _ _ _ _ _ ws hl => match ws, hl with | [_, _], _ => rfl)) (L2.passes_call (L2.takes_of rfl rfl rfl rfl) fun _ _ _ _ h => h) (pk_cons (pv 7) (pk_cons (pv 2) pk_nil))))))))
  (pss_cons (ps_if (pt_cmpR (zop_eq K (by rfl) hr.units) (pv 5) (pe_lst pa_nil) (nomark _))
    (pss_one (ps_if (PW.pt (pw_or (pt_cmpR (zop_ne K (by rfl) hr.units) (pe_callB (zcr_repr K (by rfl) hg hr.units) (by rfl) C.m_repr PyProof.Rows.boot_repr (pa_cons (pv 8) pa_nil)) (pe_callB (zcr_repr K (by rfl) hg hr.units) (by rfl) C.m_repr PyProof.Rows.boot_repr (pa_cons (pv 4) pa_nil)) (nomark _)) (pw_or (pt_cmpR zop_isnot (pv 9) pe_non (nomark _)) (pw_or1 (pt_cmpR zop_isnot (pe_callKw (ok_is_order C) (hr.mono (by decide)) (by rfl) C.D_is_order.g C.D_is_order.F.kp (kb_rev (ks := ["value"]) C.D_is_order.F (by simp) rfl (fun _ _ _ _ _ _ ws hl => match ws, hl with | [_], _ => rfl)) pass00 (pk_cons (pv 8) pk_nil)) pe_bl (nomark _))))))
        (pss_one (ps_ret pe_bl))
        pss_nil))
    (pss_one (ps_if (PW.pt (pw_or (pt_cmpR (zop_ne K (by rfl) hr.units) (pv 8) (pe_lst (pa_cons pe_int pa_nil)) (nomark _)) (pw_or1 (pt_not (zpt_truth K (by rfl) (pe_call (ok__law_is_ring C) (hr.mono (by decide)) (by rfl) C.D__law_is_ring.g C.D__law_is_ring.F.kp C.D__law_is_ring.b .nil pass00 (pa_cons (pv 3) (pa_cons (pv 9) pa_nil))) (by intro _; rfl))))))
        (pss_one (ps_ret pe_bl))
        pss_nil)))
  (zghost (pss_cons (zslc [15] (ps_setLc (i := 10) (own := [("lot", 15)]) (g := gName 15) (tt := tYes) (by rfl) nd rfl rfl (sw_true rfl rfl rfl (by decide +kernel)) (pi_seq K (by rfl) (pv 4)) (blkOk_by (own := [("lot", 15)]) (N := ["script", "deal", "many", "pairs", "below", "knots", "a", "given", "told", "ring", "value", "at", "bad", "odd", "b", "lot", "one"]) (sc := defScope s_law) (by decide +kernel)) (fun _ _ _ _ _ => (pg_name (i := 15) nd rfl (Or.inl rfl))) (fun _ _ _ _ _ => pts_nil) (fun _ _ _ _ _ => (pe_callTy (zcr_list K (by rfl)) (by rfl) C.m_list boot_list (pa_cons (pv 15) pa_nil)))))
  (pss_cons (psF' (ps_set (i := 11) nd rfl (.inr rfl) (pe_call (ok__law_any C) (hr.mono (by decide)) (by rfl) C.D__law_any.g C.D__law_any.F.kp C.D__law_any.b .nil pass00 (pa_cons (pv 1) (pa_cons (pv 2) pa_nil)))))
  (pss_cons (ps_asg (pe_call (ok__law_of C) (hr.mono (by decide)) (by rfl) C.D__law_of.g C.D__law_of.F.kp C.D__law_of.b .nil pass00 (pa_cons (pv 1) (pa_cons (pe_lst (pa_cons (pe_op (zop_add K (by rfl)) (zrevL K (by rfl) (pe_revL (pe_ix (zix K (by rfl)) (pv 10) (pv 11) (fun _ _ => rfl)))) (pe_slice (zsl K (by rfl)) (pe_ix (zix K (by rfl)) (pv 10) (pv 11) (fun _ _ => rfl)) po_none (po_some pe_int))) (pa_cons (pe_op (zop_add K (by rfl)) (pe_ix (zix K (by rfl)) (pv 10) (pv 11) (fun _ _ => rfl)) (pe_lst (pa_cons (pv 2) pa_nil))) (pa_cons (zlc [16] (pe_lc (own := [("one", 16)]) (g := gName 16)  (by rfl) nd (pi_seq K (by rfl) (pe_ix (zix K (by rfl)) (pv 10) (pv 11) (fun _ _ => rfl))) (blkOk_by (own := [("one", 16)]) (N := ["script", "deal", "many", "pairs", "below", "knots", "a", "given", "told", "ring", "value", "at", "bad", "odd", "b", "lot", "one"]) (sc := defScope s_law) (by decide +kernel)) (fun _ _ _ _ _ => (pg_name (i := 16) nd rfl (Or.inl rfl))) (fun _ _ _ _ _ => (pts_one (pt_cmpR (zop_ne K (by rfl) hr.units) (pv 16) (pv 11) (nomark _)))) (fun _ _ _ _ _ => (pv 16)))) (pa_cons (pe_op (zop_add K (by rfl)) (pe_ix (zix K (by rfl)) (pv 10) (pv 11) (fun _ _ => rfl)) (pe_lst (pa_cons pe_bl pa_nil))) pa_nil))))) pa_nil))) (pg_sub (pv 10) (pv 11) set_list))
  (pss_cons (ps_if (PW.pt (pw_or (pt_cmpR zop_isnot (pe_call (ok_is_order C) (hr.mono (by decide)) (by rfl) C.D_is_order.g C.D_is_order.F.kp C.D_is_order.b .nil pass00 (pa_cons (pe_callTy (zcr_tuple K (by rfl)) (by rfl) C.m_tuple boot_tuple (pa_cons (zlc [15] (pe_lc (own := [("lot", 15)]) (g := gName 15) (tt := tYes) (by rfl) nd (pi_seq K (by rfl) (pv 10)) (blkOk_by (own := [("lot", 15)]) (N := ["script", "deal", "many", "pairs", "below", "knots", "a", "given", "told", "ring", "value", "at", "bad", "odd", "b", "lot", "one"]) (sc := defScope s_law) (by decide +kernel)) (fun _ _ _ _ _ => (pg_name (i := 15) nd rfl (Or.inl rfl))) (fun _ _ _ _ _ => pts_nil) (fun _ _ _ _ _ => (pe_callTy (zcr_tuple K (by rfl)) (by rfl) C.m_tuple boot_tuple (pa_cons (pv 15) pa_nil))))) pa_nil)) pa_nil)) pe_bl (nomark _)) (pw_or1 (pt_cmpR zop_isnot (pe_call (ok_is_order C) (hr.mono (by decide)) (by rfl) C.D_is_order.g C.D_is_order.F.kp C.D_is_order.b .nil pass00 (pa_cons (pe_call (ok__law_of C) (hr.mono (by decide)) (by rfl) C.D__law_of.g C.D__law_of.F.kp C.D__law_of.b .nil pass00 (pa_cons (pv 1) (pa_cons (pe_lst (pa_cons (pe_callTy (zcr_list K (by rfl)) (by rfl) C.m_list boot_list (pa_cons (pv 4) pa_nil)) (pa_cons pe_non (pa_cons (pe_tup pa_nil) (pa_cons pe_int (pa_cons (pe_tup (pa_cons (pe_tup (pa_cons pe_int pa_nil)) (pa_cons (pe_lst (pa_cons pe_int pa_nil)) pa_nil))) (pa_cons (pe_tup (pa_cons (pe_tup (pa_cons pe_bl pa_nil)) pa_nil)) pa_nil))))))) pa_nil))) pa_nil)) pe_bl (nomark _)))))
    (pss_one (ps_ret pe_bl))
    pss_nil)
  (pss_cons (ps_if (PW.pt (pw_or (pt_cmpR (zop_ne K (by rfl) hr.units) (pe_callB (zcr_repr K (by rfl) hg hr.units) (by rfl) C.m_repr PyProof.Rows.boot_repr (pa_cons (pe_call (ok_is_order C) (hr.mono (by decide)) (by rfl) C.D_is_order.g C.D_is_order.F.kp C.D_is_order.b .nil pass00 (pa_cons (pv 4) pa_nil)) pa_nil)) (pe_callB (zcr_repr K (by rfl) hg hr.units) (by rfl) C.m_repr PyProof.Rows.boot_repr (pa_cons (pe_cmpR (zop_eq K (by rfl) hr.units) (pv 5) (pe_lst pa_nil) (nomark _)) pa_nil)) (nomark _)) (pw_or1 (pt_cmpR zop_isnot (pe_call (ok_is_order C) (hr.mono (by decide)) (by rfl) C.D_is_order.g C.D_is_order.F.kp C.D_is_order.b .nil pass00 (pa_cons (pe_tup (pa_cons (pe_tup (pa_cons pe_int pa_nil)) (pa_cons (pe_tup (pa_cons pe_int (pa_cons pe_int pa_nil))) (pa_cons (pe_tup (pa_cons pe_int (pa_cons pe_int pa_nil))) pa_nil)))) pa_nil)) pe_bl (nomark _)))))
    (pss_one (ps_ret pe_bl))
    pss_nil)
  (zghost (pss_cons (psF' (ps_set (i := 12) nd rfl (.inr rfl) (pe_call (ok__law_of C) (hr.mono (by decide)) (by rfl) C.D__law_of.g C.D__law_of.F.kp C.D__law_of.b .nil pass00 (pa_cons (pv 1) (pa_cons (pe_lst (pa_cons pe_int (pa_cons (pe_un zun_neg pe_int) (pa_cons pe_int (pa_cons pe_bl (pa_cons pe_non (pa_cons pe_str (pa_cons (pe_tup (pa_cons pe_int pa_nil)) pa_nil)))))))) pa_nil)))))
  (pss_cons (psF' (ps_set (i := 13) nd rfl (.inr rfl) (pe_call (ok__law_of C) (hr.mono (by decide)) (by rfl) C.D__law_of.g C.D__law_of.F.kp C.D__law_of.b .nil pass00 (pa_cons (pv 1) (pa_cons (pe_lst (pa_cons pe_non (pa_cons pe_int (pa_cons pe_str (pa_cons (pe_lst (pa_cons (pe_tup (pa_cons pe_int (pa_cons (pv 2) pa_nil))) pa_nil)) (pa_cons (pe_lst (pa_cons (pe_tup (pa_cons pe_int pa_nil)) pa_nil)) (pa_cons (pe_lst (pa_cons (pe_lst (pa_cons pe_int (pa_cons pe_int pa_nil))) pa_nil)) (pa_cons (pe_lst (pa_cons (pe_tup (pa_cons pe_int (pa_cons pe_bl pa_nil))) pa_nil)) (pa_cons (pe_lst (pa_cons pe_non pa_nil)) (pa_cons (pe_lst (pa_cons (pe_tup (pa_cons pe_int (pa_cons pe_int (pa_cons pe_int pa_nil)))) pa_nil)) (pa_cons pe_dnewK pa_nil))))))))))) pa_nil)))))
  (pss_cons (ps_set (i := 8) nd rfl (.inl rfl) (pe_lst (pa_cons (zlamX (q := "law.<locals>.<lambda>") (pe_lamX (k := 9) C.D__law_told (by rfl) rfl sc__law_told rfl (.inl rfl) (told_at C.E_InvalidOrder rfl (by decide) sc__law_told.nd rfl rfl (by decide) (by decide) (fun _ => rfl)) C.lam_law rfl (hr.mono (by decide)) (show LamX.LamS (defScope s_law) _ from LamX.lamS_by (by decide +kernel)) rfl (fun _ _ _ _ _ => rfl) (fun _ _ _ _ _ _ _ hr => (pe_call (ok_order_of C) (hr.mono (by decide)) (by rfl) C.D_order_of.g C.D_order_of.F.kp C.D_order_of.b .nil (L2.passes_call (L2.takes_of rfl rfl rfl rfl) fun _ _ _ _ h => h) (pa_cons (pv 12) (pa_cons pe_non pa_nil)))))) pa_nil)))
  (pss_cons (ps_expr (zbm K (by rfl) (pe_bm PySem.F.plainAttrs_list PySem.F.slot_list_append PySem.F.type_list_append mt_append (pv 8) (pa_cons (zlamX (q := "law.<locals>.<lambda>") (pe_lamX (k := 9) C.D__law_told (by rfl) rfl sc__law_told rfl (.inl rfl) (told_at C.E_InvalidOrder rfl (by decide) sc__law_told.nd rfl rfl (by decide) (by decide) (fun _ => rfl)) C.lam_law rfl (hr.mono (by decide)) (show LamX.LamS (defScope s_law) _ from LamX.lamS_by (by decide +kernel)) rfl (fun _ _ _ _ _ => rfl) (fun _ _ _ _ _ _ _ hr => (pe_call (ok_order_of C) (hr.mono (by decide)) (by rfl) C.D_order_of.g C.D_order_of.F.kp C.D_order_of.b .nil (L2.passes_call (L2.takes_of rfl rfl rfl rfl) fun _ _ _ _ h => h) (pa_cons (pv 2) (pa_cons (pv 13) pa_nil)))))) pa_nil))))
  (pss_cons (ps_expr (zbm K (by rfl) (pe_bm PySem.F.plainAttrs_list PySem.F.slot_list_append PySem.F.type_list_append mt_append (pv 8) (pa_cons (zlamX (q := "law.<locals>.<lambda>") (pe_lamX (k := 9) C.D__law_told (by rfl) rfl sc__law_told rfl (.inl rfl) (told_at C.E_InvalidOrder rfl (by decide) sc__law_told.nd rfl rfl (by decide) (by decide) (fun _ => rfl)) C.lam_law rfl (hr.mono (by decide)) (show LamX.LamS (defScope s_law) _ from LamX.lamS_by (by decide +kernel)) rfl (fun _ _ _ _ _ => rfl) (fun _ _ _ _ _ _ _ hr => (pe_call (ok_ring_of C) (hr.mono (by decide)) (by rfl) C.D_ring_of.g C.D_ring_of.F.kp C.D_ring_of.b .nil (L2.passes_call (L2.takes_of rfl rfl rfl rfl) fun _ _ _ _ h => h) (pa_cons (pv 12) (pa_cons pe_non pa_nil)))))) pa_nil))))
  (pss_cons (ps_expr (zbm K (by rfl) (pe_bm PySem.F.plainAttrs_list PySem.F.slot_list_append PySem.F.type_list_append mt_append (pv 8) (pa_cons (zlamX (q := "law.<locals>.<lambda>") (pe_lamX (k := 9) C.D__law_told (by rfl) rfl sc__law_told rfl (.inl rfl) (told_at C.E_InvalidOrder rfl (by decide) sc__law_told.nd rfl rfl (by decide) (by decide) (fun _ => rfl)) C.lam_law rfl (hr.mono (by decide)) (show LamX.LamS (defScope s_law) _ from LamX.lamS_by (by decide +kernel)) rfl (fun _ _ _ _ _ => rfl) (fun _ _ _ _ _ _ _ hr => (pe_call (ok_ring_of C) (hr.mono (by decide)) (by rfl) C.D_ring_of.g C.D_ring_of.F.kp C.D_ring_of.b .nil (L2.passes_call (L2.takes_of rfl rfl rfl rfl) fun _ _ _ _ h => h) (pa_cons (pv 2) (pa_cons (pv 13) pa_nil)))))) pa_nil))))
  (pss_one (ps_ret (pe_cmpR (zop_eq K (by rfl) hr.units) (pv 8) (pe_lst (pa_cons (pe_lst (pa_cons pe_int pa_nil)) (pa_cons (pe_lst (pa_cons pe_int pa_nil)) (pa_cons (pe_lst (pa_cons pe_int pa_nil)) (pa_cons (pe_lst (pa_cons pe_int pa_nil)) pa_nil))))) (nomark _))))))))))))))))))))))))))), by decide, by decide, inferInstance, ?_⟩
  exact law_go C
end
end K01
end

section
set_option maxHeartbeats 4000000
namespace K01
open PySem PySem.Spec PyProof.Rows L2 Zc Zd
theorem all_mk {l : PySem.W.OpenLaw} {w : World} {K : PySem.W.Frag} {h : Heap} {mg : Str → Option Value} {fa : Addr}
    (X : K.In h) (G : h.Ns mainGlobals mg) (hfa : mg "law" = some (.ref fa)) (own : ∀ y ∈ [("is_ascending" : Str), ("is_lot" : Str), ("is_order" : Str), ("is_level_right" : Str), ("check_relations" : Str), ("order_of" : Str), ("law" : Str)], OwnT K mg h y)
    {f0 : Addr} {od0 an0 : Option Addr} {sl0 : Array (Option Value)} {oc0 kV0 dc0 pm0 cd0 ct0 : Value}
    {f1 : Addr} {od1 an1 : Option Addr} {sl1 : Array (Option Value)} {oc1 kV1 dc1 pm1 cd1 ct1 : Value}
    {f2 : Addr} {od2 an2 : Option Addr} {sl2 : Array (Option Value)} {oc2 kV2 dc2 pm2 cd2 ct2 : Value}
    {f3 : Addr} {od3 an3 : Option Addr} {sl3 : Array (Option Value)} {oc3 kV3 dc3 pm3 cd3 ct3 : Value}
    {f4 : Addr} {od4 an4 : Option Addr} {sl4 : Array (Option Value)} {oc4 kV4 dc4 pm4 cd4 ct4 : Value}
    {f5 : Addr} {od5 an5 : Option Addr} {sl5 : Array (Option Value)} {oc5 kV5 dc5 pm5 cd5 ct5 : Value}
    {f6 : Addr} {od6 an6 : Option Addr} {sl6 : Array (Option Value)} {oc6 kV6 dc6 pm6 cd6 ct6 : Value}
    {f7 : Addr} {od7 an7 : Option Addr} {sl7 : Array (Option Value)} {oc7 kV7 dc7 pm7 cd7 ct7 : Value}
    {f8 : Addr} {od8 an8 : Option Addr} {sl8 : Array (Option Value)} {oc8 kV8 dc8 pm8 cd8 ct8 : Value}
    {f9 : Addr} {od9 an9 : Option Addr} {sl9 : Array (Option Value)} {oc9 kV9 dc9 pm9 cd9 ct9 : Value}
    {f10 : Addr} {od10 an10 : Option Addr} {sl10 : Array (Option Value)} {oc10 kV10 dc10 pm10 cd10 ct10 : Value}
    {f11 : Addr} {od11 an11 : Option Addr} {sl11 : Array (Option Value)} {oc11 kV11 dc11 pm11 cd11 ct11 : Value}
    {f12 : Addr} {od12 an12 : Option Addr} {sl12 : Array (Option Value)} {oc12 kV12 dc12 pm12 cd12 ct12 : Value}
    {f13 : Addr} {od13 an13 : Option Addr} {sl13 : Array (Option Value)} {oc13 kV13 dc13 pm13 cd13 ct13 : Value}
    {f14 : Addr} {od14 an14 : Option Addr} {sl14 : Array (Option Value)} {oc14 kV14 dc14 pm14 cd14 ct14 : Value}
    {f15 : Addr} {od15 an15 : Option Addr} {sl15 : Array (Option Value)} {oc15 kV15 dc15 pm15 cd15 ct15 : Value}
    {f16 : Addr} {od16 an16 : Option Addr} {sl16 : Array (Option Value)} {oc16 kV16 dc16 pm16 cd16 ct16 : Value}
    {f17 : Addr} {od17 an17 : Option Addr} {sl17 : Array (Option Value)} {oc17 kV17 dc17 pm17 cd17 ct17 : Value}
    {f18 : Addr} {od18 an18 : Option Addr} {sl18 : Array (Option Value)} {oc18 kV18 dc18 pm18 cd18 ct18 : Value}
    {f19 : Addr} {od19 an19 : Option Addr} {sl19 : Array (Option Value)} {oc19 kV19 dc19 pm19 cd19 ct19 : Value}
    {f20 : Addr} {od20 an20 : Option Addr} {sl20 : Array (Option Value)} {oc20 kV20 dc20 pm20 cd20 ct20 : Value}
    {f21 : Addr} {od21 an21 : Option Addr} {sl21 : Array (Option Value)} {oc21 kV21 dc21 pm21 cd21 ct21 : Value}
    {f22 : Addr} {od22 an22 : Option Addr} {sl22 : Array (Option Value)} {oc22 kV22 dc22 pm22 cd22 ct22 : Value}
    (a0 : PySem.W.nsIn K mainGlobals "law" = some (some (.ref f0)))
    (l0 : K.lookup f0 = some ⟨oc0, od0, .func (PySem.W.fnOf "law" "law" (defArgs s_law) (defBody s_law)
      (defScope s_law) .none kV0 dc0 pm0 an0 cd0 ct0), sl0⟩)
    (c0 : PySem.W.codeIn K cd0 "law" = true) (k0 : PySem.W.keepIn K (.ref f0) = true)
    (a1 : PySem.W.nsIn K mainGlobals "is_integer" = some (some (.ref f1)))
    (l1 : K.lookup f1 = some ⟨oc1, od1, .func (PySem.W.fnOf "is_integer" "is_integer" (defArgs s_is_integer) (defBody s_is_integer)
      (defScope s_is_integer) .none kV1 dc1 pm1 an1 cd1 ct1), sl1⟩)
    (c1 : PySem.W.codeIn K cd1 "is_integer" = true) (k1 : PySem.W.keepIn K (.ref f1) = true)
    (a2 : PySem.W.nsIn K mainGlobals "is_number" = some (some (.ref f2)))
    (l2 : K.lookup f2 = some ⟨oc2, od2, .func (PySem.W.fnOf "is_number" "is_number" (defArgs s_is_number) (defBody s_is_number)
      (defScope s_is_number) .none kV2 dc2 pm2 an2 cd2 ct2), sl2⟩)
    (c2 : PySem.W.codeIn K cd2 "is_number" = true) (k2 : PySem.W.keepIn K (.ref f2) = true)
    (a3 : PySem.W.nsIn K mainGlobals "is_sequence" = some (some (.ref f3)))
    (l3 : K.lookup f3 = some ⟨oc3, od3, .func (PySem.W.fnOf "is_sequence" "is_sequence" (defArgs s_is_sequence) (defBody s_is_sequence)
      (defScope s_is_sequence) .none kV3 dc3 pm3 an3 cd3 ct3), sl3⟩)
    (c3 : PySem.W.codeIn K cd3 "is_sequence" = true) (k3 : PySem.W.keepIn K (.ref f3) = true)
    (a4 : PySem.W.nsIn K mainGlobals "is_tuple_of" = some (some (.ref f4)))
    (l4 : K.lookup f4 = some ⟨oc4, od4, .func (PySem.W.fnOf "is_tuple_of" "is_tuple_of" (defArgs s_is_tuple_of) (defBody s_is_tuple_of)
      (defScope s_is_tuple_of) .none kV4 dc4 pm4 an4 cd4 ct4), sl4⟩)
    (c4 : PySem.W.codeIn K cd4 "is_tuple_of" = true) (k4 : PySem.W.keepIn K (.ref f4) = true)
    (a5 : PySem.W.nsIn K mainGlobals "is_ascending" = some (some (.ref f5)))
    (l5 : K.lookup f5 = some ⟨oc5, od5, .func (PySem.W.fnOf "is_ascending" "is_ascending" (defArgs s_is_ascending) (defBody s_is_ascending)
      (defScope s_is_ascending) .none kV5 dc5 pm5 an5 cd5 ct5), sl5⟩)
    (c5 : PySem.W.codeIn K cd5 "is_ascending" = true) (k5 : PySem.W.keepIn K (.ref f5) = true)
    (a6 : PySem.W.nsIn K mainGlobals "is_level" = some (some (.ref f6)))
    (l6 : K.lookup f6 = some ⟨oc6, od6, .func (PySem.W.fnOf "is_level" "is_level" (defArgs s_is_level) (defBody s_is_level)
      (defScope s_is_level) .none kV6 dc6 pm6 an6 cd6 ct6), sl6⟩)
    (c6 : PySem.W.codeIn K cd6 "is_level" = true) (k6 : PySem.W.keepIn K (.ref f6) = true)
    (a7 : PySem.W.nsIn K mainGlobals "is_lot" = some (some (.ref f7)))
    (l7 : K.lookup f7 = some ⟨oc7, od7, .func (PySem.W.fnOf "is_lot" "is_lot" (defArgs s_is_lot) (defBody s_is_lot)
      (defScope s_is_lot) .none kV7 dc7 pm7 an7 cd7 ct7), sl7⟩)
    (c7 : PySem.W.codeIn K cd7 "is_lot" = true) (k7 : PySem.W.keepIn K (.ref f7) = true)
    (a8 : PySem.W.nsIn K mainGlobals "is_order" = some (some (.ref f8)))
    (l8 : K.lookup f8 = some ⟨oc8, od8, .func (PySem.W.fnOf "is_order" "is_order" (defArgs s_is_order) (defBody s_is_order)
      (defScope s_is_order) .none kV8 dc8 pm8 an8 cd8 ct8), sl8⟩)
    (c8 : PySem.W.codeIn K cd8 "is_order" = true) (k8 : PySem.W.keepIn K (.ref f8) = true)
    (a9 : PySem.W.nsIn K mainGlobals "is_level_right" = some (some (.ref f9)))
    (l9 : K.lookup f9 = some ⟨oc9, od9, .func (PySem.W.fnOf "is_level_right" "is_level_right" (defArgs s_is_level_right) (defBody s_is_level_right)
      (defScope s_is_level_right) .none kV9 dc9 pm9 an9 cd9 ct9), sl9⟩)
    (c9 : PySem.W.codeIn K cd9 "is_level_right" = true) (k9 : PySem.W.keepIn K (.ref f9) = true)
    (a10 : PySem.W.nsIn K mainGlobals "check_relations" = some (some (.ref f10)))
    (l10 : K.lookup f10 = some ⟨oc10, od10, .func (PySem.W.fnOf "check_relations" "check_relations" (defArgs s_check_relations) (defBody s_check_relations)
      (defScope s_check_relations) .none kV10 dc10 pm10 an10 cd10 ct10), sl10⟩)
    (c10 : PySem.W.codeIn K cd10 "check_relations" = true) (k10 : PySem.W.keepIn K (.ref f10) = true)
    (a11 : PySem.W.nsIn K mainGlobals "relations_of" = some (some (.ref f11)))
    (l11 : K.lookup f11 = some ⟨oc11, od11, .func (PySem.W.fnOf "relations_of" "relations_of" (defArgs s_relations_of) (defBody s_relations_of)
      (defScope s_relations_of) .none kV11 dc11 pm11 an11 cd11 ct11), sl11⟩)
    (c11 : PySem.W.codeIn K cd11 "relations_of" = true) (k11 : PySem.W.keepIn K (.ref f11) = true)
    (a12 : PySem.W.nsIn K mainGlobals "order_of" = some (some (.ref f12)))
    (l12 : K.lookup f12 = some ⟨oc12, od12, .func (PySem.W.fnOf "order_of" "order_of" (defArgs s_order_of) (defBody s_order_of)
      (defScope s_order_of) .none kV12 dc12 pm12 an12 cd12 ct12), sl12⟩)
    (c12 : PySem.W.codeIn K cd12 "order_of" = true) (k12 : PySem.W.keepIn K (.ref f12) = true)
    (a13 : PySem.W.nsIn K mainGlobals "ring_of" = some (some (.ref f13)))
    (l13 : K.lookup f13 = some ⟨oc13, od13, .func (PySem.W.fnOf "ring_of" "ring_of" (defArgs s_ring_of) (defBody s_ring_of)
      (defScope s_ring_of) .none kV13 dc13 pm13 an13 cd13 ct13), sl13⟩)
    (c13 : PySem.W.codeIn K cd13 "ring_of" = true) (k13 : PySem.W.keepIn K (.ref f13) = true)
    (a14 : PySem.W.nsIn K mainGlobals "ring_from" = some (some (.ref f14)))
    (l14 : K.lookup f14 = some ⟨oc14, od14, .func (PySem.W.fnOf "ring_from" "ring_from" (defArgs s_ring_from) (defBody s_ring_from)
      (defScope s_ring_from) .none kV14 dc14 pm14 an14 cd14 ct14), sl14⟩)
    (c14 : PySem.W.codeIn K cd14 "ring_from" = true) (k14 : PySem.W.keepIn K (.ref f14) = true)
    (a15 : PySem.W.nsIn K mainGlobals "_law_draw" = some (some (.ref f15)))
    (l15 : K.lookup f15 = some ⟨oc15, od15, .func (PySem.W.fnOf "_law_draw" "_law_draw" (defArgs s__law_draw) (defBody s__law_draw)
      (defScope s__law_draw) .none kV15 dc15 pm15 an15 cd15 ct15), sl15⟩)
    (c15 : PySem.W.codeIn K cd15 "_law_draw" = true) (k15 : PySem.W.keepIn K (.ref f15) = true)
    (a16 : PySem.W.nsIn K mainGlobals "_law_any" = some (some (.ref f16)))
    (l16 : K.lookup f16 = some ⟨oc16, od16, .func (PySem.W.fnOf "_law_any" "_law_any" (defArgs s__law_any) (defBody s__law_any)
      (defScope s__law_any) .none kV16 dc16 pm16 an16 cd16 ct16), sl16⟩)
    (c16 : PySem.W.codeIn K cd16 "_law_any" = true) (k16 : PySem.W.keepIn K (.ref f16) = true)
    (a17 : PySem.W.nsIn K mainGlobals "_law_of" = some (some (.ref f17)))
    (l17 : K.lookup f17 = some ⟨oc17, od17, .func (PySem.W.fnOf "_law_of" "_law_of" (defArgs s__law_of) (defBody s__law_of)
      (defScope s__law_of) .none kV17 dc17 pm17 an17 cd17 ct17), sl17⟩)
    (c17 : PySem.W.codeIn K cd17 "_law_of" = true) (k17 : PySem.W.keepIn K (.ref f17) = true)
    (a18 : PySem.W.nsIn K mainGlobals "_law_mixed" = some (some (.ref f18)))
    (l18 : K.lookup f18 = some ⟨oc18, od18, .func (PySem.W.fnOf "_law_mixed" "_law_mixed" (defArgs s__law_mixed) (defBody s__law_mixed)
      (defScope s__law_mixed) .none kV18 dc18 pm18 an18 cd18 ct18), sl18⟩)
    (c18 : PySem.W.codeIn K cd18 "_law_mixed" = true) (k18 : PySem.W.keepIn K (.ref f18) = true)
    (a19 : PySem.W.nsIn K mainGlobals "_law_pairs" = some (some (.ref f19)))
    (l19 : K.lookup f19 = some ⟨oc19, od19, .func (PySem.W.fnOf "_law_pairs" "_law_pairs" (defArgs s__law_pairs) (defBody s__law_pairs)
      (defScope s__law_pairs) .none kV19 dc19 pm19 an19 cd19 ct19), sl19⟩)
    (c19 : PySem.W.codeIn K cd19 "_law_pairs" = true) (k19 : PySem.W.keepIn K (.ref f19) = true)
    (a20 : PySem.W.nsIn K mainGlobals "_law_closed" = some (some (.ref f20)))
    (l20 : K.lookup f20 = some ⟨oc20, od20, .func (PySem.W.fnOf "_law_closed" "_law_closed" (defArgs s__law_closed) (defBody s__law_closed)
      (defScope s__law_closed) .none kV20 dc20 pm20 an20 cd20 ct20), sl20⟩)
    (c20 : PySem.W.codeIn K cd20 "_law_closed" = true) (k20 : PySem.W.keepIn K (.ref f20) = true)
    (a21 : PySem.W.nsIn K mainGlobals "_law_told" = some (some (.ref f21)))
    (l21 : K.lookup f21 = some ⟨oc21, od21, .func (PySem.W.fnOf "_law_told" "_law_told" (defArgs s__law_told) (defBody s__law_told)
      (defScope s__law_told) .none kV21 dc21 pm21 an21 cd21 ct21), sl21⟩)
    (c21 : PySem.W.codeIn K cd21 "_law_told" = true) (k21 : PySem.W.keepIn K (.ref f21) = true)
    (a22 : PySem.W.nsIn K mainGlobals "_law_is_ring" = some (some (.ref f22)))
    (l22 : K.lookup f22 = some ⟨oc22, od22, .func (PySem.W.fnOf "_law_is_ring" "_law_is_ring" (defArgs s__law_is_ring) (defBody s__law_is_ring)
      (defScope s__law_is_ring) .none kV22 dc22 pm22 an22 cd22 ct22), sl22⟩)
    (c22 : PySem.W.codeIn K cd22 "_law_is_ring" = true) (k22 : PySem.W.keepIn K (.ref f22) = true)
    (z_abs : PySem.W.nsIn K mainGlobals "abs" = some none)
    (z_all : PySem.W.nsIn K mainGlobals "all" = some none)
    (z_any : PySem.W.nsIn K mainGlobals "any" = some none)
    (z_bool : PySem.W.nsIn K mainGlobals "bool" = some none)
    (z_int : PySem.W.nsIn K mainGlobals "int" = some none)
    (z_isinstance : PySem.W.nsIn K mainGlobals "isinstance" = some none)
    (z_len : PySem.W.nsIn K mainGlobals "len" = some none)
    (z_list : PySem.W.nsIn K mainGlobals "list" = some none)
    (z_max : PySem.W.nsIn K mainGlobals "max" = some none)
    (z_min : PySem.W.nsIn K mainGlobals "min" = some none)
    (z_range : PySem.W.nsIn K mainGlobals "range" = some none)
    (z_repr : PySem.W.nsIn K mainGlobals "repr" = some none)
    (z_set : PySem.W.nsIn K mainGlobals "set" = some none)
    (z_sorted : PySem.W.nsIn K mainGlobals "sorted" = some none)
    (z_tuple : PySem.W.nsIn K mainGlobals "tuple" = some none)
    (z_zip : PySem.W.nsIn K mainGlobals "zip" = some none)
    {q5 p5 : Addr} {oq5 : Value} {dq5 : Option Addr} {sq5 : Array (Option Value)} {vs5 : Array Value}
    (r5 : cd5 = .ref q5)
    (w5 : K.lookup q5 = some ⟨oq5, dq5, .fields vs5, sq5⟩)
    (v5 : vs5[11]? = some (.ref p5))
    (n5 : K.lookup p5 = none)
    {q7 p7 : Addr} {oq7 : Value} {dq7 : Option Addr} {sq7 : Array (Option Value)} {vs7 : Array Value}
    (r7 : cd7 = .ref q7)
    (w7 : K.lookup q7 = some ⟨oq7, dq7, .fields vs7, sq7⟩)
    (v7 : vs7[11]? = some (.ref p7))
    (n7 : K.lookup p7 = none)
    {q8 p8 : Addr} {oq8 : Value} {dq8 : Option Addr} {sq8 : Array (Option Value)} {vs8 : Array Value}
    (r8 : cd8 = .ref q8)
    (w8 : K.lookup q8 = some ⟨oq8, dq8, .fields vs8, sq8⟩)
    (v8 : vs8[11]? = some (.ref p8))
    (n8 : K.lookup p8 = none)
    {q9 p9 : Addr} {oq9 : Value} {dq9 : Option Addr} {sq9 : Array (Option Value)} {vs9 : Array Value}
    (r9 : cd9 = .ref q9)
    (w9 : K.lookup q9 = some ⟨oq9, dq9, .fields vs9, sq9⟩)
    (v9 : vs9[11]? = some (.ref p9))
    (n9 : K.lookup p9 = none)
    {q10 p10 : Addr} {oq10 : Value} {dq10 : Option Addr} {sq10 : Array (Option Value)} {vs10 : Array Value}
    (r10 : cd10 = .ref q10)
    (w10 : K.lookup q10 = some ⟨oq10, dq10, .fields vs10, sq10⟩)
    (v10 : vs10[11]? = some (.ref p10))
    (n10 : K.lookup p10 = none)
    {q12 p12 : Addr} {oq12 : Value} {dq12 : Option Addr} {sq12 : Array (Option Value)} {vs12 : Array Value}
    (r12 : cd12 = .ref q12)
    (w12 : K.lookup q12 = some ⟨oq12, dq12, .fields vs12, sq12⟩)
    (v12 : vs12[11]? = some (.ref p12))
    (n12 : K.lookup p12 = none)
    {q0 p0 : Addr} {oq0 : Value} {dq0 : Option Addr} {sq0 : Array (Option Value)} {vs0 : Array Value}
    (r0 : cd0 = .ref q0)
    (w0 : K.lookup q0 = some ⟨oq0, dq0, .fields vs0, sq0⟩)
    (v0 : vs0[11]? = some (.ref p0))
    (n0 : K.lookup p0 = none)
    (nd : [p0].Nodup)
    (dis : ∀ p ∈ [p0], p ∉ ([p5, p7, p8, p9, p10, p12] : List Addr))
    {ALookError : Addr}
    (gBLookError : PySem.W.nsIn K mainGlobals "LookError" = some (some (.ref ALookError)))
    (kBLookError : PySem.W.keepIn K (.ref ALookError) = true)
    (tBLookError : PySem.W.typeIn K (.ref ALookError) = some (.type "type"))
    (rBLookError : PySem.W.readsIn K ALookError (.type "type") = true)
    (sBLookError : PySem.W.specialIn K (.ref ALookError) "__getattribute__" = some (some (.builtin "type.__getattribute__")))
    (iBLookError : PySem.W.findCls K (.ref ALookError) (.type "type") "__init__" = some (.val (.builtin "ValueError.__init__")))
    {C0 : Addr}
    (g0 : PySem.W.nsIn K mainGlobals "InvalidOrder" = some (some (.ref C0)))
    (ga0 : PySem.W.findIn K (.ref C0) "__getattribute__" = some (some (.builtin "BaseException.__getattribute__")))
    (gg0 : PySem.W.findIn K (.ref C0) "__getattr__" = some none)
    (xc0 : PySem.W.subIn K (.ref C0) (.type "BaseException") = some true)
    (hd0 : PySem.W.hasDictIn K C0 = true)
    (no0 : PySem.W.findIn K (.ref C0) "at" = some none)
    (ty0 : PySem.W.typeIn K (.ref C0) = some (.type "type"))
    (kc0 : PySem.W.keepIn K (.ref C0) = true)
    {nm0 q_0 : Str} {N0 : Addr} {bs0 bm0 : List Value} {sn0 : List Str} {sub0 : List Value} {ab0 : Bool} {col0 : Option Bool} {dd0 : Option Addr} {p0_0 p0_1 p0_2 p0_3 p0_5 : Option Value}
    (L0 : K.lookup C0 = some (excClassObj nm0 q_0 C0 N0 bs0 bm0 true sn0 sub0 ab0 col0 dd0 p0_0 p0_1 p0_2 p0_3 p0_5 "ValueError.__new__"))
    (R0 : PySem.HandSPX.refsVE bm0 = true)
    (sa0 : PySem.W.findIn K (.ref C0) "__setattr__" = some (some (.builtin "object.__setattr__")))
    {I0 : Addr} {iod0 ian0 : Option Addr} {isl0 : Array (Option Value)} {ioc0 ikV0 idc0 ipm0 icd0 ict0 : Value}
    (iC0 : PySem.W.findIn K (.ref C0) "__init__" = some (some (.ref I0)))
    (tI0 : PySem.W.typeIn K (.ref I0) = some (.type "function"))
    (il0 : K.lookup I0 = some ⟨ioc0, iod0, .func (PySem.W.fnOf "__init__" "InvalidOrder.__init__" (defArgs s_InvalidOrder___init__) (defBody s_InvalidOrder___init__)
      (defScope s_InvalidOrder___init__) .none ikV0 idc0 ipm0 ian0 icd0 ict0), isl0⟩)
    (ic0 : PySem.W.codeIn K icd0 "InvalidOrder.__init__" = true)
    (ik0 : PySem.W.keepIn K (.ref I0) = true)
    (sm0 : PySem.W.subIn K (.ref C0) (.ref C0) = some true)
    {u_MOST_LEVELS : Tok}
    (aS_MOST_LEVELS : PySem.W.nsIn K mainGlobals "MOST_LEVELS" = some (some (.int 12 u_MOST_LEVELS))) :
    ∃ (fd : FuncData) (cs ls : List (Addr × Addr)) (sp : Sp), (∀ p ∈ cs ++ ls, h.get? p.2 = some { cls := .none, data := .fields #[] } ∧ K.lookup p.2 = none ∧ PySem.W.CodeHd h p.1 p.2) ∧ (∀ p ∈ ls, p.2 ∉ cs.map (·.2)) ∧
      (∀ (s : Shared) (v : Value), BindsTo s fd ⟨[v], []⟩ [("script", v)]) ∧
      (∀ base : Heap, K.In base → base.Ns mainGlobals mg → (∀ p ∈ cs, GxR.TabB base mg p.1 p.2) → (∀ p ∈ ls, LamX.TabB base mg p.1 p.2) → FnG l.prog w K mg base 12 fa fd ["script"] sp) ∧
      (∀ (H : Hp) (a : Addr) (ns : List Int), ns.length ≤ 63 → Zc.Tabs cs H → Lams ls H → SqL K H a (ns.map V.int) → sp [.ref a] H (fun v H' => v = .bl true ∧ Zc.Tabs cs H') fun _ _ _ => False) := by
  have e := hfa.symm.trans (PySem.W.mg_of X G a0)
  cases e
  subst r5
  subst r7
  subst r8
  subst r9
  subst r10
  subst r12
  subst r0
  have F0 := fun_mk (st := s_law) l0 c0 k0
  have D0 : At K mg "law" s_law ["script"] fa _ := ⟨F0, PySem.W.mg_of X G a0,
    F0.binds (ps := ["script"]) fun _ _ _ _ _ _ us hl => match us, hl with | [_], _ => rfl⟩
  have F1 := fun_mk (st := s_is_integer) l1 c1 k1
  have D1 : At K mg "is_integer" s_is_integer ["value"] f1 _ := ⟨F1, PySem.W.mg_of X G a1,
    F1.binds (ps := ["value"]) fun _ _ _ _ _ _ us hl => match us, hl with | [_], _ => rfl⟩
  have F2 := fun_mk (st := s_is_number) l2 c2 k2
  have D2 : At K mg "is_number" s_is_number ["value"] f2 _ := ⟨F2, PySem.W.mg_of X G a2,
    F2.binds (ps := ["value"]) fun _ _ _ _ _ _ us hl => match us, hl with | [_], _ => rfl⟩
  have F3 := fun_mk (st := s_is_sequence) l3 c3 k3
  have D3 : At K mg "is_sequence" s_is_sequence ["value"] f3 _ := ⟨F3, PySem.W.mg_of X G a3,
    F3.binds (ps := ["value"]) fun _ _ _ _ _ _ us hl => match us, hl with | [_], _ => rfl⟩
  have F4 := fun_mk (st := s_is_tuple_of) l4 c4 k4
  have D4 : At K mg "is_tuple_of" s_is_tuple_of ["value", "many"] f4 _ := ⟨F4, PySem.W.mg_of X G a4,
    F4.binds (ps := ["value", "many"]) fun _ _ _ _ _ _ us hl => match us, hl with | [_, _], _ => rfl⟩
  have F5 := fun_mk (st := s_is_ascending) l5 c5 k5
  have D5 : At K mg "is_ascending" s_is_ascending ["things"] f5 _ := ⟨F5, PySem.W.mg_of X G a5,
    F5.binds (ps := ["things"]) fun _ _ _ _ _ _ us hl => match us, hl with | [_], _ => rfl⟩
  have F6 := fun_mk (st := s_is_level) l6 c6 k6
  have D6 : At K mg "is_level" s_is_level ["levels", "value"] f6 _ := ⟨F6, PySem.W.mg_of X G a6,
    F6.binds (ps := ["levels", "value"]) fun _ _ _ _ _ _ us hl => match us, hl with | [_, _], _ => rfl⟩
  have F7 := fun_mk (st := s_is_lot) l7 c7 k7
  have D7 : At K mg "is_lot" s_is_lot ["order", "value"] f7 _ := ⟨F7, PySem.W.mg_of X G a7,
    F7.binds (ps := ["order", "value"]) fun _ _ _ _ _ _ us hl => match us, hl with | [_, _], _ => rfl⟩
  have F8 := fun_mk (st := s_is_order) l8 c8 k8
  have D8 : At K mg "is_order" s_is_order ["value"] f8 _ := ⟨F8, PySem.W.mg_of X G a8,
    F8.binds (ps := ["value"]) fun _ _ _ _ _ _ us hl => match us, hl with | [_], _ => rfl⟩
  have F9 := fun_mk (st := s_is_level_right) l9 c9 k9
  have D9 : At K mg "is_level_right" s_is_level_right ["order", "level"] f9 _ := ⟨F9, PySem.W.mg_of X G a9,
    F9.binds (ps := ["order", "level"]) fun _ _ _ _ _ _ us hl => match us, hl with | [_, _], _ => rfl⟩
  have F10 := fun_mk (st := s_check_relations) l10 c10 k10
  have D10 : At K mg "check_relations" s_check_relations ["levels", "pairs"] f10 _ := ⟨F10, PySem.W.mg_of X G a10,
    F10.binds (ps := ["levels", "pairs"]) fun _ _ _ _ _ _ us hl => match us, hl with | [_, _], _ => rfl⟩
  have F11 := fun_mk (st := s_relations_of) l11 c11 k11
  have D11 : At K mg "relations_of" s_relations_of ["levels", "pairs"] f11 _ := ⟨F11, PySem.W.mg_of X G a11,
    F11.binds (ps := ["levels", "pairs"]) fun _ _ _ _ _ _ us hl => match us, hl with | [_, _], _ => rfl⟩
  have F12 := fun_mk (st := s_order_of) l12 c12 k12
  have D12 : At K mg "order_of" s_order_of ["levels", "pairs"] f12 _ := ⟨F12, PySem.W.mg_of X G a12,
    F12.binds (ps := ["levels", "pairs"]) fun _ _ _ _ _ _ us hl => match us, hl with | [_, _], _ => rfl⟩
  have F13 := fun_mk (st := s_ring_of) l13 c13 k13
  have D13 : At K mg "ring_of" s_ring_of ["levels", "pairs"] f13 _ := ⟨F13, PySem.W.mg_of X G a13,
    F13.binds (ps := ["levels", "pairs"]) fun _ _ _ _ _ _ us hl => match us, hl with | [_, _], _ => rfl⟩
  have F14 := fun_mk (st := s_ring_from) l14 c14 k14
  have D14 : At K mg "ring_from" s_ring_from ["nexts", "start"] f14 _ := ⟨F14, PySem.W.mg_of X G a14,
    F14.binds (ps := ["nexts", "start"]) fun _ _ _ _ _ _ us hl => match us, hl with | [_, _], _ => rfl⟩
  have F15 := fun_mk (st := s__law_draw) l15 c15 k15
  have D15 : At K mg "_law_draw" s__law_draw ["script", "salt"] f15 _ := ⟨F15, PySem.W.mg_of X G a15,
    F15.binds (ps := ["script", "salt"]) fun _ _ _ _ _ _ us hl => match us, hl with | [_, _], _ => rfl⟩
  have F16 := fun_mk (st := s__law_any) l16 c16 k16
  have D16 : At K mg "_law_any" s__law_any ["deal", "bound"] f16 _ := ⟨F16, PySem.W.mg_of X G a16,
    F16.binds (ps := ["deal", "bound"]) fun _ _ _ _ _ _ us hl => match us, hl with | [_, _], _ => rfl⟩
  have F17 := fun_mk (st := s__law_of) l17 c17 k17
  have D17 : At K mg "_law_of" s__law_of ["deal", "some"] f17 _ := ⟨F17, PySem.W.mg_of X G a17,
    F17.binds (ps := ["deal", "some"]) fun _ _ _ _ _ _ us hl => match us, hl with | [_, _], _ => rfl⟩
  have F18 := fun_mk (st := s__law_mixed) l18 c18 k18
  have D18 : At K mg "_law_mixed" s__law_mixed ["deal", "some"] f18 _ := ⟨F18, PySem.W.mg_of X G a18,
    F18.binds (ps := ["deal", "some"]) fun _ _ _ _ _ _ us hl => match us, hl with | [_, _], _ => rfl⟩
  have F19 := fun_mk (st := s__law_pairs) l19 c19 k19
  have D19 : At K mg "_law_pairs" s__law_pairs ["deal", "many"] f19 _ := ⟨F19, PySem.W.mg_of X G a19,
    F19.binds (ps := ["deal", "many"]) fun _ _ _ _ _ _ us hl => match us, hl with | [_, _], _ => rfl⟩
  have F20 := fun_mk (st := s__law_closed) l20 c20 k20
  have D20 : At K mg "_law_closed" s__law_closed ["many", "pairs"] f20 _ := ⟨F20, PySem.W.mg_of X G a20,
    F20.binds (ps := ["many", "pairs"]) fun _ _ _ _ _ _ us hl => match us, hl with | [_, _], _ => rfl⟩
  have F21 := fun_mk (st := s__law_told) l21 c21 k21
  have D21 : At K mg "_law_told" s__law_told ["work"] f21 _ := ⟨F21, PySem.W.mg_of X G a21,
    F21.binds (ps := ["work"]) fun _ _ _ _ _ _ us hl => match us, hl with | [_], _ => rfl⟩
  have F22 := fun_mk (st := s__law_is_ring) l22 c22 k22
  have D22 : At K mg "_law_is_ring" s__law_is_ring ["pairs", "ring"] f22 _ := ⟨F22, PySem.W.mg_of X G a22,
    F22.binds (ps := ["pairs", "ring"]) fun _ _ _ _ _ _ us hl => match us, hl with | [_, _], _ => rfl⟩
  have O5 := own "is_ascending" (by simp) f5 q5 p5 _ _ _ _ (PySem.W.mg_of X G a5) l5 rfl rfl w5 rfl v5
  have O7 := own "is_lot" (by simp) f7 q7 p7 _ _ _ _ (PySem.W.mg_of X G a7) l7 rfl rfl w7 rfl v7
  have O8 := own "is_order" (by simp) f8 q8 p8 _ _ _ _ (PySem.W.mg_of X G a8) l8 rfl rfl w8 rfl v8
  have O9 := own "is_level_right" (by simp) f9 q9 p9 _ _ _ _ (PySem.W.mg_of X G a9) l9 rfl rfl w9 rfl v9
  have O10 := own "check_relations" (by simp) f10 q10 p10 _ _ _ _ (PySem.W.mg_of X G a10) l10 rfl rfl w10 rfl v10
  have O12 := own "order_of" (by simp) f12 q12 p12 _ _ _ _ (PySem.W.mg_of X G a12) l12 rfl rfl w12 rfl v12
  have O0 := own "law" (by simp) fa q0 p0 _ _ _ _ (PySem.W.mg_of X G a0) l0 rfl rfl w0 rfl v0
  have IF0 : Fun K "__init__" "InvalidOrder.__init__" s_InvalidOrder___init__ I0 _ := fun_mk (st := s_InvalidOrder___init__) il0 ic0 ik0
  have E0 : ErrC K mg "InvalidOrder" "InvalidOrder.__init__" s_InvalidOrder___init__ C0 I0 _ := ⟨PySem.W.mg_of X G g0, ⟨⟨_, _, _, _, _, _, _, _, _, _, _, _, _, _, _, L0, R0⟩, sa0, xc0, ty0, kc0⟩, ⟨ga0, gg0, xc0, hd0⟩, no0, iC0, tI0, IF0,
    IF0.binds (ps := ["self", "at"]) fun _ _ _ _ _ _ us hl => match us, hl with | [_, _], _ => rfl, PySem.W.exm_ref xc0 hd0 ty0 sm0⟩
  refine ⟨PySem.W.fnOf "law" "law" (defArgs s_law) (defBody s_law) (defScope s_law) .none kV0 dc0 pm0 an0 (.ref q0) ct0, [(q5, p5), (q7, p7), (q8, p8), (q9, p9), (q10, p10), (q12, p12)], [(q0, p0)], spLawL K [(q5, p5), (q7, p7), (q8, p8), (q9, p9), (q10, p10), (q12, p12)] [(q0, p0)], fun p hp => ?_, ?_, fun s v => .of_eq rfl, fun base _ _ TB LB => ?_, fun H a ns hl hT hL hS => ⟨a, ns, rfl, hT, hL, hS, hl, fun H' h => ⟨rfl, h⟩⟩⟩
  · simp only [List.mem_append, List.mem_cons, List.not_mem_nil, or_false] at hp
    rcases hp with (rfl | rfl | rfl | rfl | rfl | rfl) | (rfl)
    · exact ⟨O5.1, n5, O5.2⟩
    · exact ⟨O7.1, n7, O7.2⟩
    · exact ⟨O8.1, n8, O8.2⟩
    · exact ⟨O9.1, n9, O9.2⟩
    · exact ⟨O10.1, n10, O10.2⟩
    · exact ⟨O12.1, n12, O12.2⟩
    · exact ⟨O0.1, n0, O0.2⟩
  · simpa using dis
  · let C : Cn K mg base := {
      f_is_integer := f1,
      fd_is_integer := _,
      D_is_integer := D1,
      f_is_number := f2,
      fd_is_number := _,
      D_is_number := D2,
      f_is_sequence := f3,
      fd_is_sequence := _,
      D_is_sequence := D3,
      f_is_tuple_of := f4,
      fd_is_tuple_of := _,
      D_is_tuple_of := D4,
      f_is_ascending := f5,
      fd_is_ascending := _,
      D_is_ascending := D5,
      c_is_ascending := q5,
      code_is_ascending := rfl,
      p_is_ascending := p5,
      tab_is_ascending := TB (q5, p5) (by simp),
      f_is_level := f6,
      fd_is_level := _,
      D_is_level := D6,
      f_is_lot := f7,
      fd_is_lot := _,
      D_is_lot := D7,
      c_is_lot := q7,
      code_is_lot := rfl,
      p_is_lot := p7,
      tab_is_lot := TB (q7, p7) (by simp),
      f_is_order := f8,
      fd_is_order := _,
      D_is_order := D8,
      c_is_order := q8,
      code_is_order := rfl,
      p_is_order := p8,
      tab_is_order := TB (q8, p8) (by simp),
      f_is_level_right := f9,
      fd_is_level_right := _,
      D_is_level_right := D9,
      c_is_level_right := q9,
      code_is_level_right := rfl,
      p_is_level_right := p9,
      tab_is_level_right := TB (q9, p9) (by simp),
      f_check_relations := f10,
      fd_check_relations := _,
      D_check_relations := D10,
      c_check_relations := q10,
      code_check_relations := rfl,
      p_check_relations := p10,
      tab_check_relations := TB (q10, p10) (by simp),
      f_relations_of := f11,
      fd_relations_of := _,
      D_relations_of := D11,
      f_order_of := f12,
      fd_order_of := _,
      D_order_of := D12,
      c_order_of := q12,
      code_order_of := rfl,
      p_order_of := p12,
      tab_order_of := TB (q12, p12) (by simp),
      f_ring_of := f13,
      fd_ring_of := _,
      D_ring_of := D13,
      f_ring_from := f14,
      fd_ring_from := _,
      D_ring_from := D14,
      f__law_draw := f15,
      fd__law_draw := _,
      D__law_draw := D15,
      f__law_any := f16,
      fd__law_any := _,
      D__law_any := D16,
      f__law_of := f17,
      fd__law_of := _,
      D__law_of := D17,
      f__law_mixed := f18,
      fd__law_mixed := _,
      D__law_mixed := D18,
      f__law_pairs := f19,
      fd__law_pairs := _,
      D__law_pairs := D19,
      f__law_closed := f20,
      fd__law_closed := _,
      D__law_closed := D20,
      f__law_told := f21,
      fd__law_told := _,
      D__law_told := D21,
      f__law_is_ring := f22,
      fd__law_is_ring := _,
      D__law_is_ring := D22,
      f_law := fa,
      fd_law := _,
      D_law := D0,
      c_law := q0,
      code_law := rfl,
      p_law := p0,
      lam_law := LB (q0, p0) (by simp),
      nd_lams := nd,
      dis_lams := dis,
      a_LookError := ALookError,
      b_LookError := ⟨PySem.W.mg_of X G gBLookError, kBLookError, tBLookError, rBLookError, sBLookError, iBLookError⟩,
      C_InvalidOrder := C0,
      i_InvalidOrder := I0,
      fi_InvalidOrder := _,
      E_InvalidOrder := E0,
      m_abs := PySem.W.mg_none_of X G z_abs,
      m_all := PySem.W.mg_none_of X G z_all,
      m_any := PySem.W.mg_none_of X G z_any,
      m_bool := PySem.W.mg_none_of X G z_bool,
      m_int := PySem.W.mg_none_of X G z_int,
      m_isinstance := PySem.W.mg_none_of X G z_isinstance,
      m_len := PySem.W.mg_none_of X G z_len,
      m_list := PySem.W.mg_none_of X G z_list,
      m_max := PySem.W.mg_none_of X G z_max,
      m_min := PySem.W.mg_none_of X G z_min,
      m_range := PySem.W.mg_none_of X G z_range,
      m_repr := PySem.W.mg_none_of X G z_repr,
      m_set := PySem.W.mg_none_of X G z_set,
      m_sorted := PySem.W.mg_none_of X G z_sorted,
      m_tuple := PySem.W.mg_none_of X G z_tuple,
      m_zip := PySem.W.mg_none_of X G z_zip,
      t_MOST_LEVELS := u_MOST_LEVELS,
      g_MOST_LEVELS := PySem.W.mg_of X G aS_MOST_LEVELS }
    exact ok_law (P := l.prog) (w := w) C
end K01
open PySem PySem.W PyProof.Rows
set_option maxRecDepth 100000 in
set_option maxHeartbeats 0 in
theorem PySem.Challenge.cw_lookalike_k01_orders_and_rings_holds : PySem.Challenge.rw_lookalike_k01_orders_and_rings.Holds := by
  w_on; o_law; k_head; (case hw => w_witness2)
  k_fill
  refine Zd.walkGTL (l := PySem.Challenge.rw_lookalike_k01_orders_and_rings) (n := 63) (k := 12) (x := "script") ["is_ascending", "is_lot", "is_order", "is_level_right", "check_relations", "order_of", "law"] rfl (by decide) rfl
    ⟨rfl, by decide, by decide⟩ (fun w h Y => by first | exact PySem.W.kIn_of Y | exact PySem.W.km_in_of Y) (by decide +kernel) ?F
  case F =>
    intro w mg fa h KX G hmg own
    refine' K01.all_mk KX G hmg own ?zz_a0 ?zz_l0 ?zz_c0 ?zz_k0 ?zz_a1 ?zz_l1 ?zz_c1 ?zz_k1 ?zz_a2 ?zz_l2 ?zz_c2 ?zz_k2 ?zz_a3 ?zz_l3 ?zz_c3 ?zz_k3 ?zz_a4 ?zz_l4 ?zz_c4 ?zz_k4 ?zz_a5 ?zz_l5 ?zz_c5 ?zz_k5 ?zz_a6 ?zz_l6 ?zz_c6 ?zz_k6 ?zz_a7 ?zz_l7 ?zz_c7 ?zz_k7 ?zz_a8 ?zz_l8 ?zz_c8 ?zz_k8 ?zz_a9 ?zz_l9 ?zz_c9 ?zz_k9 ?zz_a10 ?zz_l10 ?zz_c10 ?zz_k10 ?zz_a11 ?zz_l11 ?zz_c11 ?zz_k11 ?zz_a12 ?zz_l12 ?zz_c12 ?zz_k12 ?zz_a13 ?zz_l13 ?zz_c13 ?zz_k13 ?zz_a14 ?zz_l14 ?zz_c14 ?zz_k14 ?zz_a15 ?zz_l15 ?zz_c15 ?zz_k15 ?zz_a16 ?zz_l16 ?zz_c16 ?zz_k16 ?zz_a17 ?zz_l17 ?zz_c17 ?zz_k17 ?zz_a18 ?zz_l18 ?zz_c18 ?zz_k18 ?zz_a19 ?zz_l19 ?zz_c19 ?zz_k19 ?zz_a20 ?zz_l20 ?zz_c20 ?zz_k20 ?zz_a21 ?zz_l21 ?zz_c21 ?zz_k21 ?zz_a22 ?zz_l22 ?zz_c22 ?zz_k22 ?zz_z_abs ?zz_z_all ?zz_z_any ?zz_z_bool ?zz_z_int ?zz_z_isinstance ?zz_z_len ?zz_z_list ?zz_z_max ?zz_z_min ?zz_z_range ?zz_z_repr ?zz_z_set ?zz_z_sorted ?zz_z_tuple ?zz_z_zip ?zz_r5 ?zz_w5 ?zz_v5 ?zz_n5 ?zz_r7 ?zz_w7 ?zz_v7 ?zz_n7 ?zz_r8 ?zz_w8 ?zz_v8 ?zz_n8 ?zz_r9 ?zz_w9 ?zz_v9 ?zz_n9 ?zz_r10 ?zz_w10 ?zz_v10 ?zz_n10 ?zz_r12 ?zz_w12 ?zz_v12 ?zz_n12 ?zz_r0 ?zz_w0 ?zz_v0 ?zz_n0 ?zz_nd ?zz_dis ?zz_gBLookError ?zz_kBLookError ?zz_tBLookError ?zz_rBLookError ?zz_sBLookError ?zz_iBLookError ?zz_g0 ?zz_ga0 ?zz_gg0 ?zz_xc0 ?zz_hd0 ?zz_no0 ?zz_ty0 ?zz_kc0 ?zz_L0 ?zz_R0 ?zz_sa0 ?zz_iC0 ?zz_tI0 ?zz_il0 ?zz_ic0 ?zz_ik0 ?zz_sm0 ?zz_aS_MOST_LEVELS
    (case zz_a0 => k_is)
    (case zz_l0 => k_is)
    (case zz_c0 => k_is)
    (case zz_k0 => k_is)
    (case zz_a1 => k_is)
    (case zz_l1 => k_is)
    (case zz_c1 => k_is)
    (case zz_k1 => k_is)
    (case zz_a2 => k_is)
    (case zz_l2 => k_is)
    (case zz_c2 => k_is)
    (case zz_k2 => k_is)
    (case zz_a3 => k_is)
    (case zz_l3 => k_is)
    (case zz_c3 => k_is)
    (case zz_k3 => k_is)
    (case zz_a4 => k_is)
    (case zz_l4 => k_is)
    (case zz_c4 => k_is)
    (case zz_k4 => k_is)
    (case zz_a5 => k_is)
    (case zz_l5 => k_is)
    (case zz_c5 => k_is)
    (case zz_k5 => k_is)
    (case zz_a6 => k_is)
    (case zz_l6 => k_is)
    (case zz_c6 => k_is)
    (case zz_k6 => k_is)
    (case zz_a7 => k_is)
    (case zz_l7 => k_is)
    (case zz_c7 => k_is)
    (case zz_k7 => k_is)
    (case zz_a8 => k_is)
    (case zz_l8 => k_is)
    (case zz_c8 => k_is)
    (case zz_k8 => k_is)
    (case zz_a9 => k_is)
    (case zz_l9 => k_is)
    (case zz_c9 => k_is)
    (case zz_k9 => k_is)
    (case zz_a10 => k_is)
    (case zz_l10 => k_is)
    (case zz_c10 => k_is)
    (case zz_k10 => k_is)
    (case zz_a11 => k_is)
    (case zz_l11 => k_is)
    (case zz_c11 => k_is)
    (case zz_k11 => k_is)
    (case zz_a12 => k_is)
    (case zz_l12 => k_is)
    (case zz_c12 => k_is)
    (case zz_k12 => k_is)
    (case zz_a13 => k_is)
    (case zz_l13 => k_is)
    (case zz_c13 => k_is)
    (case zz_k13 => k_is)
    (case zz_a14 => k_is)
    (case zz_l14 => k_is)
    (case zz_c14 => k_is)
    (case zz_k14 => k_is)
    (case zz_a15 => k_is)
    (case zz_l15 => k_is)
    (case zz_c15 => k_is)
    (case zz_k15 => k_is)
    (case zz_a16 => k_is)
    (case zz_l16 => k_is)
    (case zz_c16 => k_is)
    (case zz_k16 => k_is)
    (case zz_a17 => k_is)
    (case zz_l17 => k_is)
    (case zz_c17 => k_is)
    (case zz_k17 => k_is)
    (case zz_a18 => k_is)
    (case zz_l18 => k_is)
    (case zz_c18 => k_is)
    (case zz_k18 => k_is)
    (case zz_a19 => k_is)
    (case zz_l19 => k_is)
    (case zz_c19 => k_is)
    (case zz_k19 => k_is)
    (case zz_a20 => k_is)
    (case zz_l20 => k_is)
    (case zz_c20 => k_is)
    (case zz_k20 => k_is)
    (case zz_a21 => k_is)
    (case zz_l21 => k_is)
    (case zz_c21 => k_is)
    (case zz_k21 => k_is)
    (case zz_a22 => k_is)
    (case zz_l22 => k_is)
    (case zz_c22 => k_is)
    (case zz_k22 => k_is)
    (case zz_z_abs => k_is)
    (case zz_z_all => k_is)
    (case zz_z_any => k_is)
    (case zz_z_bool => k_is)
    (case zz_z_int => k_is)
    (case zz_z_isinstance => k_is)
    (case zz_z_len => k_is)
    (case zz_z_list => k_is)
    (case zz_z_max => k_is)
    (case zz_z_min => k_is)
    (case zz_z_range => k_is)
    (case zz_z_repr => k_is)
    (case zz_z_set => k_is)
    (case zz_z_sorted => k_is)
    (case zz_z_tuple => k_is)
    (case zz_z_zip => k_is)
    (case zz_r5 => rfl)
    (case zz_w5 => k_is)
    (case zz_v5 => first | rfl | k_is)
    (case zz_n5 => first | k_is | rfl)
    (case zz_r7 => rfl)
    (case zz_w7 => k_is)
    (case zz_v7 => first | rfl | k_is)
    (case zz_n7 => first | k_is | rfl)
    (case zz_r8 => rfl)
    (case zz_w8 => k_is)
    (case zz_v8 => first | rfl | k_is)
    (case zz_n8 => first | k_is | rfl)
    (case zz_r9 => rfl)
    (case zz_w9 => k_is)
    (case zz_v9 => first | rfl | k_is)
    (case zz_n9 => first | k_is | rfl)
    (case zz_r10 => rfl)
    (case zz_w10 => k_is)
    (case zz_v10 => first | rfl | k_is)
    (case zz_n10 => first | k_is | rfl)
    (case zz_r12 => rfl)
    (case zz_w12 => k_is)
    (case zz_v12 => first | rfl | k_is)
    (case zz_n12 => first | k_is | rfl)
    (case zz_r0 => rfl)
    (case zz_w0 => k_is)
    (case zz_v0 => first | rfl | k_is)
    (case zz_n0 => first | k_is | rfl)
    (case zz_nd => decide)
    (case zz_dis => decide)
    (case zz_gBLookError => k_is)
    (case zz_kBLookError => k_is)
    (case zz_tBLookError => k_is)
    (case zz_rBLookError => k_is)
    (case zz_sBLookError => k_is)
    (case zz_iBLookError => k_is)
    (case zz_g0 => k_is)
    (case zz_ga0 => k_is)
    (case zz_gg0 => k_is)
    (case zz_xc0 => k_is)
    (case zz_hd0 => k_is)
    (case zz_no0 => k_is)
    (case zz_ty0 => k_is)
    (case zz_kc0 => k_is)
    (case zz_L0 => k_is)
    (case zz_R0 => decide +kernel)
    (case zz_sa0 => k_is)
    (case zz_iC0 => k_is)
    (case zz_tI0 => k_is)
    (case zz_il0 => k_is)
    (case zz_ic0 => k_is)
    (case zz_ik0 => k_is)
    (case zz_sm0 => k_is)
    (case zz_aS_MOST_LEVELS => k_is)
end
