import PyProof.Rows.All
import Wide.All
import OpenK.AllK
import Wide.FinOn
import HandS.ForMost
import HandS.EndBits
import HandS.ExcInit
import HandS.MakeKw
import HandS.IsInst
import KE.KExcIs
import HandS.ExcField
import HandS.ExcIs
import HandS.ExcValue
import HandS.Evl
import HandS.Wide
import HandS.WideBits
import HandS.Defaults
import HandS.HeadHook1
import HandS.HeadHook2
import HandS.Head0
import HandS.Head1
import HandS.Head2
import HandS.Head3
import HandS.Style
import PyProof.EqKinds
import HandS.ExcOwn
import HandS.WordsExc
import HandS.Conv
import HandS.Comp
import HandS.CallLocal
import HandS.OwnEq
import PyProof.InstEq
import HandS.TupAny
import HandS.Walk
import KE.SortData
import KE.KDictKeyed
import HandS.Dict
import PyProof.NeKinds
import HandS.Text
import PySem.Challenge.RW_callersrights_k24_runs_and_outcomes_refu
set_option Elab.async false
set_option maxRecDepth 100000
set_option linter.all false
set_option maxHeartbeats 2000000
/-! KitA: a def's promise where no repr is under way around it (guards), and sysModules is held fast. -/
namespace Kx
open PySem PySem.Spec PyProof.Rows L2

/-- a promise that may ask that nothing is being shown around the call -/
structure GnOk (P : Program) (w : World) (K : PySem.W.Frag) (mg : Str → Option Value) (base : Heap)
    (CX : CXT) (k : Nat) (f : Addr) (fd : FuncData) (ps : List Str) (sp : Sp) : Prop where
  len : ∀ vs H Q E, sp vs H Q E → vs.length = ps.length
  run : ∀ (A : Around) (outer : List Env) (s : Shared) (H : Hp) (args : Args) (us : List Value) (vs : List V)
    (Q : VK) (E : XK), A.guards = some [] → Room k A → Env0 P w K mg base A outer s H →
    BindsTo s fd args (ps.zip us) → Vals vs us → sp vs H Q E →
    codeAny (model P w) A (.call (.ref f) args) (CR CX outer P w H s Q E) s

section
variable {P : Program} {w : World} {K : PySem.W.Frag} {mg : Str → Option Value} {base : Heap} {CX : CXT}
  {f : Addr} {fd : FuncData} {ps : List Str} {sp : Sp}
theorem GnOk.of {k : Nat} (F : FnOk P w K mg base CX k f fd ps sp) : GnOk P w K mg base CX k f fd ps sp :=
  ⟨F.len, fun A o s H a us vs Q E _ hr => F.run A o s H a us vs Q E hr⟩
theorem GnOk.mono {j k : Nat} (F : GnOk P w K mg base CX j f fd ps sp) (h : j ≤ k) : GnOk P w K mg base CX k f fd ps sp :=
  ⟨F.len, fun A o s H a us vs Q E hg hr => F.run A o s H a us vs Q E hg (hr.mono h)⟩
theorem deeper_guards {A : Around} {env : Env} (h : A.guards = some []) : (A.deeper env).guards = some [] := h
end

/-- a def by its body, the body knowing the guards -/
theorem gn_of {CX : CXT} {P : Program} {w : World} {K : PySem.W.Frag} {mg : Str → Option Value} {base : Heap}
    {x qual : Str} {st : Stmt} {f : Addr} {fd : FuncData} {N ps : List Str} {k : Nat} {sp : Sp}
    (F : Fun K x qual st f fd) (S : FnScope N ps (defScope st)) (len : ∀ vs H Q E, sp vs H Q E → vs.length = ps.length)
    (hbody : ∀ (cdv : Value) (A : Around) (outer : List Env) (s : Shared) (H : Hp) (vs : List V) (Q : VK) (E : XK),
      A.guards = some [] → Room k (A.deeper (envOfC qual (defScope st) s.heap.objs.size f cdv)) → sp vs H Q E →
      ∃ t, PSs (cxOf CX P w K mg base N qual (defScope st) f cdv A outer s H E) (defBody st) t ∧
        t { nx := fun _ H' => Q .non H', rt := Q } (start N vs) H) :
    GnOk P w K mg base CX (k + 1) f fd ps sp := by
  obtain ⟨oc, od, kV, doc, pm, an, cdv, ct, osl, rfl, lk, hcd⟩ := F.ex
  refine ⟨len, fun A outer s H args us vs Q E hg hr e0 hb r hsp => ?_⟩
  have KX : K.In s.heap := e0.mod.kin.keeps fun b o e => (e0.bs b o e).1
  have lim : s.heap.NoLimit := e0.mod.nolimit.keeps fun b o e => (e0.bs b o e).1
  refine codeAny_call_function hr.depth (KX _ _ lk) rfl S.co S.gen rfl (PySem.W.codeRec_of KX hcd) (hb _ _ _ _ ?_)
  refine wpAny_newFunctionEnv_cells S.kind (fun ⟨n, v⟩ hy => ?_) fun env he s1 x => ?_
  · rcases S.par n (List.of_mem_zip hy).1 with q | q
    · exact Or.inl q
    · exact Or.inr ⟨q, PySem.W.cellsFrom_some _ _ _ (Or.inl q)⟩
  subst he
  refine ⟨lim.keeps x.toInCall.keep, codeAny_func ?_⟩
  obtain ⟨t, ht, hq⟩ := hbody cdv A outer s H vs Q E hg (hr.deeper _) hsp
  have J := inv_start (CX := CX) (E := E) S hr.hd e0 (len _ _ _ _ hsp) r x
  refine wpAny_mono (ht.run [] s1 (start N vs) H _ J hq) (fun fl s' hs => ?_) fun e s' hs => hs
  cases fl with
  | ret u =>
    obtain ⟨v, σ', H', J', rv, q⟩ := hs
    exact ⟨v, H', J'.os, J'.bare, J'.base, J'.hok, rv, q⟩
  | next =>
    obtain ⟨σ', H', J', q⟩ := hs
    exact ⟨V.non, H', J'.os, J'.bare, J'.base, J'.hok, rfl, q⟩
  | brk =>
    obtain ⟨_, _, _, q⟩ := hs
    exact q.elim
  | cont =>
    obtain ⟨_, _, _, q⟩ := hs
    exact q.elim
theorem gn_ok {P : Program} {w : World} {K : PySem.W.Frag} {mg : Str → Option Value} {base : Heap}
    {x qual : Str} {st : Stmt} {f : Addr} {fd : FuncData} {N ps : List Str} {k : Nat} {sp : Sp}
    (F : Fun K x qual st f fd) (S : FnScope N ps (defScope st)) (len : ∀ vs H Q E, sp vs H Q E → vs.length = ps.length)
    (hbody : ∀ (cdv : Value) (A : Around) (outer : List Env) (s : Shared) (H : Hp) (vs : List V) (Q : VK) (E : XK),
      A.guards = some [] → Room k (A.deeper (envOfC qual (defScope st) s.heap.objs.size f cdv)) → sp vs H Q E →
      ∃ t, PSs (cxOf CX0 P w K mg base N qual (defScope st) f cdv A outer s H E).nox (defBody st) t ∧
        t { nx := fun _ H' => Q .non H', rt := Q } (start N vs) H) :
    GnOk P w K mg base CX0 (k + 1) f fd ps sp :=
  gn_of F S len fun cdv A outer s H vs Q E hg hr hsp =>
    let ⟨t, h, q⟩ := hbody cdv A outer s H vs Q E hg hr hsp
    ⟨t, h.nox, q⟩

section
variable {X : Cx} {CX : CXT} {k : Nat} {f : Addr} {fd : FuncData} {ps : List Str} {sp : Sp} {dvs : List V}
  {ds : List Value} {E : XK} {x : Str} {p pos : Pos} {e : Expr} {es : List Expr} {t : TA}
theorem run_gn {pins : List (Addr × Obj)} {σ : L2.St} {H : Hp} {s : Shared} {Q : VK} {us : List Value} {vs : List V}
    (F : GnOk X.prog X.w X.K X.mg X.base CX k f fd ps sp) (hg : X.A.guards = some []) (hr : Room k X.A)
    (hb : Binds X.K fd ps ds) (hd : Vals dvs ds) (hx : Passes CX X E) (I : Inv X pins σ H s) (r : Vals vs us)
    (h : sp (vs ++ dvs) H Q E) : wpAny (model X.prog X.w) X.A (call (.ref f) us) (EP X pins σ Q) X.xe s := by
  have r2 : Vals (vs ++ dvs) (us ++ ds) := r.append hd
  have hl : (us ++ ds).length = ps.length := r2.length.symm.trans (F.len _ _ _ _ h)
  refine wpAny_call (codeAny_mono (F.run X.A X.stack s H ⟨us, []⟩ (us ++ ds) (vs ++ dvs) Q E hg hr I.env0
    (hb s us I.kIn hl) r2 h) fun r s' hq => ?_)
  cases r with
  | error e => exact hx pins σ H s e s' I hq
  | ok fl =>
    cases fl with
    | ret u => exact I.after hq
    | next => exact False.elim hq
    | brk => exact False.elim hq
    | cont => exact False.elim hq
theorem pe_callG (F : GnOk X.prog X.w X.K X.mg X.base CX k f fd ps sp) (hgu : X.A.guards = some []) (hr : Room k X.A)
    (hg : Gl X x) (hm : X.mg x = some (.ref f)) (hk : PySem.W.keepIn X.K (.ref f) = true) (hb : Binds X.K fd ps ds)
    (hd : Vals dvs ds) (hx : Passes CX X E) (ha : PA X (e :: es) t) (hdb : (x == ("__debug__" : Str)) = false := by decide)
    (he : starEach (e :: es) X.env = (false, eval e X.env) :: starEach es X.env := by rfl)
    (hpl : (backTo pos (starEach es X.env)).any (·.1) = false := by rfl) :
    PE X (.Call (.Name x p) (e :: es) [] pos) (tCall sp dvs E t) :=
  ⟨fun pins s σ H Q I h => wpAny_Call_Name_kw (ld_glob I hg hm (PySem.W.callWith_K (h₀ := X.base) I.ok.mod.kin hk
    (thn (ha.run pos pins s σ H _ I h) fun us s1 ⟨vs, H1, I1, r, q⟩ =>
      ⟨I1.kIn, run_gn F hgu hr hb hd hx I1 r q⟩) he hpl) hdb)⟩
theorem pe_callG0 (F : GnOk X.prog X.w X.K X.mg X.base CX k f fd ps sp) (hgu : X.A.guards = some []) (hr : Room k X.A)
    (hg : Gl X x) (hm : X.mg x = some (.ref f)) (hk : PySem.W.keepIn X.K (.ref f) = true) (hb : Binds X.K fd ps ds)
    (hd : Vals dvs ds) (hx : Passes CX X E) (hdb : (x == ("__debug__" : Str)) = false := by decide) :
    PE X (.Call (.Name x p) [] [] pos) (tCall sp dvs E tNil) :=
  ⟨fun pins s σ H Q I h => wpAny_Call_Name_kw (ld_glob I hg hm (PySem.W.callWith_K0 I.kIn hk
    (run_gn (us := []) F hgu hr hb hd hx I .nil h)) hdb)⟩
end

/-- sysModules is known and never written -/
def Sys (H : Hp) : Prop := ∃ o u, H sysModules = some (.frz o u)
theorem Sys.ne {H : Hp} (y : Sys H) {a : Addr} {o : HO} (h : H a = some o) (n : ∀ ob u, o ≠ .frz ob u) : a ≠ sysModules := by
  rintro rfl
  obtain ⟨ob, u, e⟩ := y
  rw [h] at e
  exact n ob u (Option.some.inj e)

theorem law_callG {P : Program} {w : World} {K : PySem.W.Frag} {mg mb : Str → Option Value} {CX : CXT} {k : Nat}
    {fa a : Addr} {fd : FuncData} {x : Str} {sp : Sp} {s₁ : Shared} {vs : List Value} {ns : List Int}
    (KX : K.In s₁.heap) (hns : s₁.heap.Ns mainGlobals mg) (hb : s₁.heap.Ns builtinsNs mb)
    (hbb : ∀ x : Str, x ≠ "__name__" → mb x = bootBuiltins x) (hlim : s₁.heap.NoLimit) (hg : s₁.gens = #[])
    (hsys : ∃ mm, s₁.heap.Ns sysModules mm) (hK1 : K.lookup sysModules = none)
    (ha : s₁.heap.get? a = some { cls := .type "list", data := .seq vs.toArray }) (hi : IntsAre vs ns)
    (hl : ns.length ≤ sizeLine) (hr : Room k callerA)
    (F : ∀ base : Heap, K.In base → base.Ns mainGlobals mg → GnOk P w K mg base CX k fa fd [x] sp)
    (hbind : ∀ (s : Shared) (u : Value), BindsTo s fd ⟨[u], []⟩ [(x, u)])
    (hsp : ∀ H : Hp, Sys H → SqL K H a (ns.map V.int) → sp [.ref a] H (fun v _ => v = .bl true) fun _ _ _ => False)
    (hCX : ∀ H e s', CX [] H s₁ (fun _ _ _ => False) e s' → False) :
    codeAny (model P w) callerA (.call (.ref fa) ⟨[.ref a], []⟩)
      (fun r s' => r = .ok (.ret (.bool true)) ∧ OldK s₁.heap s'.heap ∧ s'.os = s₁.os ∧ AllBare s'.gens) s₁ := by
  have rv := vals_ints hi
  obtain ⟨mm, o1, es1, ep1, h1, d1, r1⟩ := hsys
  have hne : sysModules ≠ a := fun z => by
    rw [z, ha] at h1
    cases h1
    cases d1
  have core : ∀ H : Hp, HOk P w H s₁.heap → (∀ b u, H b = some u → ∃ ob v, u = .frz ob v) → Sys H →
      SqL K H a (ns.map V.int) → (∀ b u, H b = some u → b = sysModules ∨ (b = a ∧ K.lookup a = none)) →
      codeAny (model P w) callerA (.call (.ref fa) ⟨[.ref a], []⟩)
        (fun r s' => r = .ok (.ret (.bool true)) ∧ OldK s₁.heap s'.heap ∧ s'.os = s₁.os ∧ AllBare s'.gens) s₁ := by
    intro H hok Hfrz hS hQ hW
    have noneD : ∀ {b : Addr} {o : Obj} {es : Array DictEntry} {ep : Nat}, s₁.heap.get? b = some o →
        o.data = .dict es ep → b ≠ sysModules → H b = none := fun {b o es ep} e d n => by
      cases q : H b with
      | none => rfl
      | some u =>
        rcases hW b u q with z | ⟨z, _⟩
        · exact absurd z n
        · rw [z, ha] at e
          cases e
          cases d
    have nsK : ∀ {b : Addr} {m : Str → Option Value}, s₁.heap.Ns b m → b ≠ sysModules → (hidT s₁.heap H).Ns b m :=
      fun {b m} ⟨o, es, ep, e, d, r⟩ n => ⟨o, es, ep, hidT_get e (noneD e d n), d, r⟩
    have hKb : K.In (hidT s₁.heap H) := fun b o e => hidT_get (KX b o e) (by
      cases q : H b with
      | none => rfl
      | some u =>
        rcases hW b u q with z | ⟨z, z2⟩
        · rw [z, hK1] at e
          cases e
        · rw [z, z2] at e
          cases e)
    obtain ⟨mc, hmc, hmc2⟩ := hlim
    have hM : Mod K mg (hidT s₁.heap H) :=
      ⟨hKb, nsK hns (by decide), ⟨mb, nsK hb (by decide), hbb⟩, ⟨mc, nsK hmc (by decide), hmc2⟩⟩
    have e0 : Env0 P w K mg (hidT s₁.heap H) callerA [] s₁ H :=
      ⟨rfl, hM, fun b o e => of_hidT e, Nat.le_of_eq (hidT_size _ _), trivial,
        fun b hb => absurd (show b ∈ ([] : List Addr) from hb) (by simp), hok, .of_eq hg⟩
    refine codeAny_mono ((F _ hKb (nsK hns (by decide))).run callerA [] s₁ H ⟨[.ref a], []⟩ [.ref a] [.ref a] _ _ rfl hr e0
      (hbind s₁ (.ref a)) (.cons rfl .nil) (hsp H hS hQ)) fun r s' h => ?_
    cases r with
    | error e => exact (hCX H e s' h).elim
    | ok fl =>
      cases fl with
      | next => exact h.elim
      | brk => exact h.elim
      | cont => exact h.elim
      | ret u =>
        obtain ⟨v, H', os, bare, un, hok', r', q⟩ := h
        have q' : v = .bl true := q
        subst q'
        obtain rfl : u = Value.bool true := r'
        refine ⟨rfl, OldK.of_keep fun b o e => ?_, os, bare⟩
        cases q : H b with
        | none => exact un.keep b o e q (by intro z; exact absurd (show b ∈ ([] : List Addr) from z) (by simp)) (by simp)
        | some u =>
          obtain ⟨ob, v, rfl⟩ := Hfrz b u q
          obtain ⟨e1, _⟩ := hok b _ q
          obtain ⟨e2, _⟩ := hok' b _ (un.frzs b ob _ q)
          rw [e] at e1
          cases e1
          exact e2
  cases hk : K.lookup a with
  | some o =>
    have e := KX a o hk
    rw [ha] at e
    cases e
    refine core (fun b => if b = sysModules then some (.frz o1 (.ext fun _ => True)) else none) (fun b u e => ?_) (fun b u e => ?_)
      ⟨_, _, if_pos rfl⟩ (.inr ⟨_, vs.toArray, _, hk, rfl, rfl, rfl, by rw [List.size_toArray, hi.length]; exact hl, by simpa using rv⟩) fun b u e => ?_
    · by_cases z : b = sysModules
      · have e' := (if_pos z).symm.trans e
        cases e'
        subst z
        exact ⟨h1, trivial, ⟨o1, h1⟩, fun _ _ _ _ => trivial⟩
      · have e' := (if_neg z).symm.trans e
        cases e'
    · by_cases z : b = sysModules
      · have e' := (if_pos z).symm.trans e
        exact ⟨_, _, (Option.some.inj e').symm⟩
      · have e' := (if_neg z).symm.trans e
        cases e'
    · by_cases z : b = sysModules
      · exact .inl z
      · have e' := (if_neg z).symm.trans e
        cases e'
  | none =>
    have Ha : (fun b => if b = a then some (HO.frz { cls := .type "list", data := .seq vs.toArray } (.lst (ns.map V.int)))
      else if b = sysModules then some (.frz o1 (.ext fun _ => True)) else none : Hp) a = _ := if_pos rfl
    refine core (fun b => if b = a then some (.frz { cls := .type "list", data := .seq vs.toArray } (.lst (ns.map V.int)))
      else if b = sysModules then some (.frz o1 (.ext fun _ => True)) else none) (fun b u e => ?_) (fun b u e => ?_)
      ⟨_, _, (if_neg hne).trans (if_pos rfl)⟩ (.inl (.inr ⟨_, Ha⟩)) fun b u e => ?_
    · by_cases z : b = a
      · have e' := (if_pos z).symm.trans e
        cases e'
        subst z
        exact ⟨ha, by rw [List.length_map]; exact hl, vs, _, rv, ha⟩
      · by_cases z2 : b = sysModules
        · have e' := ((if_neg z).trans (if_pos z2)).symm.trans e
          cases e'
          subst z2
          exact ⟨h1, trivial, ⟨o1, h1⟩, fun _ _ _ _ => trivial⟩
        · have e' := ((if_neg z).trans (if_neg z2)).symm.trans e
          cases e'
    · by_cases z : b = a
      · have e' := (if_pos z).symm.trans e
        exact ⟨_, _, (Option.some.inj e').symm⟩
      · by_cases z2 : b = sysModules
        · have e' := ((if_neg z).trans (if_pos z2)).symm.trans e
          exact ⟨_, _, (Option.some.inj e').symm⟩
        · have e' := ((if_neg z).trans (if_neg z2)).symm.trans e
          cases e'
    · by_cases z : b = a
      · exact .inr ⟨z, hk⟩
      · by_cases z2 : b = sysModules
        · exact .inl z2
        · have e' := ((if_neg z).trans (if_neg z2)).symm.trans e
          cases e'

theorem walk_G {l : PySem.W.OpenLaw} {n k : Nat} {q : Program} {loose : List Str} {XP : (Str → Option Value) → Heap → Prop}
    {YP : World → Heap → Prop} {d : PySem.DefRec} {K : Params → PySem.W.Frag} {CX : World → CXT} {sp : World → Sp} {x : Str}
    (hn : l.most = some n) (hn2 : n ≤ sizeLine) (hdf : d.params.defaults = []) (hr : Room k callerA)
    (hY : ∀ (w : World) (h : Heap), YP w h → (K w.params).In h) (hK1 : ∀ w : World, (K w.params).lookup sysModules = none)
    (hq : importsNone q = true)
    (F : ∀ (w : World) (mg : Str → Option Value) (fa : Addr) (h : Heap), (K w.params).In h → h.Ns mainGlobals mg →
      mg d.name = some (.ref fa) → ∃ fd : FuncData, (∀ (s : Shared) (u : Value), BindsTo s fd ⟨[u], []⟩ [(x, u)]) ∧
        ∀ base : Heap, (K w.params).In base → base.Ns mainGlobals mg → GnOk l.prog w (K w.params) mg base (CX w) k fa fd [x] (sp w))
    (hsp : ∀ (w : World) (H : Hp) (a : Addr) (ns : List Int), ns.length ≤ n → (∀ z ∈ ns, Builtin.Int.intBits z ≤ 1048576) →
      Sys H → SqL (K w.params) H a (ns.map V.int) → sp w [.ref a] H (fun v _ => v = .bl true) fun _ _ _ => False)
    (hCX : ∀ (w : World) (H : Hp) (s : Shared) (e : Value) (s' : Shared), CX w [] H s (fun _ _ _ => False) e s' → False) :
    PySem.W.WalkO q loose XP YP l.row.toRowW d [] (fun f vs => PySem.call f vs) := by
  refine Att.attach_callB hn hdf fun w s₀ s₁ mg mb fa o pm cd doc a vs ns G Y ho hd hcd hmg hobj hints hlen hbits hg => ?_
  have KX := hY w _ Y
  obtain ⟨fd, hb, hF⟩ := F w mg fa _ KX G.T.g hmg
  exact law_callG KX G.T.g G.T.b G.T.builtins G.T.nolimit hg (let ⟨mm, a, _⟩ := (G.T.seer hq).mods; ⟨mm, a⟩) (hK1 w) hobj hints (Nat.le_trans hlen hn2) hr hF hb
    (fun H hS hQ => hsp w H a ns hlen hbits hS hQ) fun H e s' => hCX w H s₁ e s'
end Kx

set_option Elab.async false
set_option maxRecDepth 100000
set_option linter.all false
set_option maxHeartbeats 2000000
/-! KitB: data at any depth (dicts too), and repr of it. -/
namespace Kx
open PySem PySem.Spec PyProof.Rows L2

def keyD : Key → PyData
  | .inl i => .int i
  | .inr x => .str x
mutual
/-- a value of plain data: what it shows at this heap -/
inductive Dq (K : PySem.W.Frag) (H : Hp) : V → PyData → Prop
  | non : Dq K H .non .none
  | bl (b : Bool) : Dq K H (.bl b) (.bool b)
  | int (i : Int) : Dq K H (.int i) (.int i)
  | str (x : Str) : Dq K H (.str x) (.str x)
  | lst {a : Addr} {xs : List V} {ds : List PyData} : H a = some (.lst xs) → DqA K H xs ds → Dq K H (.ref a) (.list ds)
  | tup {a : Addr} {xs : List V} {ds : List PyData} : SqT K H a xs → DqA K H xs ds → Dq K H (.ref a) (.tuple ds)
  | dic {a : Addr} {kvs : List (Key × V)} {ds : List (PyData × PyData)} : H a = some (.dK kvs) → DqD K H kvs ds → Dq K H (.ref a) (.dict ds)
inductive DqA (K : PySem.W.Frag) (H : Hp) : List V → List PyData → Prop
  | nil : DqA K H [] []
  | cons {v : V} {vs : List V} {d : PyData} {ds : List PyData} : Dq K H v d → DqA K H vs ds → DqA K H (v :: vs) (d :: ds)
inductive DqD (K : PySem.W.Frag) (H : Hp) : List (Key × V) → List (PyData × PyData) → Prop
  | nil : DqD K H [] []
  | cons {k : Key} {v : V} {vs : List (Key × V)} {d : PyData} {ds : List (PyData × PyData)} : Dq K H v d → DqD K H vs ds → DqD K H ((k, v) :: vs) ((keyD k, d) :: ds)
end
theorem sqt_ex {K : PySem.W.Frag} {H H' : Hp} {a : Addr} {xs : List V} (e : Same H H') (h : SqT K H a xs) : SqT K H' a xs := by
  rcases h with (h | ⟨o, h⟩) | h
  · exact .inl (.inl (e _ _ h))
  · exact .inl (.inr ⟨o, e _ _ h⟩)
  · exact .inr h
mutual
theorem Dq.mono {K : PySem.W.Frag} {H H' : Hp} (e : Same H H') : ∀ {d : PyData} {v : V}, Dq K H v d → Dq K H' v d
  | _, _, .non => .non
  | _, _, .bl b => .bl b
  | _, _, .int i => .int i
  | _, _, .str x => .str x
  | _, _, .lst h a => .lst (e _ _ h) (DqA.mono e a)
  | _, _, .tup h a => .tup (sqt_ex e h) (DqA.mono e a)
  | _, _, .dic h a => .dic (e _ _ h) (DqD.mono e a)
theorem DqA.mono {K : PySem.W.Frag} {H H' : Hp} (e : Same H H') : ∀ {ds : List PyData} {vs : List V}, DqA K H vs ds → DqA K H' vs ds
  | _, _, .nil => .nil
  | _, _, .cons a b => .cons (Dq.mono e a) (DqA.mono e b)
theorem DqD.mono {K : PySem.W.Frag} {H H' : Hp} (e : Same H H') : ∀ {ds : List (PyData × PyData)} {vs : List (Key × V)}, DqD K H vs ds → DqD K H' vs ds
  | _, _, .nil => .nil
  | _, _, .cons a b => .cons (Dq.mono e a) (DqD.mono e b)
end
theorem Sys.mono {H H' : Hp} (y : Sys H) (e : Same H H') : Sys H' := let ⟨o, u, h⟩ := y; ⟨o, u, e _ _ h⟩

section
variable {X : Cx} {pins : List (Addr × Obj)} {σ : L2.St} {H : Hp} {s : Shared}
theorem key_reads {P : Program} {w : World} {h : Heap} {k : Key} {u : Value} (e : (mixKind P w).is k u = true) : Reads h u (keyD k) [] := by
  rcases keyIs_shape (show keyIs k u = true from e) with ⟨i, t, rfl, rfl⟩ | ⟨x, t, rfl, rfl⟩
  · exact .int i t
  · exact .str x t
mutual
theorem Dq.reads (I : Inv X pins σ H s) (y : Sys H) : ∀ {d : PyData} {v : V} {u : Value}, Dq X.K H v d → RelV v u → ∃ as, Reads s.heap u d as ∧ sysModules ∉ as
  | _, _, _, .non, r => by
    cases r
    exact ⟨_, Reads.none, by simp⟩
  | _, _, _, .bl b, r => by
    cases r
    exact ⟨_, Reads.bool b, by simp⟩
  | _, _, _, .int i, r => by
    obtain ⟨t, rfl⟩ := r
    exact ⟨_, Reads.int i t, by simp⟩
  | _, _, _, .str x, r => by
    obtain ⟨t, rfl⟩ := r
    exact ⟨_, Reads.str x t, by simp⟩
  | _, _, _, .lst (a := a) h q, r => by
    cases r
    obtain ⟨_, its, n, rv, ho⟩ := (show ObjOk X.prog X.w H s.heap a (.lst _) from I.hok a _ h)
    obtain ⟨as, hr, hn⟩ := DqA.reads I y q rv
    exact ⟨_, Reads.list ho rfl rfl hr, fun z => (List.mem_cons.mp z).elim (fun z => y.ne h (fun _ _ z => by cases z) z.symm) hn⟩
  | _, _, _, .tup h q, r => by
    cases r
    obtain ⟨its, rv, ⟨o, ho, hc, n, hd⟩, _⟩ := I.tuple h
    obtain ⟨as, hr, hn⟩ := DqA.reads I y q rv
    exact ⟨_, Reads.tuple ho hc hd hr, hn⟩
  | _, _, _, .dic (a := a) h q, r => by
    cases r
    obtain ⟨_, ha, vs, rv, o, es, ep, ho, hx, hd, _, hp, _⟩ := (show ObjOk X.prog X.w H s.heap a (.dK _) from I.hok a _ h)
    obtain ⟨as, bs, h1, h2, n1, n2⟩ := DqD.reads I y q rv hp
    refine ⟨_, Reads.dict ho hx.1 hd h1 h2, fun z => ?_⟩
    rcases List.mem_append.mp z with z | z
    · rcases List.mem_cons.mp z with z | z
      · exact y.ne h (fun _ _ z => by cases z) z.symm
      · exact n1 z
    · exact n2 z
theorem DqA.reads (I : Inv X pins σ H s) (y : Sys H) : ∀ {ds : List PyData} {vs : List V} {us : List Value}, DqA X.K H vs ds → Vals vs us → ∃ as, ReadsAll s.heap us ds as ∧ sysModules ∉ as
  | _, _, _, .nil, r => by
    cases r
    exact ⟨_, ReadsAll.nil, by simp⟩
  | _, _, _, .cons a b, r => by
    cases r with
    | cons r1 r2 =>
      obtain ⟨as, h1, n1⟩ := Dq.reads I y a r1
      obtain ⟨bs, h2, n2⟩ := DqA.reads I y b r2
      exact ⟨_, ReadsAll.cons h1 h2, fun z => (List.mem_append.mp z).elim n1 n2⟩
theorem DqD.reads (I : Inv X pins σ H s) (y : Sys H) : ∀ {ds : List (PyData × PyData)} {kvs : List (Key × V)} {vs : List (Key × Value)} {es : List DictEntry}, DqD X.K H kvs ds → KV kvs vs →
    Pairs (mixKind X.prog X.w) es vs → ∃ as bs, ReadsAll s.heap (es.map (·.key)) (ds.map (·.1)) as ∧ ReadsAll s.heap (es.map (·.val)) (ds.map (·.2)) bs ∧ sysModules ∉ as ∧ sysModules ∉ bs
  | _, _, _, _, .nil, r, p => by
    cases r
    cases p
    exact ⟨_, _, ReadsAll.nil, ReadsAll.nil, by simp, by simp⟩
  | _, _, _, _, .cons a b, r, p => by
    cases r with
    | cons r1 r2 =>
      cases p with
      | cons p1 p2 p3 =>
        obtain ⟨e1, e2⟩ := r1
        obtain ⟨as, h1, n1⟩ := Dq.reads I y a (p2 ▸ e2)
        obtain ⟨bs, cs, h2, h3, n2, n3⟩ := DqD.reads I y b r2 p3
        refine ⟨_, _, ReadsAll.cons (key_reads (by rw [← e1] at p1; exact p1)) h2, ReadsAll.cons h1 h3, by simpa using n2, fun z => (List.mem_append.mp z).elim n1 n3⟩
end
end
/-- repr(x), x plain data -/
def rRepr (K : PySem.W.Frag) : List V → Hp → VK → Prop := fun vs H Q => ∃ v d, vs = [v] ∧ Sys H ∧ Dq K H v d ∧ d.showable = true ∧ d.depth ≤ 60 ∧ d.shown.length ≤ sizeLine ∧ Q (.str d.shown) H
theorem call_repr {X : Cx} (hg : X.A.guards = some []) (hu : X.A.units + 64 < cLine) : CallR X (.builtin "repr") (rRepr X.K) := by
  intro pins s σ H xs us Q I r h
  obtain ⟨v, d, rfl, y, hd, hs, hp, hz, q⟩ := h
  obtain ⟨u, rfl, ru⟩ := vals1 r
  obtain ⟨as, hr, hn⟩ := Dq.reads I y hd ru
  cases hd with
  | non =>
    cases ru
    exact PySem.P.repr_of_none ⟨.str _, H, I.tok _, ⟨_, rfl⟩, q⟩
  | bl b =>
    cases ru
    exact PySem.P.repr_of_bool ⟨.str _, H, I.tok _, ⟨_, rfl⟩, q⟩
  | int i =>
    obtain ⟨t, rfl⟩ := ru
    exact PySem.P.repr_of_int (by simpa [PyData.showable] using hs) ⟨.str _, H, I.tok _, ⟨_, rfl⟩, q⟩
  | str x =>
    obtain ⟨t, rfl⟩ := ru
    exact PySem.P.repr_of_str ⟨.str _, H, I.tok _, ⟨_, rfl⟩, q⟩ hz
  | lst _ _ =>
    cases ru
    exact repr_of_reads' hr hs (fun _ => hn) hg (by omega) (fun _ _ e => e) (fun h' u tk k => ⟨.str _, H, I.kept (t' := tk) k, ⟨_, rfl⟩, q⟩) hz
  | tup _ _ =>
    cases ru
    exact repr_of_reads' hr hs (fun _ => hn) hg (by omega) (fun _ _ e => e) (fun h' u tk k => ⟨.str _, H, I.kept (t' := tk) k, ⟨_, rfl⟩, q⟩) hz
  | dic _ _ =>
    cases ru
    exact repr_of_reads' hr hs (fun _ => hn) hg (by omega) (fun _ _ e => e) (fun h' u tk k => ⟨.str _, H, I.kept (t' := tk) k, ⟨_, rfl⟩, q⟩) hz
end Kx

set_option Elab.async false
set_option maxRecDepth 100000
set_option linter.all false
set_option maxHeartbeats 4000000
/-! KitC: exceptions of own classes, held as values: made (positionally, by keyword, bare), asked, read. -/
namespace PySem
namespace KxP
open PySem.W PySem.Calls PyProof.Rows PySem.HandSPX
section
variable {prog : Program} {w : World} {A : Around} {E : Value → Shared → Prop} {R : Result → Shared → Prop} {h : Heap} {g : Array GenState} {d : Drawn} {t : Nat} {os : OsState}
variable {nm q : Str} {C N : Addr} {bs bm bmB : List Value} {hdct : Bool} {sn : List Str} {sub : List Value} {ab : Bool} {col : Option Bool} {dd : Option Addr} {k0 k1 k2 k3 k5 : Option Value} {B newId initId : String}

theorem newKw_check (F : ExcBaseFacts B newId initId bmB) (hT : ∀ X : String, bm.contains (.type X) = bmB.contains (.type X))
    {rest : List Value} {kw : List (Str × Value)} {Q : Unit → Shared → Prop}
    (hC : h.get? C = some (excClassObj nm q C N bs bm hdct sn sub ab col dd k0 k1 k2 k3 k5 newId)) (hq : Q () ⟨h, g, d, t, os⟩) :
    wpAny (model prog w) A (checkBuiltinCall newId ⟨.ref C :: rest, kw⟩) Q E ⟨h, g, d, t, os⟩ := by
  have hc : (Value.ref C :: bm).contains (.type B) = true := by
    rw [List.contains_cons, hT, F.hasB, Bool.or_true]
  have hs := F.noStar
  simp only [checkBuiltinCall, F.newKind, F.newSplit, F.newRow]
  repeat (first
    | refine wpAny_loadPart_at hC ?_
    | (refine wpAny_isSubtype_exc hC ?_; rw [hc])
    | refine wpAny_staticBase_exc hC ?_
    | refine wpAny_madeBy_exc hC ?_
    | simp only [bne_self_eq_false, Bool.false_eq_true, if_false]
    | wp_step)
  exact hq
theorem newKw (F : ExcBaseFacts B newId initId bmB) (hT : ∀ X : String, bm.contains (.type X) = bmB.contains (.type X))
    {rest : List Value} {kw : List (Str × Value)} (hC : h.get? C = some (excClassObj nm q C N bs bm hdct sn sub ab col dd k0 k1 k2 k3 k5 newId))
    (hq : R (.ok (.ret (.ref (h.objs.size + 1)))) ⟨(h.push (kdv_tup rest)).push (excO C h.objs.size), g, d, t, os⟩)
    (hz : rest.length ≤ sizeLine) : codeAny (model prog w) A (.builtin newId ⟨.ref C :: rest, kw⟩) R ⟨h, g, d, t, os⟩ := by
  have he := F.ends
  have hB : (Value.ref C :: bm).contains (.type B) = true := by
    rw [List.contains_cons, hT, F.hasB, Bool.or_true]
  have hA : (Value.ref C :: bm).contains (.type "AttributeError") = false := by
    rw [List.contains_cons, hT, F.noAttr]
    rfl
  have hN : (Value.ref C :: bm).contains (.type "NameError") = false := by
    rw [List.contains_cons, hT, F.noName]
    rfl
  refine codeAny_builtinAt F.entry ?_
  unfold Builtin.«BaseException.__new__»
  refine wpAt_bind ?_
  show wpAt _ _ _ (stack >>= _) _ _ _
  refine wpAt_bind (wpAt_stack fun p below => wpAt_of_wpAny ?_)
  wp_walk
  refine wpAt_of_wpAny ?_
  rw [F.owner]
  repeat (first
    | with_reducible refine wpAny_madeHere_exc F.canon hC ?_
    | with_reducible refine wpAny_loadPart_at hC ?_
    | (with_reducible refine wpAny_isSubtype_exc hC ?_; first | rw [hB] | rw [hA] | rw [hN])
    | wp_step)
  show R _ _
  rw [Heap.size_push]
  exact hq
theorem typeCallKw (F : ExcBaseFacts B newId initId bmB) (hT : ∀ X : String, bm.contains (.type X) = bmB.contains (.type X))
    {rest : List Value} {kw : List (Str × Value)} {fI : Addr} {Q : Fin → Shared → Prop}
    (hC : h.get? C = some (excClassObj nm q C N bs bm hdct sn sub ab col dd k0 k1 k2 k3 k5 newId))
    (hi : Looks (model prog w) h (typeLookup (.ref C) "__init__") (some (.ref fI)))
    (hb : ∀ self, Looks (model prog w) h (bindSpecial (.ref fI) self) (.ref fI, [self])) (hz : rest.length ≤ sizeLine)
    (hq : codeAny (model prog w) A (.call (.ref fI) ⟨.ref (h.objs.size + 1) :: rest, kw⟩)
      (fun r s' => match r with
        | .ok (.ret v) => v = .none ∧ Q (.done (.ret (.ref (h.objs.size + 1)))) s'
        | .ok _ => False
        | .error e => E e s') ⟨(h.push (kdv_tup rest)).push (excO C h.objs.size), g, d, t, os⟩) :
    wpAny (model prog w) A (Builtin.«type.__call__» ⟨.ref C :: rest, kw⟩) Q E ⟨h, g, d, t, os⟩ := by
  repeat (first | with_reducible refine wpAny_loadPart_at hC ?_ | with_reducible refine wpAny_madeBy_exc hC ?_ | wp_step)
  refine codeAny_call_builtin_code (Code.quiet_builtin _ F.quiet) (newKw_check F hT hC ?_)
  refine newKw F hT hC ?_ hz
  show wpAny _ _ _ _ _ _
  have k : ∀ b o, h.get? b = some o → ((h.push (kdv_tup rest)).push (excO C h.objs.size)).get? b = some o :=
    fun b o e => Heap.get?_push_of_some _ (Heap.get?_push_of_some _ e)
  have hC1 := k _ _ hC
  have hget : ((h.push (kdv_tup rest)).push (excO C h.objs.size)).get? (h.objs.size + 1) = some (excO C h.objs.size) := by
    heap_get
  have hcC : (Value.ref C :: bm).contains (.ref C) = true := by
    simp
  have i1 := hi.keeps k
  have b1 := (hb (.ref (h.objs.size + 1))).keeps k
  unfold isInstance
  repeat (first
    | with_reducible refine wpAny_loadPart_at hget ?_
    | (with_reducible refine wpAny_isSubtype_exc hC1 ?_; rw [hcC])
    | wp_step)
  show wpAny _ _ (typeLookup (.ref C) _) _ _ _
  refine i1.at (wpAny_holding (wpAny_bind (b1.at ?_)))
  refine wpAny_bind (wpAny_call (codeAny_mono hq fun r s' z => ?_))
  rcases r with e | (v | _ | _ | _) <;> first | exact z | exact z.elim | skip
  obtain ⟨rfl, z⟩ := z
  first
    | exact wpAny_pure (wpAny_pure z)
    | (wp_walk; exact z)
theorem callKw (F : ExcBaseFacts B newId initId bmB) (hT : ∀ X : String, bm.contains (.type X) = bmB.contains (.type X))
    {rest : List Value} {kw : List (Str × Value)} {fI : Addr}
    (hC : h.get? C = some (excClassObj nm q C N bs bm hdct sn sub ab col dd k0 k1 k2 k3 k5 newId))
    (hi : Looks (model prog w) h (typeLookup (.ref C) "__init__") (some (.ref fI)))
    (hb : ∀ self, Looks (model prog w) h (bindSpecial (.ref fI) self) (.ref fI, [self])) (hz : rest.length ≤ sizeLine)
    (hq : codeAny (model prog w) (A.under (.builtin "type.__call__" ⟨.ref C :: rest, kw⟩))
      (.call (.ref fI) ⟨.ref (h.objs.size + 1) :: rest, kw⟩) (InitBack (h.objs.size + 1) R)
      ⟨(h.push (kdv_tup rest)).push (excO C h.objs.size), g, d, t, os⟩) :
    codeAny (model prog w) A (.call (.ref C) ⟨rest, kw⟩) R ⟨h, g, d, t, os⟩ := by
  have f1 := tc_lookup
  have f2 := tc_bind (.ref C)
  have hTy : (⟨h, g, d, t, os⟩ : Shared).TypeIs (.ref C) "type" := ⟨_, hC, rfl⟩
  refine codeAny_of_tree ?_
  show wpAny _ _ (callAny (.ref C) _) _ _ _
  repeat (any_goals (first | assumption | with_reducible refine wpAny_loadPart_at hC ?_ | wp_step))
  refine ⟨rfl, codeAny_call_builtin_at (Code.quiet_builtin _ (by decide +kernel)) entry_typeCall
    (wpAny_check_type_call_sub hC (typeCallKw F hT hC hi hb hz (codeAny_mono hq fun r s' z => ?_)))⟩
  rcases r with e | (v | _ | _ | _) <;> exact z
end
end KxP
end PySem

set_option Elab.async false
set_option maxRecDepth 100000
set_option linter.all false
set_option maxHeartbeats 4000000
/-! KitD: the hand layer's rules over KitC. -/
namespace Kx
open PySem PySem.Spec PyProof.Rows L2

/-- what the written part says of an own exception class -/
structure ExK (K : PySem.W.Frag) (C : Addr) : Prop where
  o : OexC K C
  x : ExcC K C
/-- at a stands an exception of the class at C, its own dict at d -/
def XAt (H : Hp) (a C : Addr) (d : Option Addr) : Prop :=
  ∃ φ : Heap → Prop, H a = some (.ext φ) ∧ ∀ h, φ h → ∃ ox : Obj, h.get? a = some ox ∧ ox.cls = .ref C ∧ ox.dict = d ∧ PySem.W.notCls ox = true
/-- the fields of such a dict -/
def FAt (H : Hp) (d : Addr) (fs : List (Str × V)) : Prop := H d = some (exd d fs) ∨ H d = some (.xd fs)
theorem xat_exo {H : Hp} {a C : Addr} {d : Option Addr} (h : H a = some (exo a C d)) : XAt H a C d :=
  ⟨_, h, fun _ ⟨_, e⟩ => ⟨_, e, rfl, rfl, rfl⟩⟩
theorem XAt.mono {H H' : Hp} {a C : Addr} {d : Option Addr} (e : Same H H') (h : XAt H a C d) : XAt H' a C d :=
  let ⟨p, q, r⟩ := h
  ⟨p, e _ _ q, r⟩
theorem FAt.mono {H H' : Hp} {d : Addr} {fs : List (Str × V)} (e : Same H H') (h : FAt H d fs) : FAt H' d fs := h.elim (fun h => .inl (e _ _ h)) fun h => .inr (e _ _ h)

section
variable {X : Cx} {pins : List (Addr × Obj)} {σ : L2.St} {H : Hp} {s : Shared} {a C dx : Addr} {fs : List (Str × V)}
theorem xat_inst0 (I : Inv X pins σ H s) (h : XAt H a C none) : ∃ ox, PySem.W.InstAt s.heap a ox C none := by
  obtain ⟨p, q, r⟩ := h
  obtain ⟨ox, e1, e2, e3, e4⟩ := r _ (show ObjOk X.prog X.w H s.heap a (.ext p) from I.hok a _ q).1
  exact ⟨ox, e1, e2, e4, by rw [e3]; trivial⟩
theorem fat_ns (I : Inv X pins σ H s) (h : FAt H dx fs) : ∃ mA, s.heap.Ns1 dx mA ∧ ∀ f, RelO (fs.lookup f) (mA f) := by
  rcases h with h | h
  · exact (show ObjOk X.prog X.w H s.heap dx (exd dx fs) from I.hok dx _ h).1
  · exact (show ObjOk X.prog X.w H s.heap dx (.xd fs) from I.hok dx _ h)
theorem xat_inst (I : Inv X pins σ H s) (h : XAt H a C (some dx)) (hf : FAt H dx fs) :
    ∃ ox od, PySem.W.InstAt s.heap a ox C (some od) ∧ ∃ mA : Str → Option Value, (∀ f, RelO (fs.lookup f) (mA f)) ∧ ∀ f, PySem.W.lookIn f od = some (mA f) := by
  obtain ⟨p, q, r⟩ := h
  obtain ⟨ox, e1, e2, e3, e4⟩ := r _ (show ObjOk X.prog X.w H s.heap a (.ext p) from I.hok a _ q).1
  obtain ⟨mA, hn, hr⟩ := fat_ns I hf
  obtain ⟨od, ho, hl⟩ := lookIn_ns hn
  exact ⟨ox, od, ⟨e1, e2, e4, by rw [e3]; exact ho⟩, mA, hr, hl⟩
end

/-- e.f of such an exception -/
def tXat (K : PySem.W.Frag) (f : Str) (te : TE) : TE := fun σ H Q => te σ H fun x H1 => ∃ (a C dx : Addr) (fs : List (Str × V)) (v : V),
  x = .ref a ∧ XAt H1 a C (some dx) ∧ FAt H1 dx fs ∧ ExcC K C ∧ PySem.W.findIn K (.ref C) f = some none ∧ fs.lookup f = some v ∧ Q v H1
theorem pe_xat {X : Cx} {e : Expr} {te : TE} {pos : Pos} {n : Str} (he : PE X e te) (hb : attributeBase e n X.env (eval e X.env) = eval e X.env := by rfl) :
    PE X (.Attribute e n pos) (tXat X.K n te) := by
  refine ⟨fun pins s σ H Q I h => attr_of hb (thn (he.run pins s σ H _ I h) fun u s1 hh => ?_)⟩
  obtain ⟨x, H1, I1, rx, a, C, dx, fs, v, ex, hx, hf, T, hno, l, q⟩ := hh
  subst ex
  obtain rfl : u = Value.ref a := rx
  obtain ⟨ox, od, J, mA, hr, hl⟩ := xat_inst I1 hx hf
  obtain ⟨u, hu, ru⟩ := RelO.some_of (v := v) (o := mA n) (by rw [← l]; exact hr n)
  exact HandSPX.exc_get I1.kIn J T.hg T.hk T.hs (PySem.W.findObj_own T.hd hno rfl (by rw [hl, hu])) (handed_of ru) ⟨v, H1, I1.tok _, ru, q⟩

/-- isinstance(e, c), one class, e an exception held -/
def rIsX (K : PySem.W.Frag) : List V → Hp → VK → Prop := fun xs H Q => ∃ (a C : Addr) (c : V) (u : Value) (b : Bool),
  xs = [.ref a, c] ∧ (XAt H a C none ∨ ∃ dx fs, XAt H a C (some dx) ∧ FAt H dx fs) ∧ ExcC K C ∧ ClsV c u ∧ PySem.W.kitOne K (.ref C) u = some b ∧ Q (.bl b) H
theorem call_isX {X : Cx} : CallR X (.builtin "isinstance") (rIsX X.K) := by
  intro pins s σ H xs us Q I r h
  obtain ⟨a, C, c, u, b, rfl, hx, T, k, e, q⟩ := h
  obtain ⟨u1, u2, rfl, r1, r2⟩ := vals2 r
  obtain rfl : u1 = Value.ref a := r1
  obtain rfl := k.eq r2
  have hcl : (PySem.W.clsIn X.K C).isSome = true := by
    obtain ⟨cd, hc, _⟩ := PySem.W.any_some T.hd
    rw [hc]
    rfl
  rcases hx with hx | ⟨dx, fs, hx, hf⟩
  · obtain ⟨ox, J⟩ := xat_inst0 I hx
    exact PySem.W.kia_one (PySem.W.kitx_exc hcl T.hg T.hk T.hs T.ha T.hn T.ht T.hm) I.kIn J e (fun z => nomatch z) fun tk => ⟨.bl b, H, I.tok tk, rfl, q⟩
  · obtain ⟨ox, od, J, _⟩ := xat_inst I hx hf
    exact PySem.W.kia_one (PySem.W.kitx_exc hcl T.hg T.hk T.hs T.ha T.hn T.ht T.hm) I.kIn J e (fun z => nomatch z) fun tk => ⟨.bl b, H, I.tok tk, rfl, q⟩

section
variable {X : Cx} {CX : CXT} {k : Nat} {fI C : Addr} {fd : FuncData} {ps ks : List Str} {sp : Sp} {dvs : List V} {ds : List Value} {E : XK} {x : Str} {p pos : Pos} {e : Expr} {es : List Expr} {kws : List Keyword} {t tk : TA}
  {g : List Value → List Value → List Value} {gV : List V → List V → List V}
theorem run_mk {pins : List (Addr × Obj)} {σ : L2.St} {H : Hp} {s : Shared} {Q : VK} {us bs : List Value} {kw : List (Str × Value)} {ys : List V}
    (T : OexC X.K C) (iC : PySem.W.findIn X.K (.ref C) "__init__" = some (some (.ref fI))) (tI : PySem.W.typeIn X.K (.ref fI) = some (.type "function"))
    (F : FnOk X.prog X.w X.K X.mg X.base CX k fI fd ps sp) (hr : Room (k + 1) X.A) (hx : Passes CX X E)
    (hb : ∀ (s : Shared) (self : Value), X.K.In s.heap → BindsTo s fd ⟨self :: us, kw⟩ (ps.zip (self :: bs))) (I : Inv X pins σ H s) (r : Vals ys bs)
    (hus : us.length ≤ sizeLine) (h : ∀ a, H a = none → sp (.ref a :: ys) (upd H a (exo a C none)) (fun v H2 => v = .non ∧ Q (.ref a) H2) E) :
    wpAny (model X.prog X.w) X.A (call (.ref C) us kw) (EP X pins σ Q) X.xe s := by
  obtain ⟨nm, q, N, bs', bm, sn, sub, ab, col, dd, k0, k1, k2, k3, k5, hC, hbm⟩ := T.cls
  obtain ⟨hp, g, dr, tk, os⟩ := s
  have hsz : hp.objs.size ≤ hp.objs.size + 1 := Nat.le_succ _
  have hn : H (hp.objs.size + 1) = none := I.hok.fresh hsz
  have kk : ∀ b o, hp.get? b = some o → ((hp.push (PySem.W.kdv_tup us)).push (PySem.HandSPX.excO C hp.objs.size)).get? b = some o :=
    fun b o e => Heap.get?_push_of_some _ (Heap.get?_push_of_some _ e)
  have hget : ((hp.push (PySem.W.kdv_tup us)).push (PySem.HandSPX.excO C hp.objs.size)).get? (hp.objs.size + 1) = some (PySem.HandSPX.excO C hp.objs.size) := by
    heap_get
  have I2 : Inv X pins σ (upd H (hp.objs.size + 1) (exo (hp.objs.size + 1) C none)) ⟨(hp.push (PySem.W.kdv_tup us)).push (PySem.HandSPX.excO C hp.objs.size), g, dr, tk, os⟩ :=
    I.laid (t' := tk) (a := hp.objs.size + 1) (o := exo (hp.objs.size + 1) C none) kk hsz (exo_ok hget)
  refine wpAny_call (PySem.KxP.callKw PySem.F.excBase_ValueError (fun Y => PySem.HandSPX.refsVE_contains Y bm hbm) (I.kIn _ _ hC) (PySem.W.looks_findIn I.kIn iC)
    (fun self => PySem.W.bind_fn I.kIn self tI) hus (codeAny_mono (F.run _ X.stack _ _ ⟨Value.ref (hp.objs.size + 1) :: us, kw⟩ (Value.ref (hp.objs.size + 1) :: bs) (V.ref (hp.objs.size + 1) :: ys) _ E
      (hr.make C us kw) (I2.env0.make C us kw) (hb _ _ I2.kIn) (.cons rfl r) (h _ hn)) fun r s' hq' => ?_))
  cases r with
  | error e => exact hx pins σ _ _ e s' I2 hq'
  | ok fl =>
    cases fl with
    | ret u =>
      obtain ⟨v, H', I3, rv, ev, q3⟩ := I2.after hq'
      subst ev
      exact ⟨rv, ⟨V.ref (hp.objs.size + 1), H', I3, rfl, q3⟩⟩
    | next => exact False.elim hq'
    | brk => exact False.elim hq'
    | cont => exact False.elim hq'
/-- C(e, ..) as a value -/
def tMkV (C : Addr) (sp : Sp) (dvs : List V) (E : XK) (ta : TA) : TE := fun σ H Q => ta σ H fun vs H1 => vs.length ≤ 1000 ∧
  ∀ a, H1 a = none → sp (.ref a :: (vs ++ dvs)) (upd H1 a (exo a C none)) (fun v H2 => v = .non ∧ Q (.ref a) H2) E
theorem pe_mkV (T : OexC X.K C) (iC : PySem.W.findIn X.K (.ref C) "__init__" = some (some (.ref fI))) (tI : PySem.W.typeIn X.K (.ref fI) = some (.type "function"))
    (F : FnOk X.prog X.w X.K X.mg X.base CX k fI fd ps sp) (hr : Room (k + 1) X.A) (hg : Gl X x) (hm : X.mg x = some (.ref C)) (hb : Binds X.K fd ps ds) (hd : Vals dvs ds) (hx : Passes CX X E)
    (ha : PA X (e :: es) t) (hdb : (x == ("__debug__" : Str)) = false := by decide) (he : starEach (e :: es) X.env = (false, eval e X.env) :: starEach es X.env := by rfl)
    (hpl : (backTo pos (starEach es X.env)).any (·.1) = false := by rfl) : PE X (.Call (.Name x p) (e :: es) [] pos) (tMkV C sp dvs E t) := by
  refine ⟨fun pins s σ H Q I h => wpAny_Call_Name_kw (ld_glob I hg hm (PySem.W.callWith_K (h₀ := X.base) I.ok.mod.kin T.kC
    (thn (ha.run pos pins s σ H _ I h) fun us s1 ⟨vs, H1, I1, r, hz, q⟩ => ⟨I1.kIn, ?_⟩) he hpl) hdb)⟩
  have hus : us.length ≤ sizeLine := by
    rw [← Paired.length r, sizeLine_eq]
    omega
  have r2 := r.append hd
  refine run_mk (us := us) (kw := []) (bs := us ++ ds) T iC tI F hr hx (fun s' self hs => hb s' (self :: us) hs ?_) I1 r2 hus q
  have hl := F.len _ _ _ _ (q s1.heap.objs.size (I1.hok.fresh (Nat.le_refl _)))
  rw [List.length_append, List.length_cons, ← hl, List.length_cons, ← r2.length.symm, List.length_append]
  omega
theorem pe_mkV0 (T : OexC X.K C) (iC : PySem.W.findIn X.K (.ref C) "__init__" = some (some (.ref fI))) (tI : PySem.W.typeIn X.K (.ref fI) = some (.type "function"))
    (F : FnOk X.prog X.w X.K X.mg X.base CX k fI fd ps sp) (hr : Room (k + 1) X.A) (hg : Gl X x) (hm : X.mg x = some (.ref C)) (hb : Binds X.K fd ps ds) (hd : Vals dvs ds) (hx : Passes CX X E)
    (hdb : (x == ("__debug__" : Str)) = false := by decide) : PE X (.Call (.Name x p) [] [] pos) (tMkV C sp dvs E tNil) := by
  refine ⟨fun pins s σ H Q I ⟨_, h⟩ => wpAny_Call_Name_kw (ld_glob I hg hm (PySem.W.callWith_K0 I.kIn T.kC ?_) hdb)⟩
  refine run_mk (us := []) (kw := []) (bs := ds) T iC tI F hr hx (fun s' self hs => hb s' [self] hs ?_) I hd (Nat.zero_le _) h
  have hl := F.len _ _ _ _ (h _ (I.hok.fresh (Nat.le_refl _)))
  have hq := hd.length
  rw [List.length_append, ← hl]
  show 1 + ds.length = ([] ++ dvs).length + 1
  rw [List.nil_append, hq]
  omega
/-- C(k = v): one keyword -/
def tMkK (C : Addr) (sp : Sp) (E : XK) (tk : TA) : TE := fun σ H Q => tk σ H fun zs H1 =>
  ∀ a, H1 a = none → sp (.ref a :: zs) (upd H1 a (exo a C none)) (fun v H2 => v = .non ∧ Q (.ref a) H2) E
theorem pe_mkK (T : OexC X.K C) (iC : PySem.W.findIn X.K (.ref C) "__init__" = some (some (.ref fI))) (tI : PySem.W.typeIn X.K (.ref fI) = some (.type "function"))
    (F : FnOk X.prog X.w X.K X.mg X.base CX k fI fd ps sp) (hr : Room (k + 1) X.A) (hg : Gl X x) (hm : X.mg x = some (.ref C)) (hx : Passes CX X E)
    (hb : ∀ (s : Shared) (self : Value) (ws : List Value), X.K.In s.heap → ws.length = ks.length → BindsTo s fd ⟨[self], ks.zip ws⟩ (ps.zip (self :: ws)))
    (hkw : PK X kws tk) (hps : ps.length = ks.length + 1) (hall : (backToKw pos (keywordEach kws X.env)).all (·.1.isSome) = true := by rfl) (hks : (backToKw pos (keywordEach kws X.env)).filterMap (·.1) = ks := by rfl)
    (hdb : (x == ("__debug__" : Str)) = false := by decide) (hpl : ((backTo pos (starEach [] X.env)).any (·.1) || (backToKw pos (keywordEach kws X.env)).any (·.1.isNone)) = false := by rfl)
    : PE X (.Call (.Name x p) [] kws pos) (tMkK C sp E tk) := by
  refine ⟨fun pins s σ H Q I h => wpAny_Call_Name_kw (ld_glob I hg hm (PySem.W.callWith_KW0 (h₀ := X.base) I.ok.mod.kin T.kC hall
    (thn (hkw.run pos pins s σ H _ I h) fun ws s1 ⟨zs, H1, I1, r, q⟩ => ⟨I1.kIn, ?_⟩) hpl) hdb)⟩
  rw [hks]
  have hl := F.len _ _ _ _ (q _ (I1.hok.fresh (Nat.le_refl _)))
  refine run_mk (us := []) (bs := ws) T iC tI F hr hx (fun s' self hs => hb s' self ws hs ?_) I1 r (Nat.zero_le _) q
  rw [← r.length]
  rw [List.length_cons, hps] at hl
  omega
end
end Kx

set_option Elab.async false
set_option maxRecDepth 100000
set_option linter.all false
set_option maxHeartbeats 4000000
/-! KitE: own exception classes with one field that an __init__ sets from a default None; big powers; evaluation words. -/
namespace Kx
open PySem PySem.Spec PyProof.Rows L2 Evl

theorem op_powB {X : Cx} : OpR X (binaryOp .Pow) (rI (fun i j => 0 ≤ j ∧ (Builtin.Int.intBits i : Int) * j ≤ 2 ^ 27) fun i j => .int (i ^ j.toNat)) :=
  opI fun _ _ _ _ _ _ _ hc q => pow_int hc.1 hc.2 q
theorem same_ex {H H' : Hp} (e : Ex H H') : Same H H' := e
theorem ex_same {H H' : Hp} (e : Same H H') : Ex H H' := e

/-! ### an __init__ that sets one field -/
def spXI (C : Addr) (f : Str) : Sp := fun vs H Q _ => ∃ (a : Addr) (v : V), vs = [.ref a, v] ∧ H a = some (exo a C none) ∧
  ∀ d, H d = none → d ≠ a → Q .non (upd (upd H d (exd d [(f, v)])) a (exo a C (some d)))
section
variable {P : Program} {w : World} {K : PySem.W.Frag} {mg : Str → Option Value} {base : Heap}
theorem ok_XI {C fI : Addr} {fd : FuncData} {qual f : Str} {pa : Arguments} {bd : List Stmt} {sc : Scope} {p1 p2 p3 p4 : Pos}
    (F : FunD K "__init__" qual pa bd sc [V.non] [] fI fd) (S : FnScope ["self", f] ["self", f] sc)
    (hb : bd = [.Assign [.Attribute (.Name "self" p1) f p2] (.Name f p3) p4]) (T : OexC K C) (hno : PySem.W.findIn K (.ref C) f = some none)
    (v0 : Vis sc "self") (v1 : Vis sc f) (n1 : (f == ("__debug__" : Str)) = false) (n2 : (f == ("__classdict__" : Str)) = false)
    (hs : ∀ env : Env, swapsWith (.Name f p3) (some (.Attribute (.Name "self" p1) f p2)) p4.line env = pure false) :
    FnOk P w K mg base CX0 1 fI fd ["self", f] (spXI C f) := by
  refine F.ok (CX := CX0) S (fun vs H Q E h => ?_) (fun cdv A outer s H vs Q E hr h => ?_)
  · obtain ⟨a, v, rfl, _⟩ := h
    rfl
  · obtain ⟨a, v, rfl, ha, k⟩ := h
    subst hb
    refine ⟨_, PSs.nox (pss_one (ps_ost (pe_var (i := 0) rfl v0) (pe_var (i := 1) rfl v1 n1 n2) (hs _))), ?_⟩
    exact ⟨_, rfl, _, rfl, a, C, rfl, T, hno, .inl ⟨ha, fun d hd hne => k d hd hne⟩⟩
end

/-- an own exception class of the text whose __init__ sets the field f -/
structure XCls (P : Program) (w : World) (K : PySem.W.Frag) (mg : Str → Option Value) (x f : Str) (C fI : Addr) (fd : FuncData) : Prop where
  mgC : mg x = some (.ref C)
  o : OexC K C
  e : ExcC K C
  no : PySem.W.findIn K (.ref C) f = some none
  iC : PySem.W.findIn K (.ref C) "__init__" = some (some (.ref fI))
  tI : PySem.W.typeIn K (.ref fI) = some (.type "function")
  b2 : Binds K fd ["self", f] []
  b1 : ∃ ds, Vals [V.non] ds ∧ Binds K fd ["self", f] ds
  bk : ∀ (s : Shared) (self : Value) (ws : List Value), K.In s.heap → ws.length = 1 → BindsTo s fd ⟨[self], ([f] : List Str).zip ws⟩ ((["self", f] : List Str).zip (self :: ws))
  fn : ∀ base : Heap, FnOk P w K mg base CX0 1 fI fd ["self", f] (spXI C f)

/-- e is an exception of the class at C with the field f holding v -/
def XV (H : Hp) (e C : Addr) (f : Str) (v : V) : Prop := ∃ d, H e = some (exo e C (some d)) ∧ H d = some (exd d [(f, v)])
theorem XV.mono {H H' : Hp} {e C : Addr} {f : Str} {v : V} (x : Same H H') (h : XV H e C f v) : XV H' e C f v :=
  let ⟨d, a, b⟩ := h
  ⟨d, x _ _ a, x _ _ b⟩
theorem XV.xat {H : Hp} {e C : Addr} {f : Str} {v : V} (h : XV H e C f v) : ∃ dx fs, XAt H e C (some dx) ∧ FAt H dx fs :=
  let ⟨d, a, b⟩ := h
  ⟨d, _, xat_exo a, .inl b⟩
/-- a new exception with its field: what was there stays -/
theorem xv_made {H : Hp} {C a d : Addr} {f : Str} {v : V} (ha : H a = none) (hd : (upd H a (exo a C none)) d = none) (hne : d ≠ a) :
    Same H (upd (upd (upd H a (exo a C none)) d (exd d [(f, v)])) a (exo a C (some d))) ∧ XV (upd (upd (upd H a (exo a C none)) d (exd d [(f, v)])) a (exo a C (some d))) a C f v := by
  refine ⟨fun b o e => ?_, d, upd_same, by rw [upd_ne hne]; exact upd_same⟩
  have h1 : b ≠ a := ne_of_none e ha
  have h2 : b ≠ d := fun z => by
    rw [← z, upd_ne h1, e] at hd
    cases hd
  rw [upd_ne h1, upd_ne h2, upd_ne h1]
  exact e

section
variable {X : Cx} {fI C : Addr} {fd : FuncData} {x f : Str} {p pos : Pos}
/-- C(e), C(), C(f = e) of such a class, telling only that it holds the field -/
def tXV (C : Addr) (f : Str) (te : TE) : TE := fun σ H Q => te σ H fun v H1 => ∀ a H2, H1 a = none → Same H1 H2 → XV H2 a C f v → Q (.ref a) H2
theorem PE.imp {e : Expr} {t t' : TE} (h : PE X e t) (k : ∀ σ H Q, t' σ H Q → t σ H Q) : PE X e t' := ⟨fun pins s σ H Q I q => h.run pins s σ H Q I (k σ H Q q)⟩
theorem pe_xv1 {e : Expr} {te : TE} (T : XCls X.prog X.w X.K X.mg x f C fI fd) (hr : Room 2 X.A) (hg : Gl X x) (he : PE X e te)
    (hm : ∀ σ H (Q Q' : VK), (∀ v H1, Q v H1 → Q' v H1) → te σ H Q → te σ H Q')
    (hdb : (x == ("__debug__" : Str)) = false := by decide) (hs : starEach [e] X.env = (false, eval e X.env) :: starEach [] X.env := by rfl)
    (hpl : (backTo pos (starEach [] X.env)).any (·.1) = false := by rfl) : PE X (.Call (.Name x p) [e] [] pos) (tXV C f te) := by
  refine PE.imp (pe_mkV T.o T.iC T.tI (T.fn X.base) hr hg T.mgC T.b2 .nil pass0 (pa_cons he pa_nil hs) hdb hs hpl) fun σ H Q q => ?_
  refine hm σ H _ _ (fun v H1 k => ?_) q
  refine ⟨by show 1 ≤ 1000; decide, fun a ha => ⟨a, v, rfl, upd_same, fun d hd hne => ⟨rfl, ?_⟩⟩⟩
  obtain ⟨h1, h2⟩ := xv_made (f := f) (v := v) ha hd hne
  exact k a _ ha h1 h2
theorem pe_xv0 (T : XCls X.prog X.w X.K X.mg x f C fI fd) (hr : Room 2 X.A) (hg : Gl X x) (hdb : (x == ("__debug__" : Str)) = false := by decide) :
    PE X (.Call (.Name x p) [] [] pos) (tXV C f (tC .non)) := by
  obtain ⟨ds, hd, hb⟩ := T.b1
  refine PE.imp (pe_mkV0 T.o T.iC T.tI (T.fn X.base) hr hg T.mgC hb hd pass0 hdb) fun σ H Q q => ?_
  refine ⟨Nat.zero_le _, fun a ha => ⟨a, .non, rfl, upd_same, fun d hd hne => ⟨rfl, ?_⟩⟩⟩
  obtain ⟨h1, h2⟩ := xv_made (f := f) (v := .non) ha hd hne
  exact q a _ ha h1 h2
theorem pe_xvk {e : Expr} {te : TE} {kp : Pos} (T : XCls X.prog X.w X.K X.mg x f C fI fd) (hr : Room 2 X.A) (hg : Gl X x) (he : PE X e te)
    (hm : ∀ σ H (Q Q' : VK), (∀ v H1, Q v H1 → Q' v H1) → te σ H Q → te σ H Q')
    (hall : (backToKw pos (keywordEach [⟨some f, e, kp⟩] X.env)).all (·.1.isSome) = true := by rfl) (hks : (backToKw pos (keywordEach [⟨some f, e, kp⟩] X.env)).filterMap (·.1) = [f] := by rfl)
    (hdb : (x == ("__debug__" : Str)) = false := by decide) (hpl : ((backTo pos (starEach [] X.env)).any (·.1) || (backToKw pos (keywordEach [⟨some f, e, kp⟩] X.env)).any (·.1.isNone)) = false := by rfl) :
    PE X (.Call (.Name x p) [] [⟨some f, e, kp⟩] pos) (tXV C f te) := by
  refine PE.imp (pe_mkK (ks := [f]) T.o T.iC T.tI (T.fn X.base) hr hg T.mgC pass0 T.bk (pk_cons he pk_nil) rfl hall hks hdb hpl) fun σ H Q q => ?_
  refine hm σ H _ _ (fun v H1 k => ?_) q
  refine fun a ha => ⟨a, v, rfl, upd_same, fun d hd hne => ⟨rfl, ?_⟩⟩
  obtain ⟨h1, h2⟩ := xv_made (f := f) (v := v) ha hd hne
  exact k a _ ha h1 h2
/-- C() of an own exception class without own __init__ -/
theorem pe_exc0 {bmB : List Value} {B newId initId : String} (F : ExcBaseFacts B newId initId bmB) (q : PySem.W.excIn X.K C bmB newId = true) (gC : X.mg x = some (.ref C)) (kC : PySem.W.keepIn X.K (.ref C) = true) (hg : Gl X x)
    (hdb : (x == ("__debug__" : Str)) = false := by decide) : PE X (.Call (.Name x p) [] [] pos) (fun σ H Q => ∀ a, H a = none → Q (.ref a) (upd H a (ExO (.ref C) a))) := by
  refine ⟨fun pins s σ H Q I h => wpAny_Call_Name_kw (ld_glob I hg gC (PySem.W.callWith_K0 I.kIn kC ?_) hdb)⟩
  show wpAny _ _ (call (.ref C) []) _ _ _
  obtain ⟨bm, N, nm, qn, bs, hdct, sn, sub, ab, col, dd, k0, k1, k2, k3, k5, mN, hC, hN, hni, T⟩ := exc_obj I.kIn q
  refine wpAny_call_exc_subT F T hC hN hni (fun h' a hm => ?_) (Nat.zero_le _)
  have hn : H a = none := I.hok.gone hm.new
  obtain ⟨t, ht, _, _⟩ := hm.there
  exact ⟨.ref a, upd H a (ExO (.ref C) a), I.laidN hm.keeps hm.new hn (exO_ok ht ⟨rfl, rfl⟩ rfl rfl rfl (show 4 < 6 by decide)), rfl, h a hn⟩
end
theorem xat_ExO {H : Hp} {a C : Addr} (h : H a = some (ExO (.ref C) a)) : XAt H a C none :=
  ⟨_, h, fun _ ⟨oe, vs, e, z, d, _⟩ => ⟨oe, e, z.1, z.2, by unfold PySem.W.notCls; rw [d]⟩⟩
end Kx

set_option Elab.async false
set_option maxRecDepth 100000
set_option linter.all false
set_option maxHeartbeats 4000000
/-! KitHd: the head by one run of the top in the kernel; what a law's end leans on as data (defs by names) and one Bool. -/
namespace Kx
open PySem PySem.Spec PyProof.Rows L2 Evl
abbrev AlX : Type := He.AlD × Bool
def obsK (fa : List He.Fa) (fn : List He.DefD) (chk : PySem.W.Frag → Bool) (K : PySem.W.Frag) : AlX := (He.obsD fa fn K, chk K)
def obsX (n : Nat) (fa : List He.Fa) (fn : List He.DefD) (chk : PySem.W.Frag → Bool) (g : Addr → Option Obj) : AlX := obsK fa fn chk (He.frG g (He.asD g n))
structure SaysX (fa : List He.Fa) (fn : List He.DefD) (chk : PySem.W.Frag → Bool) (K : PySem.W.Frag) : Prop where
  d : He.SaysD fa fn K
  c : chk K = true
def hookX (n : Nat) (fa : List He.Fa) (fn : List He.DefD) (chk : PySem.W.Frag → Bool) : PySem.W.Hook where
  α := AlX
  obs := fun s => obsX n fa fn chk s.heap.get?
  val := fun _ => (He.valD fn, true)
  says := fun _ h => ∃ K : PySem.W.Frag, K.In h ∧ SaysX fa fn chk K
  of := fun _ _ e => ⟨_, He.frG_in, ⟨congrArg (fun z : AlX => z.1) e, congrArg (fun z : AlX => z.2) e⟩⟩
  keeps := fun _ _ _ ⟨K, hK, c⟩ k => ⟨K, PySem.W.Frag.In.keeps hK k, c⟩
theorem obsX_eq {n : Nat} {fa : List He.Fa} {fn : List He.DefD} {chk : PySem.W.Frag → Bool} {g : Addr → Option Obj} {s : Shared} (h : ∀ a, g a = s.heap.get? a) : obsX n fa fn chk g = (hookX n fa fn chk).obs s := by
  have e : g = s.heap.get? := funext h
  rw [e] <;> rfl
/-- .. the part of the heap told by its addresses -/
def obsL (as : List Addr) (fa : List He.Fa) (fn : List He.DefD) (chk : PySem.W.Frag → Bool) (g : Addr → Option Obj) : AlX := obsK fa fn chk (He.frG g as)
def hookL (as : List Addr) (fa : List He.Fa) (fn : List He.DefD) (chk : PySem.W.Frag → Bool) : PySem.W.Hook where
  α := AlX
  obs := fun s => obsL as fa fn chk s.heap.get?
  val := fun _ => (He.valD fn, true)
  says := fun _ h => ∃ K : PySem.W.Frag, K.In h ∧ SaysX fa fn chk K
  of := fun _ _ e => ⟨_, He.frG_in, ⟨congrArg (fun z : AlX => z.1) e, congrArg (fun z : AlX => z.2) e⟩⟩
  keeps := fun _ _ _ ⟨K, hK, c⟩ k => ⟨K, PySem.W.Frag.In.keeps hK k, c⟩
theorem obsL_eq {as : List Addr} {fa : List He.Fa} {fn : List He.DefD} {chk : PySem.W.Frag → Bool} {g : Addr → Option Obj} {s : Shared} (h : ∀ a, g a = s.heap.get? a) : obsL as fa fn chk g = (hookL as fa fn chk).obs s := by
  have e : g = s.heap.get? := funext h
  rw [e] <;> rfl
theorem funD_fun {K : PySem.W.Frag} {x q : Str} {st : Stmt} {f : Addr} {fd : FuncData} (F : FunD K x q (defArgs st) (defBody st) (defScope st) [] [] f fd) : Fun K x q st f fd := by
  obtain ⟨⟨oc, od, dV, kV, doc, pm, an, cdv, ct, osl, rfl, lk, hcd, hD, hK⟩, kp⟩ := F
  rcases hD with ⟨_, rfl⟩ | ⟨e, _⟩
  · exact ⟨⟨oc, od, kV, doc, pm, an, cdv, ct, osl, rfl, lk, hcd⟩, kp⟩
  · exact absurd rfl e
/-- a law: what the Hook says gives the written part, the law's def, its promise -/
theorem walk_GE {l : PySem.W.OpenLaw} {n k : Nat} {q : Program} {loose : List Str} {XP : (Str → Option Value) → Heap → Prop}
    {YP : World → Heap → Prop} {d : PySem.DefRec} {CX : World → CXT} {x : Str}
    (hn : l.most = some n) (hn2 : n ≤ sizeLine) (hdf : d.params.defaults = []) (hr : Room k callerA) (hq : importsNone q = true)
    (F : ∀ (w : World) (mg : Str → Option Value) (fa : Addr) (h : Heap), YP w h → h.Ns mainGlobals mg → mg d.name = some (.ref fa) →
      ∃ (K : PySem.W.Frag) (fd : FuncData) (sp : Sp), K.In h ∧ K.lookup sysModules = none ∧ (∀ (s : Shared) (u : Value), BindsTo s fd ⟨[u], []⟩ [(x, u)]) ∧
        (∀ (H : Hp) (a : Addr) (ns : List Int), ns.length ≤ n → (∀ z ∈ ns, Builtin.Int.intBits z ≤ 1048576) → Sys H → SqL K H a (ns.map V.int) → sp [.ref a] H (fun v _ => v = .bl true) fun _ _ _ => False) ∧
        ∀ base : Heap, K.In base → base.Ns mainGlobals mg → GnOk l.prog w K mg base (CX w) k fa fd [x] sp)
    (hCX : ∀ (w : World) (H : Hp) (s : Shared) (e : Value) (s' : Shared), CX w [] H s (fun _ _ _ => False) e s' → False) :
    PySem.W.WalkO q loose XP YP l.row.toRowW d [] (fun f vs => PySem.call f vs) := by
  refine Att.attach_callB hn hdf fun w s₀ s₁ mg mb fa o pm cd doc a vs ns G Y ho hd hcd hmg hobj hints hlen hbits hg => ?_
  obtain ⟨K, fd, sp, KX, hK1, hb, hsp, hF⟩ := F w mg fa _ Y G.T.g hmg
  exact law_callG KX G.T.g G.T.b G.T.builtins G.T.nolimit hg (let ⟨mm, a, _⟩ := (G.T.seer hq).mods; ⟨mm, a⟩) hK1 hobj hints (Nat.le_trans hlen hn2) hr hF hb
    (fun H hS hQ => hsp H a ns hlen hbits hS hQ) fun H e s' => hCX w H s₁ e s'

/-! ### own exception classes, by a Bool -/
def exB (K : PySem.W.Frag) (C : Addr) : Bool :=
  decide (PySem.W.findIn K (.ref C) "__getattribute__" = some (some (.builtin "BaseException.__getattribute__"))) && decide (PySem.W.findIn K (.ref C) "__getattr__" = some none) &&
    decide (PySem.W.subIn K (.ref C) (.type "BaseException") = some true) && PySem.W.hasDictIn K C && decide (PySem.W.findIn K (.ref C) "__class__" = some (some (.builtin "object.__class__"))) &&
    decide (PySem.W.specialIn K (.builtin "object.__class__") "__get__" = some (some (.builtin "getset_descriptor.__get__"))) && decide (PySem.W.takesIn K (.builtin "object.__class__") = some true) &&
    decide (PySem.W.mroIn K C (.type "object") = some true) && decide (PySem.W.findIn K (.ref C) "__setattr__" = some (some (.builtin "object.__setattr__"))) && decide (PySem.W.typeIn K (.ref C) = some (.type "type")) && PySem.W.keepIn K (.ref C)
theorem exB_ok {K : PySem.W.Frag} {C : Addr} (h : exB K C = true) : ExcC K C ∧ PySem.W.findIn K (.ref C) "__setattr__" = some (some (.builtin "object.__setattr__")) ∧ PySem.W.typeIn K (.ref C) = some (.type "type") ∧ PySem.W.keepIn K (.ref C) = true := by
  unfold exB at h
  simp only [Bool.and_eq_true, decide_eq_true_eq] at h
  obtain ⟨⟨⟨⟨⟨⟨⟨⟨⟨⟨h1, h2⟩, h3⟩, h4⟩, h5⟩, h6⟩, h7⟩, h8⟩, h9⟩, h10⟩, h11⟩ := h
  exact ⟨⟨h1, h2, h3, h4, h5, h6, h7, h8⟩, h9, h10, h11⟩
def exFm (K : PySem.W.Frag) (C : Addr) : Bool := match K.lookup C with
  | some ⟨.type "type", _, .cls cd, sl⟩ => (match cd.mro, sl.toList with
    | .ref C' :: bm, [_, _, _, _, some (.builtin n), _] => C' == C && (n == "ValueError.__new__" && (!cd.hasDel && (cd.hasDict && PySem.HandSPX.refsVE bm)))
    | _, _ => false)
  | _ => false
theorem exFm_ok {K : PySem.W.Frag} {C : Addr} (q : exFm K C = true) : ∃ nm q N bs bm sn sub ab col dd k0 k1 k2 k3 k5, K.lookup C = some (excClassObj nm q C N bs bm true sn sub ab col dd k0 k1 k2 k3 k5 "ValueError.__new__") ∧ PySem.HandSPX.refsVE bm = true := by
  unfold exFm at q
  split at q
  · rename_i dd cd sl ho
    split at q
    · rename_i C' bm k0 k1 k2 k3 n k5 hm hs
      simp only [Bool.and_eq_true, beq_iff_eq, Bool.not_eq_true'] at q
      obtain ⟨rfl, rfl, hdel, hdc, ht⟩ := q
      obtain ⟨nm, bs, mro, ns, qn, hd, sn, sub, ab, col, del⟩ := cd
      dsimp only at hm hdel hdc
      subst hm hdel hdc
      have hsl : sl = #[k0, k1, k2, k3, some (.builtin "ValueError.__new__"), k5] := by
        obtain ⟨l⟩ := sl
        simp only at hs
        rw [hs]
      subst hsl
      exact ⟨nm, qn, ns, bs, bm, sn, sub, ab, col, dd, k0, k1, k2, k3, k5, ho, ht⟩
    · cases q
  · cases q
/-- all that is asked of an own exception class with one field -/
def exAll (K : PySem.W.Frag) (x : Str) (f : Str) : Bool :=
  exFm K (He.ga K x) && exB K (He.ga K x) && decide (PySem.W.findIn K (.ref (He.ga K x)) "__init__" = some (some (.ref (He.ma K (He.ga K x) "__init__")))) && decide (PySem.W.typeIn K (.ref (He.ma K (He.ga K x) "__init__")) = some (.type "function")) &&
    decide (PySem.W.findIn K (.ref (He.ga K x)) f = some none)
theorem xcls_of {P : Program} {w : World} {K : PySem.W.Frag} {mg : Str → Option Value} {x f qual : Str} {st : Stmt} {fd : FuncData} {p1 p2 p3 p4 : Pos}
    (aC : mg x = some (.ref (He.ga K x))) (q : exAll K x f = true) (F : FunD K "__init__" qual (defArgs st) (defBody st) (defScope st) [V.non] [] (He.ma K (He.ga K x) "__init__") fd)
    (S : FnScope ["self", f] ["self", f] (defScope st)) (hb : defBody st = [.Assign [.Attribute (.Name "self" p1) f p2] (.Name f p3) p4])
    (v0 : Vis (defScope st) "self") (v1 : Vis (defScope st) f) (n1 : (f == ("__debug__" : Str)) = false) (n2 : (f == ("__classdict__" : Str)) = false)
    (hs : ∀ env : Env, swapsWith (.Name f p3) (some (.Attribute (.Name "self" p1) f p2)) p4.line env = pure false)
    (B2 : ∀ (T : Addr) (kV doc pm : Value) (an : Option Addr) (cdv ct : Value) (us its : List Value), us.length = 2 → its.length = 1 → ∃ k, bindArgs (PySem.W.fnOf "__init__" qual (defArgs st) (defBody st) (defScope st) (.ref T) kV doc pm an cdv ct) ⟨us, []⟩ = seqItems? (.ref T) >>= k ∧ k (some its.toArray) = pure ((["self", f] : List Str).zip (us ++ its.drop 1)))
    (B1 : ∀ (T : Addr) (kV doc pm : Value) (an : Option Addr) (cdv ct : Value) (us its : List Value), us.length = 1 → its.length = 1 → ∃ k, bindArgs (PySem.W.fnOf "__init__" qual (defArgs st) (defBody st) (defScope st) (.ref T) kV doc pm an cdv ct) ⟨us, []⟩ = seqItems? (.ref T) >>= k ∧ k (some its.toArray) = pure ((["self", f] : List Str).zip (us ++ its.drop 0)))
    (BK : ∀ (T : Addr) (kV doc pm : Value) (an : Option Addr) (cdv ct : Value) (us its ws : List Value), us.length = 1 → its.length = 1 → ws.length = 1 → ∃ k, bindArgs (PySem.W.fnOf "__init__" qual (defArgs st) (defBody st) (defScope st) (.ref T) kV doc pm an cdv ct) ⟨us, ([f] : List Str).zip ws⟩ = seqItems? (.ref T) >>= k ∧ k (some its.toArray) = pure ((["self", f] : List Str).zip (us ++ ws))) :
    XCls P w K mg x f (He.ga K x) (He.ma K (He.ga K x) "__init__") fd := by
  unfold exAll at q
  simp only [Bool.and_eq_true, decide_eq_true_eq] at q
  obtain ⟨⟨⟨⟨q1, q2⟩, q3⟩, q4⟩, q5⟩ := q
  obtain ⟨e1, e2, e3, e4⟩ := exB_ok q2
  have O : OexC K (He.ga K x) := ⟨exFm_ok q1, e2, e1.hs, e3, e4⟩
  have fn : ∀ base : Heap, FnOk P w K mg base CX0 1 (He.ma K (He.ga K x) "__init__") fd ["self", f] (spXI (He.ga K x) f) := fun base => ok_XI (p1 := p1) (p2 := p2) (p3 := p3) (p4 := p4) F S hb O q5 v0 v1 n1 n2 hs
  obtain ⟨⟨oc, od, dV, kV, doc, pm, an, cdv, ct, osl, rfl, l, c, hD, hK⟩, kp⟩ := F
  rcases hD with ⟨e, _⟩ | ⟨_, T, o, its, n, rfl, tl, to, vi⟩
  · cases e
  cases vi with
  | @cons v u vs us r rr =>
  cases rr
  cases (show u = Value.none from r)
  have lk : ∀ (us : List Value) (kw : List (Str × Value)) (binds : List (Str × Value)), (∃ k, bindArgs (PySem.W.fnOf "__init__" qual (defArgs st) (defBody st) (defScope st) (.ref T) kV doc pm an cdv ct) ⟨us, kw⟩ = seqItems? (.ref T) >>= k ∧ k (some #[Value.none]) = pure binds) →
      ∀ s : Shared, K.In s.heap → BindsTo s (PySem.W.fnOf "__init__" qual (defArgs st) (defBody st) (defScope st) (.ref T) kV doc pm an cdv ct) ⟨us, kw⟩ binds := fun us kw binds ⟨k, q1, q2⟩ s hs => BindsTo.of_looks fun M => by
    rw [q1]
    exact looks_items hs tl to (.of_pure q2)
  refine ⟨aC, O, e1, q5, q3, q4, fun s us hs hl => ?_, ⟨[Value.none], .cons rfl .nil, fun s us hs hl => ?_⟩, fun s self ws hs hl => ?_, fn⟩
  · rw [List.append_nil] at hl ⊢
    have q := B2 T kV doc pm an cdv ct us [Value.none] hl rfl
    rw [show us ++ List.drop 1 [Value.none] = us from List.append_nil us] at q
    exact lk us [] _ q s hs
  · have hl' : us.length = 1 := by
      rw [List.length_append] at hl
      have h2 : us.length + 1 = 2 := hl
      omega
    exact lk us [] _ (B1 T kV doc pm an cdv ct us [Value.none] hl' rfl) s hs
  · exact lk [self] _ _ (BK T kV doc pm an cdv ct [self] [Value.none] ws rfl rfl hl) s hs
/-! ### an own class whose instances are made, asked and compared -/
def tysB : List String := ["NoneType", "bool", "int", "str", "list", "tuple", "dict"]
def clsB (K : PySem.W.Frag) (x : Str) : Bool :=
  let C := He.ga K x
  PySem.W.plainGet K C Str.empty && PySem.W.hasDictIn K C && PySem.W.plainOver K C && decide (PySem.W.findIn K (.ref C) "__setattr__" = some (some (.builtin "object.__setattr__"))) &&
    decide (PySem.W.findIn K (.ref C) "__class__" = some (some (.builtin "object.__class__"))) && decide (PySem.W.specialIn K (.builtin "object.__class__") "__get__" = some (some (.builtin "getset_descriptor.__get__"))) && decide (PySem.W.takesIn K (.builtin "object.__class__") = some true) && decide (PySem.W.mroIn K C (.type "object") = some true) &&
    (tysB.all fun T => decide (PySem.W.kitOne K (.type T) (.ref C) = some false)) && (tysB.all fun T => decide (PySem.W.subIn K (.ref C) (.type T) = some false)) && (tysB.all fun T => PySem.W.notFirst K C (.type T)) && PySem.W.notFirst K C (.ref C)
structure ClsB (K : PySem.W.Frag) (C : Addr) : Prop where
  cl : Cls K C
  ha : PySem.W.findIn K (.ref C) "__class__" = some (some (.builtin "object.__class__"))
  hn : PySem.W.specialIn K (.builtin "object.__class__") "__get__" = some (some (.builtin "getset_descriptor.__get__"))
  ht : PySem.W.takesIn K (.builtin "object.__class__") = some true
  hm : PySem.W.mroIn K C (.type "object") = some true
  no : ∀ T ∈ tysB, PySem.W.kitOne K (.type T) (.ref C) = some false
  su : ∀ T ∈ tysB, PySem.W.subIn K (.ref C) (.type T) = some false
  nf : ∀ T ∈ tysB, PySem.W.notFirst K C (.type T) = true
  ns : PySem.W.notFirst K C (.ref C) = true
theorem clsB_ok {K : PySem.W.Frag} {x : Str} (h : clsB K x = true) : ClsB K (He.ga K x) := by
  unfold clsB at h
  simp only [Bool.and_eq_true, decide_eq_true_eq] at h
  obtain ⟨⟨⟨⟨⟨⟨⟨⟨⟨⟨⟨p1, p2⟩, p3⟩, p4⟩, p5⟩, p6⟩, p7⟩, p8⟩, p9⟩, p10⟩, p11⟩, p12⟩ := h
  exact ⟨⟨p1, p2, p3, p4⟩, p5, p6, p7, p8, fun T hT => of_decide_eq_true (List.all_eq_true.mp p9 T hT), fun T hT => of_decide_eq_true (List.all_eq_true.mp p10 T hT), fun T hT => List.all_eq_true.mp p11 T hT, p12⟩
def eqB (K : PySem.W.Frag) (x : Str) : Bool := PySem.W.isFn K (.ref (He.ma K (He.ga K x) "__eq__")) && decide (PySem.W.findIn K (.ref (He.ga K x)) "__ne__" = some (some (.builtin "object.__ne__"))) && decide (PySem.W.subIn K (.ref (He.ga K x)) (.type "object") = some true) &&
  decide (PySem.W.findIn K (.ref (He.ga K x)) "__eq__" = some (some (.ref (He.ma K (He.ga K x) "__eq__"))))
end Kx

set_option Elab.async false
set_option maxRecDepth 100000
set_option linter.all false
namespace Lx
open PySem PySem.Spec PyProof.Rows L2
def top (i : Nat) : Stmt := PySem.Challenge.pw_callersrights_k24_runs_and_outcomes_refu.main.body.getD i (.Pass ⟨0, 0, 0, 0⟩)
end Lx

set_option Elab.async false
set_option maxRecDepth 100000
set_option linter.all false
set_option maxHeartbeats 0
namespace Lx
open PySem PySem.Spec PyProof.Rows L2 Evl Kx
def fnH : List He.DefD := [
  ⟨("is_whole", none), "is_whole", "is_whole", defArgs (top 4), defBody (top 4), defScope (top 4), [], []⟩,
  ⟨("is_name", none), "is_name", "is_name", defArgs (top 5), defBody (top 5), defScope (top 5), [], []⟩,
  ⟨("is_tuple_of", none), "is_tuple_of", "is_tuple_of", defArgs (top 6), defBody (top 6), defScope (top 6), [], []⟩,
  ⟨("is_step", none), "is_step", "is_step", defArgs (top 8), defBody (top 8), defScope (top 8), [], []⟩,
  ⟨("is_nest", none), "is_nest", "is_nest", defArgs (top 9), defBody (top 9), defScope (top 9), [], []⟩,
  ⟨("copy_body", none), "copy_body", "copy_body", defArgs (top 10), defBody (top 10), defScope (top 10), [], []⟩,
  ⟨("copy_step", none), "copy_step", "copy_step", defArgs (top 11), defBody (top 11), defScope (top 11), [], []⟩,
  ⟨("with_inner", none), "with_inner", "with_inner", defArgs (top 12), defBody (top 12), defScope (top 12), [], []⟩,
  ⟨("inner_bodies", none), "inner_bodies", "inner_bodies", defArgs (top 13), defBody (top 13), defScope (top 13), [], []⟩,
  ⟨("inner_body", none), "inner_body", "inner_body", defArgs (top 14), defBody (top 14), defScope (top 14), [], []⟩,
  ⟨("step_on", none), "step_on", "step_on", defArgs (top 17), defBody (top 17), defScope (top 17), [], []⟩,
  ⟨("is_spot", none), "is_spot", "is_spot", defArgs (top 18), defBody (top 18), defScope (top 18), [], []⟩,
  ⟨("check_size", none), "check_size", "check_size", defArgs (top 34), defBody (top 34), defScope (top 34), [], []⟩,
  ⟨("check_rights", none), "check_rights", "check_rights", defArgs (top 35), defBody (top 35), defScope (top 35), [], []⟩,
  ⟨("check_owners", none), "check_owners", "check_owners", defArgs (top 36), defBody (top 36), defScope (top 36), [], []⟩,
  ⟨("check_functions", none), "check_functions", "check_functions", defArgs (top 37), defBody (top 37), defScope (top 37), [], []⟩,
  ⟨("is_owner", none), "is_owner", "is_owner", defArgs (top 38), defBody (top 38), defScope (top 38), [], []⟩,
  ⟨("is_choice", none), "is_choice", "is_choice", defArgs (top 39), defBody (top 39), defScope (top 39), [], []⟩,
  ⟨("is_function", none), "is_function", "is_function", defArgs (top 40), defBody (top 40), defScope (top 40), [], []⟩,
  ⟨("copy_owners", none), "copy_owners", "copy_owners", defArgs (top 41), defBody (top 41), defScope (top 41), [], []⟩,
  ⟨("copy_functions", none), "copy_functions", "copy_functions", defArgs (top 42), defBody (top 42), defScope (top 42), [], []⟩,
  ⟨("need_program", none), "need_program", "need_program", defArgs (top 43), defBody (top 43), defScope (top 43), [], []⟩,
  ⟨("kept_step", none), "kept_step", "kept_step", defArgs (top 44), defBody (top 44), defScope (top 44), [], []⟩,
  ⟨("need_place", none), "need_place", "need_place", defArgs (top 45), defBody (top 45), defScope (top 45), [], []⟩,
  ⟨("is_ordered", none), "is_ordered", "is_ordered", defArgs (top 46), defBody (top 46), defScope (top 46), [], []⟩,
  ⟨("need_ordered", none), "need_ordered", "need_ordered", defArgs (top 47), defBody (top 47), defScope (top 47), [], []⟩,
  ⟨("run_to", none), "run_to", "run_to", defArgs (top 59), defBody (top 59), defScope (top 59), [], []⟩,
  ⟨("outcome", none), "outcome", "outcome", defArgs (top 61), defBody (top 61), defScope (top 61), [], []⟩,
  ⟨("first_fail", none), "first_fail", "first_fail", defArgs (top 62), defBody (top 62), defScope (top 62), [], []⟩,
  ⟨("last_end", none), "last_end", "last_end", defArgs (top 64), defBody (top 64), defScope (top 64), [], []⟩,
  ⟨("_law_cell", none), "_law_cell", "_law_cell", defArgs (top 66), defBody (top 66), defScope (top 66), [], []⟩,
  ⟨("_law_hash", none), "_law_hash", "_law_hash", defArgs (top 67), defBody (top 67), defScope (top 67), [], []⟩,
  ⟨("_law_generator", none), "_law_generator", "_law_generator", defArgs (top 68), defBody (top 68), defScope (top 68), [], []⟩,
  ⟨("_law_random", none), "_law_random", "_law_random", defArgs (top 69), defBody (top 69), defScope (top 69), [], []⟩,
  ⟨("_law_rights_drawn", none), "_law_rights_drawn", "_law_rights_drawn", defArgs (top 70), defBody (top 70), defScope (top 70), [], []⟩,
  ⟨("_law_owners_drawn", none), "_law_owners_drawn", "_law_owners_drawn", defArgs (top 71), defBody (top 71), defScope (top 71), [], []⟩,
  ⟨("_law_step_drawn", none), "_law_step_drawn", "_law_step_drawn", defArgs (top 72), defBody (top 72), defScope (top 72), [], []⟩,
  ⟨("_law_body_drawn", none), "_law_body_drawn", "_law_body_drawn", defArgs (top 73), defBody (top 73), defScope (top 73), [], []⟩,
  ⟨("_law_copied", none), "_law_copied", "_law_copied", defArgs (top 74), defBody (top 74), defScope (top 74), [], []⟩,
  ⟨("_law_program", none), "_law_program", "_law_program", defArgs (top 75), defBody (top 75), defScope (top 75), [], []⟩,
  ⟨("_law_count", none), "_law_count", "_law_count", defArgs (top 76), defBody (top 76), defScope (top 76), [], []⟩,
  ⟨("_law_parts", none), "_law_parts", "_law_parts", defArgs (top 77), defBody (top 77), defScope (top 77), [], []⟩,
  ⟨("_law_all_places", none), "_law_all_places", "_law_all_places", defArgs (top 78), defBody (top 78), defScope (top 78), [], []⟩,
  ⟨("_law_by_path", none), "_law_by_path", "_law_by_path", defArgs (top 79), defBody (top 79), defScope (top 79), [], []⟩,
  ⟨("_law_caught", none), "_law_caught", "_law_caught", defArgs (top 80), defBody (top 80), defScope (top 80), [], []⟩,
  ⟨("_law_lists_refused", none), "_law_lists_refused", "_law_lists_refused", defArgs (top 81), defBody (top 81), defScope (top 81), [], []⟩,
  ⟨("_law_refused", none), "_law_refused", "_law_refused", defArgs (top 82), defBody (top 82), defScope (top 82), [], []⟩,
  ⟨("law", none), "law", "law", defArgs (top 83), defBody (top 83), defScope (top 83), [], []⟩,
  ⟨("is_body", none), "is_body", "is_body", defArgs (top 7), defBody (top 7), defScope (top 7), [.bl false], []⟩,
  ⟨("Program", some "__init__"), "__init__", "Program.__init__", defArgs (inClass (top 33) 0), defBody (inClass (top 33) 0), defScope (inClass (top 33) 0), [], []⟩,
  ⟨("Program", some "rights"), "rights", "Program.rights", defArgs (inClass (top 33) 1), defBody (inClass (top 33) 1), defScope (inClass (top 33) 1), [], []⟩,
  ⟨("Program", some "__eq__"), "__eq__", "Program.__eq__", defArgs (inClass (top 33) 4), defBody (inClass (top 33) 4), defScope (inClass (top 33) 4), [], []⟩,
  ⟨("InvalidList", some "__init__"), "__init__", "InvalidList.__init__", defArgs (inClass (top 25) 0), defBody (inClass (top 25) 0), defScope (inClass (top 25) 0), [.non], []⟩,
  ⟨("InvalidItem", some "__init__"), "__init__", "InvalidItem.__init__", defArgs (inClass (top 26) 0), defBody (inClass (top 26) 0), defScope (inClass (top 26) 0), [.non], []⟩,
  ⟨("InvalidProgram", some "__init__"), "__init__", "InvalidProgram.__init__", defArgs (inClass (top 27) 0), defBody (inClass (top 27) 0), defScope (inClass (top 27) 0), [.non], []⟩,
  ⟨("InvalidPlace", some "__init__"), "__init__", "InvalidPlace.__init__", defArgs (inClass (top 28) 0), defBody (inClass (top 28) 0), defScope (inClass (top 28) 0), [.non], []⟩]
def faH : List He.Fa := [
  .free "len",
  .free "int",
  .free "max",
  .free "range",
  .free "isinstance",
  .free "repr",
  .free "list",
  .free "tuple",
  .free "sum",
  .free "str",
  .free "all",
  .free "bool",
  .free "dict",
  .free "sorted",
  .int "LONGEST_NAME" 8,
  .int "MOST_RIGHTS" 5,
  .int "MOST_OWNERS" 5,
  .int "MOST_FUNCTIONS" 6,
  .str "LETTERS" "abcdefghijklmnopqrstuvwxyz",
  .glo "is_whole",
  .glo "is_name",
  .glo "is_tuple_of",
  .glo "is_step",
  .glo "is_nest",
  .glo "copy_body",
  .glo "copy_step",
  .glo "with_inner",
  .glo "inner_bodies",
  .glo "inner_body",
  .glo "step_on",
  .glo "is_spot",
  .glo "check_size",
  .glo "check_rights",
  .glo "check_owners",
  .glo "check_functions",
  .glo "is_owner",
  .glo "is_choice",
  .glo "is_function",
  .glo "copy_owners",
  .glo "copy_functions",
  .glo "need_program",
  .glo "kept_step",
  .glo "need_place",
  .glo "is_ordered",
  .glo "need_ordered",
  .glo "run_to",
  .glo "outcome",
  .glo "first_fail",
  .glo "last_end",
  .glo "_law_cell",
  .glo "_law_hash",
  .glo "_law_generator",
  .glo "_law_random",
  .glo "_law_rights_drawn",
  .glo "_law_owners_drawn",
  .glo "_law_step_drawn",
  .glo "_law_body_drawn",
  .glo "_law_copied",
  .glo "_law_program",
  .glo "_law_count",
  .glo "_law_parts",
  .glo "_law_all_places",
  .glo "_law_by_path",
  .glo "_law_caught",
  .glo "_law_lists_refused",
  .glo "_law_refused",
  .glo "law",
  .glo "is_body",
  .mkr "Program",
  .meth "Program" "rights",
  .glo "InvalidList",
  .glo "InvalidItem",
  .glo "InvalidProgram",
  .glo "InvalidPlace",
  .glo "RightsError",
  .glo "Program",
  .glo "EVENT_WORDS",
  .noat "Program" "_rights",
  .noat "Program" "_owners",
  .noat "Program" "_functions"]
def chkH (K : PySem.W.Frag) : Bool := (K.lookup sysModules).isNone && (exAll K "InvalidList" "value" && (exAll K "InvalidItem" "value" && (exAll K "InvalidProgram" "value" && (exAll K "InvalidPlace" "value" && (((([He.ga K "InvalidList", He.ga K "InvalidItem", He.ga K "InvalidProgram", He.ga K "InvalidPlace"] : List Addr).all fun C => decide (PySem.W.exmOne K (.ref C) (.ref (He.ga K "RightsError")) = some true)) && ((List.range 4).all fun i => (List.range 4).all fun j => decide (PySem.W.kitOne K (.ref (([He.ga K "InvalidList", He.ga K "InvalidItem", He.ga K "InvalidProgram", He.ga K "InvalidPlace"] : List Addr).getD i 0)) (.ref (([He.ga K "InvalidList", He.ga K "InvalidItem", He.ga K "InvalidProgram", He.ga K "InvalidPlace"] : List Addr).getD j 0)) = some (decide (i = j))))) && (clsB K "Program" && (eqB K "Program" && (He.tupB K "EVENT_WORDS" [.str "call", .str "tail", .str "check"]))))))))
end Lx
namespace Lx
open PySem PySem.W PySem.Calls PyProof.Rows
abbrev RwH : OpenRow := OpenLaw.row PySem.Challenge.rw_callersrights_k24_runs_and_outcomes_refu
abbrev qvH : Program := view RwH.prog [83]
def nmH0 : List PySem.Str := ["heappop", "heappush", "LETTERS", "LONGEST_NAME", "is_whole", "is_name", "is_tuple_of", "is_body", "is_step", "is_nest", "copy_body", "copy_step", "with_inner", "inner_bodies", "inner_body", "is_marking", "is_in_mark", "step_on", "is_spot", "EVENT_WORDS", "Moves", "Flow", "RightsError", "InvalidList", "InvalidItem", "InvalidProgram", "InvalidPlace", "MOST_RIGHTS", "MOST_OWNERS", "MOST_FUNCTIONS"]
def nmH1 : List PySem.Str := ["Program", "check_size", "check_rights", "check_owners", "check_functions", "is_owner", "is_choice", "is_function", "copy_owners", "copy_functions", "need_program", "kept_step", "need_place", "is_ordered", "need_ordered", "FAR", "Kind", "Event", "Search", "search_runs", "way_behind", "whole_way", "spread_out", "run_up_to", "run_to", "outcome", "first_fail", "is_fail", "last_end", "_law_cell"]
def nmH2 : List PySem.Str := ["_law_hash", "_law_generator", "_law_random", "_law_rights_drawn", "_law_owners_drawn", "_law_step_drawn", "_law_body_drawn", "_law_copied", "_law_program", "_law_count", "_law_parts", "_law_all_places", "_law_by_path", "_law_caught", "_law_lists_refused", "_law_refused"]
def nmH : List PySem.Str := nmH0 ++ nmH1 ++ nmH2
def asH0 : List Addr := [2, 3, 43, 45, 46, 48, 49, 50, 53, 54, 55, 57, 58, 60, 61, 62, 63, 65, 66, 68, 69, 70, 72, 73, 75, 76, 77, 80, 81, 82, 85, 86, 87, 89, 90, 92, 93, 94, 97, 98]
def asH1 : List Addr := [99, 101, 102, 104, 105, 106, 108, 109, 111, 112, 113, 115, 116, 118, 119, 120, 122, 123, 125, 126, 127, 129, 130, 132, 133, 134, 137, 138, 139, 147, 149, 150, 152, 153, 154, 156, 157, 159, 160, 161]
def asH2 : List Addr := [164, 165, 166, 168, 169, 171, 172, 173, 175, 176, 178, 179, 180, 181, 182, 183, 184, 194, 197, 198, 199, 201, 202, 204, 205, 206, 208, 209, 211, 212, 213, 215, 216, 218, 219, 220, 223, 224, 225, 227]
def asH3 : List Addr := [228, 230, 231, 232, 234, 235, 237, 238, 239, 241, 242, 244, 245, 246, 247, 248, 249, 250, 253, 260, 261, 262, 263, 266, 273, 274, 276, 277, 279, 280, 281, 282, 283, 286, 293, 294, 296, 297, 299, 300]
def asH4 : List Addr := [301, 302, 303, 306, 313, 314, 316, 317, 319, 320, 321, 322, 323, 326, 333, 334, 336, 337, 339, 340, 341, 342, 343, 353, 355, 356, 358, 359, 360, 362, 363, 365, 366, 367, 369, 370, 372, 373, 374, 376]
def asH5 : List Addr := [377, 379, 380, 381, 383, 384, 386, 387, 388, 389, 390, 391, 392, 395, 397, 398, 400, 401, 402, 404, 405, 407, 408, 409, 411, 412, 414, 415, 416, 419, 420, 421, 423, 424, 426, 427, 428, 431, 432, 433]
def asH6 : List Addr := [435, 436, 438, 439, 440, 443, 444, 445, 448, 449, 450, 452, 453, 455, 456, 457, 459, 460, 462, 463, 464, 466, 467, 469, 470, 471, 474, 475, 476, 478, 479, 481, 482, 490, 492, 493, 495, 496, 497, 498]
def asH7 : List Addr := [499, 500, 501, 511, 513, 514, 516, 517, 518, 520, 521, 523, 524, 525, 527, 528, 530, 531, 532, 534, 535, 537, 538, 539, 540, 541, 542, 543, 553, 555, 556, 558, 559, 560, 562, 563, 565, 566, 567, 569]
def asH8 : List Addr := [570, 572, 573, 574, 576, 577, 579, 580, 581, 583, 584, 586, 587, 588, 590, 591, 593, 594, 595, 597, 598, 600, 601, 602, 604, 605, 607, 608, 609, 612, 613, 614, 617, 618, 619, 621, 622, 624, 625, 626]
def asH9 : List Addr := [628, 629, 631, 632, 633, 635, 636, 638, 639, 640, 641, 642, 643, 644, 647, 649, 650, 652, 653, 654, 656, 657, 659, 660, 661, 663, 664, 666, 667, 668, 670, 671, 673, 674, 675, 677, 678, 680, 681, 682]
def asH10 : List Addr := [684, 685, 687, 688, 689, 692, 693, 694, 696, 697, 699, 700, 701, 703, 704, 706, 707, 708, 710, 711, 713, 714, 715, 717, 718, 720, 721, 722, 724, 725, 727, 728, 729, 731, 732, 734, 735, 736, 738, 739]
def asH11 : List Addr := [741, 742, 743, 745, 746, 748, 749, 750, 753, 754, 755, 758, 759, 760, 762, 763, 765, 766, 767, 770, 771, 772, 775, 776, 777, 780, 781, 782, 784, 785, 787, 788, 789, 792, 793, 794, 797, 798, 799, 801]
def asH12 : List Addr := [802, 804, 805, 806, 809, 810, 811, 814, 815, 816, 818, 819, 821, 822]
def asH : List Addr := asH0 ++ (asH1 ++ (asH2 ++ (asH3 ++ (asH4 ++ (asH5 ++ (asH6 ++ (asH7 ++ (asH8 ++ (asH9 ++ (asH10 ++ (asH11 ++ (asH12))))))))))))
abbrev hkH : PySem.W.Hook := Kx.hookL asH faH fnH chkH
def obH (s : PySem.W.SharedT) : Kx.AlX := Kx.obsL asH faH fnH chkH (HandSHeadRun.getT s)
theorem obH_eq (s : PySem.W.SharedT) : obH s = hkH.obs s.abs := Kx.obsL_eq (HandSHeadRun.getT_eq s)
theorem runH (w : World) : HandSHeadRun.RunEqI RwH qvH hkH obH 12000 nmH w := by
  unfold HandSHeadRun.RunEqI
  kernel_rfl
end Lx

set_option Elab.async false
set_option maxRecDepth 100000
set_option linter.all false
set_option maxHeartbeats 4000000
/-! KitF: how long data shows; evaluation to data (a known part G of the heap, that only grows). -/
namespace Kx
open PySem PySem.Spec PyProof.Rows L2 Evl

/-! ### how long data shows -/
mutual
def bnd : PyData → Nat
  | .none => 4
  | .bool _ => 5
  | .int i => i.natAbs.log2 + 2
  | .str x => (reprText x).length
  | .list xs => 2 + bndA xs
  | .tuple xs => 3 + bndA xs
  | .dict kvs => 2 + bndD kvs
def bndA : List PyData → Nat
  | [] => 0
  | x :: xs => bnd x + 2 + bndA xs
def bndD : List (PyData × PyData) → Nat
  | [] => 0
  | (k, v) :: r => bnd k + bnd v + 4 + bndD r
end
def lens (ts : List Str) : Nat := (ts.map fun t => t.length + 2).sum
theorem textFrom_le : ∀ (ts : List Str) (k : Nat) (acc : Str), (textFrom k acc ts).length ≤ acc.length + lens ts
  | [], k, acc => Nat.le_add_right _ _
  | t :: r, k, acc => by
    have h := textFrom_le r (k + 1) (acc ++ (if k > 0 then ", " else "" : String) ++ t)
    have e : (acc ++ (Str.ofString (if k > 0 then ", " else "")) ++ t).length ≤ acc.length + 2 + t.length := by
      rw [strLen_append, strLen_append]
      have h2 : (Str.ofString (if k > 0 then ", " else "")).length ≤ 2 := by
        split <;> decide
      omega
    have e2 : lens (t :: r) = t.length + 2 + lens r := by
      unfold lens
      rw [List.map_cons, List.sum_cons]
    rw [e2]
    refine Nat.le_trans h ?_
    have e3 : (acc ++ (if k > 0 then ", " else "" : String) ++ t).length ≤ acc.length + 2 + t.length := e
    omega
theorem listText_le (ts : List Str) : (listText ts).length ≤ 2 + lens ts := by
  unfold listText
  rw [strLen_append]
  have h := textFrom_le ts 0 "["
  have e1 : Str.length ("[" : Str) = 1 := by decide
  have e2 : Str.length ("]" : Str) = 1 := by decide
  omega
theorem piled_eq : ∀ ts : List Str, piled ts = lens ts
  | [] => rfl
  | t :: r => by
    have e := piled_eq r
    unfold lens at e ⊢
    rw [List.map_cons, List.sum_cons, ← e]
    simp [piled]
theorem joined_le (ts : List Str) : (Str.join ", " ts).length ≤ lens ts := by
  by_cases h : ts = []
  · subst h
    decide
  · have e := join_length_add ts h
    rw [piled_eq] at e
    omega
theorem tupleText_le (ts : List Str) : (tupleText ts).length ≤ 3 + lens ts := by
  unfold tupleText
  rw [strLen_append, strLen_append]
  have h := joined_le ts
  have e1 : Str.length ("(" : Str) = 1 := by decide
  have e2 : (Str.ofString (if ts.length == 1 then ",)" else ")")).length ≤ 2 := by
    split <;> decide
  have e3 : Str.length ((if ts.length == 1 then ",)" else ")" : String) : Str) ≤ 2 := e2
  omega
theorem dictText_le (ts : List Str) : (dictText ts).length ≤ 2 + lens ts := by
  unfold dictText
  rw [strLen_append, strLen_append]
  have h := joined_le ts
  have e1 : Str.length ("{" : Str) = 1 := by decide
  have e2 : Str.length ("}" : Str) = 1 := by decide
  omega
mutual
theorem shown_le : ∀ d : PyData, d.shown.length ≤ bnd d
  | .none => by
    simp only [PyData.shown, bnd]
    decide
  | .bool b => by
    simp only [PyData.shown, bnd]
    cases b <;> decide
  | .int i => by
    simp only [PyData.shown, bnd]
    have h := int_text_length_le (a := i) (k := i.natAbs.log2 + 1) (Nat.succ_pos _) (Nat.lt_succ_self _)
    have e : Str.length (Str.ofString (toString i)) = (toString i).length := PySem.ofString_length _
    show Str.length (Str.ofString (toString i)) ≤ _
    omega
  | .str x => by
    simp only [PyData.shown, bnd]
    exact Nat.le_refl _
  | .list xs => by
    simp only [PyData.shown, bnd]
    exact Nat.le_trans (listText_le _) (Nat.add_le_add_left (shownAll_le xs) _)
  | .tuple xs => by
    simp only [PyData.shown, bnd]
    exact Nat.le_trans (tupleText_le _) (Nat.add_le_add_left (shownAll_le xs) _)
  | .dict kvs => by
    simp only [PyData.shown, bnd]
    exact Nat.le_trans (dictText_le _) (Nat.add_le_add_left (shownKv_le kvs) _)
theorem shownAll_le : ∀ xs : List PyData, lens (PyData.shownAll xs) ≤ bndA xs
  | [] => by
    simp only [PyData.shownAll, bndA]
    decide
  | x :: xs => by
    have h1 := shown_le x
    have h2 := shownAll_le xs
    simp only [PyData.shownAll, bndA]
    have e : lens (PyData.shown x :: PyData.shownAll xs) = (PyData.shown x).length + 2 + lens (PyData.shownAll xs) := by
      unfold lens
      rw [List.map_cons, List.sum_cons]
    omega
theorem shownKv_le : ∀ xs : List (PyData × PyData), lens (PyData.shownKv xs) ≤ bndD xs
  | [] => by
    simp only [PyData.shownKv, bndD]
    decide
  | (k, v) :: xs => by
    have h1 := shown_le k
    have h3 := shown_le v
    have h2 := shownKv_le xs
    simp only [PyData.shownKv, bndD]
    have e : lens ((PyData.shown k ++ ": " ++ PyData.shown v) :: PyData.shownKv xs) = (PyData.shown k).length + 2 + (PyData.shown v).length + 2 + lens (PyData.shownKv xs) := by
      unfold lens
      rw [List.map_cons, List.sum_cons, strLen_append, strLen_append]
      have e1 : Str.length (": " : Str) = 2 := by decide
      rw [e1]
      try omega
    omega
end

/-! ### the known part of the heap grows -/
structure Ext (G H1 G2 H2 : Hp) : Prop where
  hh : Ex H1 H2
  gg : Ex G G2
  gh : Ex G2 H2
  ag : ∀ a o, H1 a = some o → G2 a = G a
theorem Ext.refl {G H : Hp} (e : Ex G H) : Ext G H G H := ⟨Ex.refl H, Ex.refl G, e, fun _ _ _ => rfl⟩
theorem Ext.trans {G H1 G2 H2 G3 H3 : Hp} (a : Ext G H1 G2 H2) (b : Ext G2 H2 G3 H3) : Ext G H1 G3 H3 :=
  ⟨a.hh.trans b.hh, a.gg.trans b.gg, b.gh, fun c o h => (b.ag c o (a.hh c o h)).trans (a.ag c o h)⟩
/-- a new object, known from now on -/
theorem Ext.new {G H H2 : Hp} {p : Addr} {o : HO} (e : Ex G H) (hp : H p = none) (hh : Ex H H2) (h : H2 p = some o) : Ext G H (upd G p o) H2 := by
  refine ⟨hh, Ex.new (fresh_back e hp), fun a u q => ?_, fun a u q => upd_ne (ne_of_none q hp)⟩
  by_cases z : a = p
  · rw [z, upd_same] at q
    rw [z, h]
    exact q
  · rw [upd_ne z] at q
    exact hh a u (e a u q)
/-- .. where the known part had grown before -/
theorem Ext.more {G H1 G2 H2 H3 : Hp} {p : Addr} {o : HO} (x : Ext G H1 G2 H2) (hp : H2 p = none) (hh : Ex H2 H3) (h : H3 p = some o) : Ext G H1 (upd G2 p o) H3 := x.trans (Ext.new x.gh hp hh h)

/-- te gives a value of the data d, G being known -/
def EvD (K : PySem.W.Frag) (te : TE) (σ : L2.St) (G : Hp) (d : PyData) : Prop := ∀ H1, Ex G H1 → ∀ Q : VK, (∀ v G2 H2, Ext G H1 G2 H2 → Dq K G2 v d → Q v H2) → te σ H1 Q
def EvDA (K : PySem.W.Frag) (ta : TA) (σ : L2.St) (G : Hp) (ds : List PyData) : Prop := ∀ H1, Ex G H1 → ∀ Q : List V → Hp → Prop, (∀ vs G2 H2, Ext G H1 G2 H2 → DqA K G2 vs ds → Q vs H2) → ta σ H1 Q
section
variable {K : PySem.W.Frag} {σ : L2.St} {G G' : Hp} {te ta tb : TE} {d : PyData}
theorem EvD.mono (e : Ex G G') (h : EvD K te σ G d) : EvD K te σ G' d := fun H1 a Q q => h H1 (e.trans a) Q fun v G2 H2 x hd => by
  let G3 : Hp := fun b => match G' b with
    | some o => some o
    | none => G2 b
  have e3 : Ex G2 G3 := fun b o hb => by
    show (match G' b with | some o => some o | none => G2 b) = some o
    cases z : G' b with
    | none => exact hb
    | some o' =>
      have h1 := x.hh b o' (a b o' z)
      have h2 := x.gh b o hb
      rw [h1] at h2
      exact h2
  refine q v G3 H2 ⟨x.hh, fun b o hb => ?_, fun b o hb => ?_, fun b o hb => ?_⟩ (hd.mono (same_ex e3))
  · show (match G' b with | some o => some o | none => G2 b) = some o
    rw [hb]
  · have hb' : (match G' b with | some o => some o | none => G2 b) = some o := hb
    cases z : G' b with
    | none =>
      rw [z] at hb'
      exact x.gh b o hb'
    | some o' =>
      rw [z] at hb'
      rw [← hb']
      exact x.hh b o' (a b o' z)
  · show (match G' b with | some o => some o | none => G2 b) = G' b
    cases z : G' b with
    | none =>
      show G2 b = none
      rw [x.ag b o hb]
      cases z2 : G b with
      | none => rfl
      | some u =>
        rw [e b u z2] at z
        cases z
    | some o' => rfl
theorem ed_ev {v : V} (h : Ev te σ G v) (hd : Dq K G v d) : EvD K te σ G d := fun H1 e Q q => h H1 e Q fun H2 e2 => q v G H2 ⟨e2, Ex.refl G, e.trans e2, fun _ _ _ => rfl⟩ hd
theorem ed_evL {xs : List V} {ds : List PyData} (h : EvL te σ G xs) (hd : DqA K G xs ds) : EvD K te σ G (.list ds) := fun H1 e Q q => h H1 e Q fun p H2 hp e2 hx =>
  q _ _ H2 (Ext.new e hp e2 hx) (.lst upd_same (hd.mono (same_ex (Ex.new (fresh_back e hp)))))
theorem eda_nil : EvDA K tNil σ G [] := fun H1 e Q q => q [] G H1 (Ext.refl e) .nil
theorem eda_cons {tr : TA} {ds : List PyData} (h : EvD K te σ G d) (hr : ∀ G1, Ex G G1 → EvDA K tr σ G1 ds) : EvDA K (tCons te tr) σ G (d :: ds) := fun H1 e Q q =>
  h H1 e _ fun v G2 H2 x hd => hr G2 x.gg H2 x.gh _ fun vs G3 H3 y hds => q _ G3 H3 (x.trans y) (.cons (hd.mono (same_ex y.gg)) hds)
theorem dqa_len {H : Hp} : ∀ {vs : List V} {ds : List PyData}, DqA K H vs ds → vs.length = ds.length
  | _, _, .nil => rfl
  | _, _, .cons _ b => congrArg Nat.succ (dqa_len b)
theorem ed_lst {ta : TA} {ds : List PyData} (h : EvDA K ta σ G ds) (hl : ds.length ≤ 100000) : EvD K (tLst ta) σ G (.list ds) := fun H1 e Q q =>
  h H1 e _ fun vs G2 H2 x hd => ⟨sz_of (by rw [dqa_len hd]; exact hl), fun p hp => q _ _ _ (x.more hp (Ex.new hp) upd_same) (.lst upd_same (hd.mono (same_ex (Ex.new (fresh_back x.gh hp)))))⟩
theorem ed_tup {ta : TA} {ds : List PyData} (h : EvDA K ta σ G ds) (hl : ds.length ≤ 100000) : EvD K (tTup ta) σ G (.tuple ds) := fun H1 e Q q =>
  h H1 e _ fun vs G2 H2 x hd => ⟨sz_of (by rw [dqa_len hd]; exact hl), fun p hp => q _ _ _ (x.more hp (Ex.new hp) upd_same) (.tup (.inl (.inl upd_same)) (hd.mono (same_ex (Ex.new (fresh_back x.gh hp)))))⟩

/-! ### comprehensions of data -/
def gvn (n : Nat) (f : Nat → Bool) (ds : Nat → PyData) : List PyData := ((List.range n).filter f).map ds
theorem gvn_yes {n : Nat} {f : Nat → Bool} {ds : Nat → PyData} (h : f n = true) : gvn (n + 1) f ds = gvn n f ds ++ [ds n] := by
  unfold gvn
  rw [List.range_succ, List.filter_append, List.map_append, List.filter_cons, if_pos h] <;> rfl
theorem gvn_no {n : Nat} {f : Nat → Bool} {ds : Nat → PyData} (h : f n = false) : gvn (n + 1) f ds = gvn n f ds := by
  unfold gvn
  rw [List.range_succ, List.filter_append, List.map_append, List.filter_cons, if_neg (by rw [h]; decide)]
  exact List.append_nil _
theorem gvn_len (n : Nat) (f : Nat → Bool) (ds : Nat → PyData) : (gvn n f ds).length ≤ n := by
  unfold gvn
  rw [List.length_map]
  have h := List.length_filter_le f (List.range n)
  rw [List.length_range] at h
  exact h
theorem dqa_app {H : Hp} {v : V} : ∀ {vs : List V} {ds : List PyData}, DqA K H vs ds → Dq K H v d → DqA K H (vs ++ [v]) (ds ++ [d])
  | _, _, .nil, h => .cons h .nil
  | _, _, .cons a b, h => .cons a (dqa_app b h)
/-- the word between two turns: Dl grows, all it holds is known without it -/
def Cd (K : PySem.W.Frag) (G H1 : Hp) (f : Nat → Bool) (ds : Nat → PyData) (Dl : Addr) (i : Nat) (H' : Hp) : Prop :=
  ∃ Gi vs, Ext G H1 Gi H' ∧ Gi Dl = none ∧ H' Dl = some (.lst vs) ∧ DqA K Gi vs (gvn i f ds)
theorem cd_turn {G H1 H' : Hp} {f : Nat → Bool} {ds : Nat → PyData} {Dl : Addr} {i : Nat} {σ2 : L2.St} {t : TT} (hD : H1 Dl = none) (p : Cd K G H1 f ds Dl i H') (hi : i < 50000)
    (ht : ∀ G1, Ex G G1 → EvT t σ2 G1 (f i)) (he : ∀ G1, Ex G G1 → f i = true → EvD K te σ2 G1 (ds i)) :
    t σ2 H' fun b H3 => if b = true then te σ2 H3 fun y H4 => ∃ acc, H4 Dl = some (.lst acc) ∧ acc.length < sizeLine ∧ Cd K G H1 f ds Dl (i + 1) (upd H4 Dl (.lst (acc ++ [y]))) else Cd K G H1 f ds Dl (i + 1) H3 := by
  obtain ⟨Gi, vs, x, g0, hv, hd⟩ := p
  refine ht Gi x.gg H' x.gh _ fun H3 e3 => ?_
  cases hf : f i with
  | true =>
    show te σ2 H3 _
    refine he Gi x.gg hf H3 (x.gh.trans e3) _ fun y G2 H4 z hy => ?_
    have e4 : H4 Dl = some (.lst vs) := z.hh _ _ (e3 _ _ hv)
    have g2 : G2 Dl = none := (z.ag _ _ (e3 _ _ hv)).trans g0
    refine ⟨vs, e4, sz_lt (by have h1 := dqa_len hd; have h2 := gvn_len i f ds; omega), G2, vs ++ [y], ⟨?_, x.gg.trans z.gg, ?_, ?_⟩, g2, upd_same, ?_⟩
    · exact Ex.mut ((x.hh.trans e3).trans z.hh) hD
    · exact Ex.mut z.gh g2
    · intro a o ha
      exact (z.ag a o (e3 _ _ (x.hh a o ha))).trans (x.ag a o ha)
    · rw [gvn_yes hf]
      exact dqa_app (hd.mono (same_ex z.gg)) hy
  | false =>
    show Cd K G H1 f ds Dl (i + 1) H3
    refine ⟨Gi, vs, ⟨x.hh.trans e3, x.gg, x.gh.trans e3, x.ag⟩, g0, e3 _ _ hv, ?_⟩
    rw [gvn_no hf]
    exact hd
theorem cd_end {G H1 H' : Hp} {f : Nat → Bool} {ds : Nat → PyData} {Dl : Addr} {n : Nat} (hD : H1 Dl = none) (p : Cd K G H1 f ds Dl n H') : ∃ G2, Ext G H1 G2 H' ∧ Dq K G2 (.ref Dl) (.list (gvn n f ds)) := by
  obtain ⟨Gi, vs, x, g0, hv, hd⟩ := p
  refine ⟨upd Gi Dl (.lst vs), ⟨x.hh, x.gg.trans (Ex.new g0), fun a o h => ?_, fun a o h => ?_⟩, .lst upd_same (hd.mono (same_ex (Ex.new g0)))⟩
  · by_cases z : a = Dl
    · rw [z, upd_same] at h
      rw [z, hv]
      exact h
    · rw [upd_ne z] at h
      exact x.gh a o h
  · rw [upd_ne (ne_of_none h hD)]
    exact x.ag a o h
theorem cd_start {G H1 : Hp} {f : Nat → Bool} {ds : Nat → PyData} {Dl : Addr} (e : Ex G H1) (hD : H1 Dl = none) : Cd K G H1 f ds Dl 0 (upd H1 Dl (.lst [])) :=
  ⟨G, [], ⟨Ex.new hD, Ex.refl G, e.trans (Ex.new hD), fun _ _ _ => rfl⟩, fresh_back e hD, upd_same, .nil⟩
variable {t : TT}
theorem ed_lcL {a : Addr} {xs : List V} {tl : TE} {j : Nat} {ws : List Nat} (f : Nat → Bool) (ds : Nat → PyData) (h : Ev tl σ G (.ref a)) (hx : SqL K G a xs) (hz : xs.length ≤ 40000) (hw : ∀ x, wipe ((wipe σ ws).set j (some x)) ws = wipe σ ws)
    (ht : ∀ (i : Nat) (x : V) G1, Ex G G1 → xs[i]? = some x → EvT t ((wipe σ ws).set j (some x)) G1 (f i)) (he : ∀ (i : Nat) (x : V) G1, Ex G G1 → xs[i]? = some x → f i = true → EvD K te ((wipe σ ws).set j (some x)) G1 (ds i)) :
    EvD K (tLc (iList K tl) (gName j) t te ws) σ G (.list (gvn xs.length f ds)) := fun H0 e Q q => h H0 e _ fun H1 e1 => ⟨a, rfl, ⟨xs, ex_l (e.trans e1) hx⟩, fun Dl hD =>
  lc_list (xs := xs) (Cd K G H1 f ds Dl) (cd_start (e.trans e1) hD) (fun i H' _ p => by obtain ⟨Gi, vs, x, _⟩ := p; exact ex_l (x.gg.trans x.gh) hx)
    (fun i x H' hi p => ⟨hw x, cd_turn hD p (by have := (List.getElem?_eq_some_iff.mp hi).1; omega) (fun G1 g1 => ht i x G1 g1 hi) (fun G1 g1 hf => he i x G1 g1 hi hf)⟩)
    (fun H' p => by
      obtain ⟨G2, x, hd⟩ := cd_end hD p
      exact q _ G2 H' ⟨e1.trans x.hh, x.gg, x.gh, fun b o hb => x.ag b o (e1 b o hb)⟩ hd)⟩
theorem ed_lcR {ta : TA} {j : Nat} {ws : List Nat} {n : Int} (f : Nat → Bool) (ds : Nat → PyData) (h : EvA ta σ G [.int n]) (hn : 0 ≤ n ∧ n ≤ 40000) (hw : ∀ x, wipe ((wipe σ ws).set j (some x)) ws = wipe σ ws)
    (ht : ∀ (i : Nat) G1, Ex G G1 → (i : Int) < n → EvT t ((wipe σ ws).set j (some (.int (i : Int)))) G1 (f i)) (he : ∀ (i : Nat) G1, Ex G G1 → (i : Int) < n → f i = true → EvD K te ((wipe σ ws).set j (some (.int (i : Int)))) G1 (ds i)) :
    EvD K (tLc (iRng1 ta) (gName j) t te ws) σ G (.list (gvn n.toNat f ds)) := fun H0 e Q q => h H0 e _ fun H1 e1 => ⟨n, rfl, by omega, by omega, fun Dl hD =>
  lc_range (lo := 0) (n := n.toNat) (Cd K G H1 f ds Dl) (cd_start (e.trans e1) hD) (fun i H' hi p => by
      have e0 : (0 : Int) + (i : Int) = (i : Int) := Int.zero_add _
      show wipe ((wipe σ ws).set j (some (.int ((0 : Int) + (i : Int))))) ws = wipe σ ws ∧ t ((wipe σ ws).set j (some (.int ((0 : Int) + (i : Int))))) H' _
      rw [e0]
      exact ⟨hw _, cd_turn hD p (by omega) (fun G1 g1 => ht i G1 g1 (by omega)) (fun G1 g1 hf => he i G1 g1 (by omega) hf)⟩)
    (fun H' p => by
      obtain ⟨G2, x, hd⟩ := cd_end hD p
      exact q _ G2 H' ⟨e1.trans x.hh, x.gg, x.gh, fun b o hb => x.ag b o (e1 b o hb)⟩ hd)⟩
theorem et_yes {H : Hp} : EvT tYes σ H true := fun H1 _ _ q => q H1 (Ex.refl H1)
theorem el_cat {H : Hp} {a : Addr} {xs ys : List V} (ha : Ev ta σ H (.ref a)) (h : H a = some (.lst xs)) (hb : EvL tb σ H ys) (hl : xs.length + ys.length ≤ 100000) : EvL (tOp rCat ta tb) σ H (xs ++ ys) := fun H1 e Q q =>
  ha H1 e _ fun H2 e2 => hb H2 (e.trans e2) _ fun p H3 hp e3 h3 => ⟨a, p, xs, ys, rfl, rfl, e3 _ _ (e2 _ _ (e _ _ h)), h3, sz_of hl,
    fun l hl' => q l _ (fresh_back (e2.trans e3) hl') ((e2.trans e3).trans (Ex.new hl')) upd_same⟩
theorem el_catLL {H : Hp} {xs ys : List V} (ha : EvL ta σ H xs) (hb : ∀ H1, Ex H H1 → EvL tb σ H1 ys) (hl : xs.length + ys.length ≤ 100000) : EvL (tOp rCat ta tb) σ H (xs ++ ys) := fun H1 e Q q =>
  ha H1 e _ fun p H2 hp e2 h2 => hb H2 (e.trans e2) H2 (Ex.refl H2) _ fun p' H3 hp' e3 h3 => ⟨p, p', xs, ys, rfl, rfl, e3 _ _ h2, h3, sz_of hl,
    fun l hl' => q l _ (fresh_back (e2.trans e3) hl') ((e2.trans e3).trans (Ex.new hl')) upd_same⟩
/-- two data compared, no dicts in them -/
theorem dp_of {H : Hp} : ∀ {d : PyData} {v : V}, Dq K H v d → d.hasDict = false → Dp K H v d := by
  intro d v h
  exact Dq.rec (motive_1 := fun v d _ => d.hasDict = false → Dp K H v d) (motive_2 := fun vs ds _ => PyData.hasDictAll ds = false → DpAll K H vs ds) (motive_3 := fun _ _ _ => True)
    (fun _ => .non) (fun b _ => .bl b) (fun i _ => .int i) (fun x _ => .str x)
    (fun h1 _ ih q => .lst (SqL.of h1) (ih (by simpa only [PyData.hasDict] using q)))
    (fun h1 _ ih q => .tup h1 (ih (by simpa only [PyData.hasDict] using q)))
    (fun _ _ _ q => absurd q (by simp only [PyData.hasDict]; decide))
    (fun _ => .nil)
    (fun _ _ i1 i2 q => by
      simp only [PyData.hasDictAll, Bool.or_eq_false_iff] at q
      exact .cons (i1 q.1) (i2 q.2))
    trivial (fun _ _ _ _ => trivial) h
end
end Kx
namespace Kx
open PySem PySem.Spec PyProof.Rows L2 Evl
section
variable {X : Cx} {K : PySem.W.Frag}
theorem pe_cls {x : Str} {C : Addr} {pos : Pos} (hg : Gl X x) (hm : X.mg x = some (.ref C)) (hd : (x == ("__debug__" : Str)) = false := by decide) : PE X (.Name x pos) (tC (.ref C)) := pe_glob hg hm rfl hd
/-- the rules that name the written part, the part told from outside (for a comprehension's block) -/
theorem pe_xatK {e : Expr} {te : TE} {pos : Pos} {n : Str} (he : PE X e te) (h : X.K = K := by rfl) (hb : attributeBase e n X.env (eval e X.env) = eval e X.env := by rfl) : PE X (.Attribute e n pos) (tXat K n te) := h ▸ pe_xat he hb
theorem isX_K (h : X.K = K := by rfl) : CallR X (.builtin "isinstance") (rIsX K) := h ▸ call_isX
structure rIsiS (K : PySem.W.Frag) (vs : List V) (H : Hp) (Q : VK) : Prop where
  mk' ::
  out : rIsi K vs H Q
theorem isi_K (h : X.K = K := by rfl) : CallR X (.builtin "isinstance") (rIsi K) := h ▸ call_isi
theorem isi_S (h : X.K = K := by rfl) : CallR X (.builtin "isinstance") (rIsiS K) := by
  intro pins s σ H xs us Q I r g
  exact isi_K h pins s σ H xs us Q I r g.out
theorem ixL_K (h : X.K = K := by rfl) : IxR X (rIxL K) := h ▸ ix_list
theorem ixT_K (h : X.K = K := by rfl) : IxR X (rIxT K) := h ▸ ix_tup
end
end Kx

set_option Elab.async false
set_option maxRecDepth 100000
set_option linter.all false
set_option maxHeartbeats 4000000
/-! KitG: evaluation words for repr, comparisons of data, copies. -/
namespace Kx
open PySem PySem.Spec PyProof.Rows L2 Evl
/-- what may be shown -/
def okD (d : PyData) : Prop := d.showable = true ∧ d.depth ≤ 50 ∧ bnd d ≤ 1000000
theorem okD.fits {d : PyData} (h : okD d) : d.showable = true ∧ d.depth ≤ 60 ∧ d.shown.length ≤ sizeLine :=
  ⟨h.1, Nat.le_trans h.2.1 (by decide), Nat.le_trans (shown_le d) (Nat.le_trans h.2.2 (by decide))⟩
def okL (ds : List PyData) : Prop := (PyData.list ds).showable = true ∧ (PyData.list ds).depth ≤ 60 ∧ bnd (.list ds) ≤ 16000000
section
variable {K : PySem.W.Frag} {σ : L2.St} {G H : Hp} {te ta tb : TE} {d e : PyData} {v : V}
theorem ev_repr (h : Ev te σ H v) (y : Sys H) (hd : Dq K H v d) (ok : okD d) : Ev (tCB (rRepr K) (tCons te tNil)) σ H (.str d.shown) := fun H1 x Q q =>
  h H1 x _ fun H2 x2 => ⟨v, d, rfl, y.mono (same_ex (x.trans x2)), hd.mono (same_ex (x.trans x2)), ok.fits.1, ok.fits.2.1, ok.fits.2.2, q H2 x2⟩
theorem ev_reprB (h : Ev te σ H v) (y : Sys H) (hd : Dq K H v d) (o1 : d.showable = true) (o2 : d.depth ≤ 60) (o3 : bnd d ≤ 16000000) : Ev (tCB (rRepr K) (tCons te tNil)) σ H (.str d.shown) := fun H1 x Q q =>
  h H1 x _ fun H2 x2 => ⟨v, d, rfl, y.mono (same_ex (x.trans x2)), hd.mono (same_ex (x.trans x2)), o1, o2, Nat.le_trans (shown_le d) (Nat.le_trans o3 (by decide)), q H2 x2⟩
theorem ev_reprN {xs : List V} {ds : List PyData} (h : EvL te σ H xs) (y : Sys H) (hd : DqA K H xs ds) (ok : okL ds) : Ev (tCB (rRepr K) (tCons te tNil)) σ H (.str (PyData.list ds).shown) := fun H1 x Q q =>
  h H1 x _ fun p H2 hp x2 hx => ⟨_, .list ds, rfl, y.mono (same_ex (x.trans x2)), .lst hx (hd.mono (same_ex (x.trans x2))), ok.1, ok.2.1, Nat.le_trans (shown_le _) (Nat.le_trans ok.2.2 (by decide)), q H2 x2⟩
theorem ed_repr (h : EvD K te σ G d) (y : Sys G) (ok : okD d) : Ev (tCB (rRepr K) (tCons te tNil)) σ G (.str d.shown) := fun H1 x Q q =>
  h H1 x _ fun v G2 H2 z hd => ⟨v, d, rfl, y.mono (same_ex (z.gg.trans z.gh)), hd.mono (same_ex z.gh), ok.fits.1, ok.fits.2.1, ok.fits.2.2, q H2 z.hh⟩
theorem el_rep {xs : List V} {n : Nat} (h : EvL ta σ H xs) (hn : xs.length * n ≤ 100000) (hn2 : n ≤ 100000) : EvL (tOp rRep ta (tC (.int (n : Int)))) σ H (List.replicate n xs).flatten := fun H1 x Q q =>
  h H1 x _ fun p H2 hp x2 hx => ⟨p, (n : Int), xs, rfl, rfl, hx, by omega, by omega, by rw [Int.toNat_natCast]; exact sz_of hn, fun l hl => by
    rw [Int.toNat_natCast]
    exact q l _ (fresh_back x2 hl) (x2.trans (Ex.new hl)) upd_same⟩
theorem et_neD (ha : EvD K ta σ G d) (hb : EvD K tb σ G e) (n1 : d.hasDict = false) (n2 : e.hasDict = false) (s1 : SeqAt.shaped d = true) (s2 : SeqAt.shaped e = true) :
    EvT (tTest (tOp (rNeD K) ta tb)) σ G (!PyData.eqv d e) := fun H1 x Q q => ha H1 x _ fun v G2 H2 y hd => (hb.mono y.gg) H2 y.gh _ fun v' G3 H3 z he =>
  ⟨d, e, dp_of (hd.mono (same_ex (y.gh.trans z.hh))) n1, dp_of (he.mono (same_ex z.gh)) n2, s1, s2, _, rfl, q H3 (y.hh.trans z.hh)⟩
theorem ev_eqD (ha : EvD K ta σ G d) (hb : EvD K tb σ G e) (n1 : d.hasDict = false) (n2 : e.hasDict = false) (s1 : SeqAt.shaped d = true) (s2 : SeqAt.shaped e = true) :
    Ev (tOp (rEqD K) ta tb) σ G (.bl (PyData.eqv d e)) := fun H1 x Q q => ha H1 x _ fun v G2 H2 y hd => (hb.mono y.gg) H2 y.gh _ fun v' G3 H3 z he =>
  ⟨d, e, dp_of (hd.mono (same_ex (y.gh.trans z.hh))) n1, dp_of (he.mono (same_ex z.gh)) n2, s1, s2, q H3 (y.hh.trans z.hh)⟩
/-- e.f of an exception with one field -/
theorem ev_xat {C a : Addr} {f : Str} (h : Ev te σ H (.ref a)) (hx : XV H a C f v) (T : ExcC K C) (hno : PySem.W.findIn K (.ref C) f = some none) : Ev (tXat K f te) σ H v := fun H1 x Q q =>
  h H1 x _ fun H2 x2 => by
    obtain ⟨dx, h1, h2⟩ := hx.mono (same_ex (x.trans x2))
    exact ⟨a, C, dx, _, v, rfl, xat_exo h1, .inl h2, T, hno, by simp [List.lookup], q H2 x2⟩
end
end Kx

set_option Elab.async false
set_option maxRecDepth 100000
set_option linter.all false
set_option maxHeartbeats 4000000
/-! KitP: steps, bodies and parts of programs as data; growth of the heap but for one list that is written (a generator's). -/
namespace Kx
open PySem PySem.Spec PyProof.Rows L2 Evl

inductive Stp where
  | call (n : Str) | tail (n : Str) | check (r : Str) | back
  | either (a b : List Stp) | loop (b : List Stp) | block (m : Bool) (b : List Stp)
mutual
def stpD : Stp → PyData
  | .call n => .tuple [.str "call", .str n]
  | .tail n => .tuple [.str "tail", .str n]
  | .check r => .tuple [.str "check", .str r]
  | .back => .tuple [.str "back"]
  | .either a b => .tuple [.str "either", .list (bodyD a), .list (bodyD b)]
  | .loop b => .tuple [.str "loop", .list (bodyD b)]
  | .block m b => .tuple [.str "block", .bool m, .list (bodyD b)]
def bodyD : List Stp → List PyData
  | [] => []
  | s :: r => stpD s :: bodyD r
end
theorem bodyD_map : ∀ b : List Stp, bodyD b = b.map stpD
  | [] => by simp only [bodyD, List.map_nil]
  | s :: r => by simp only [bodyD, List.map_cons, bodyD_map r]
mutual
/-- fits for these rights and names; mk: within a marked block -/
def okS (rs ns : List Str) (mk : Bool) : Stp → Bool
  | .call n => decide (n ∈ ns)
  | .tail n => decide (n ∈ ns) && !mk
  | .check r => decide (r ∈ rs)
  | .back => true
  | .either a b => okB rs ns mk a && okB rs ns mk b
  | .loop b => okB rs ns mk b
  | .block m b => okB rs ns (mk || m) b
def okB (rs ns : List Str) (mk : Bool) : List Stp → Bool
  | [] => true
  | s :: r => okS rs ns mk s && okB rs ns mk r
end
theorem okB_app {rs ns : List Str} {mk : Bool} : ∀ {a b : List Stp}, okB rs ns mk a = true → okB rs ns mk b = true → okB rs ns mk (a ++ b) = true
  | [], _, _, h => h
  | s :: r, b, h1, h2 => by
    simp only [okB, Bool.and_eq_true, List.cons_append] at h1 ⊢
    exact ⟨h1.1, okB_app h1.2 h2⟩
theorem okB_mem {rs ns : List Str} {mk : Bool} {s : Stp} : ∀ {a : List Stp}, okB rs ns mk a = true → s ∈ a → okS rs ns mk s = true
  | t :: r, h, hm => by
    simp only [okB, Bool.and_eq_true] at h
    rcases List.mem_cons.mp hm with rfl | hm
    · exact h.1
    · exact okB_mem h.2 hm
theorem okB_of {rs ns : List Str} {mk : Bool} : ∀ {a : List Stp}, (∀ s ∈ a, okS rs ns mk s = true) → okB rs ns mk a = true
  | [], _ => by simp only [okB]
  | t :: r, h => by
    simp only [okB, Bool.and_eq_true]
    exact ⟨h t (List.mem_cons_self ..), okB_of fun s hs => h s (List.mem_cons_of_mem _ hs)⟩
mutual
/-- the number of steps; how deep they are nested -/
def cntS : Stp → Nat
  | .either a b => 1 + cntB a + cntB b
  | .loop b => 1 + cntB b
  | .block _ b => 1 + cntB b
  | _ => 1
def cntB : List Stp → Nat
  | [] => 0
  | s :: r => cntS s + cntB r
end
mutual
def nstS : Stp → Nat
  | .either a b => 1 + max (nstB a) (nstB b)
  | .loop b => 1 + nstB b
  | .block _ b => 1 + nstB b
  | _ => 0
def nstB : List Stp → Nat
  | [] => 0
  | s :: r => max (nstS s) (nstB r)
end
theorem cntB_app : ∀ a b : List Stp, cntB (a ++ b) = cntB a + cntB b
  | [], b => by simp only [List.nil_append, cntB, Nat.zero_add]
  | s :: r, b => by simp only [List.cons_append, cntB, cntB_app r b, Nat.add_assoc]
theorem nstB_app : ∀ a b : List Stp, nstB (a ++ b) = max (nstB a) (nstB b)
  | [], b => by simp [nstB]
  | s :: r, b => by simp only [List.cons_append, nstB, nstB_app r b, Nat.max_assoc]

/-! ### growth but for one written list -/
structure ExtG (g : Addr) (G H1 G2 H2 : Hp) : Prop where
  hh : ∀ a o, a ≠ g → H1 a = some o → H2 a = some o
  gg : Ex G G2
  gh : Ex G2 H2
  ag : ∀ a o, H1 a = some o → G2 a = G a
section
variable {g : Addr} {G H1 G2 H2 G3 H3 : Hp}
theorem ExtG.refl (e : Ex G H1) : ExtG g G H1 G H1 := ⟨fun _ _ _ h => h, Ex.refl G, e, fun _ _ _ => rfl⟩
/-- H1 knows g all along -/
theorem ExtG.trans (a : ExtG g G H1 G2 H2) (b : ExtG g G2 H2 G3 H3) (hg : ∃ o, H2 g = some o) : ExtG g G H1 G3 H3 :=
  ⟨fun c o n h => b.hh c o n (a.hh c o n h), a.gg.trans b.gg, b.gh, fun c o h => by
    by_cases z : c = g
    · obtain ⟨o', h'⟩ := hg
      rw [z] at h ⊢
      exact (b.ag g o' h').trans (a.ag g o h)
    · exact (b.ag c o (a.hh c o z h)).trans (a.ag c o h)⟩
theorem Ext.extG (x : Ext G H1 G2 H2) : ExtG g G H1 G2 H2 := ⟨fun a o _ h => x.hh a o h, x.gg, x.gh, x.ag⟩
theorem ExtG.thenE (a : ExtG g G H1 G2 H2) (b : Ext G2 H2 G3 H3) (hg : ∃ o, H2 g = some o) : ExtG g G H1 G3 H3 := a.trans b.extG hg
/-- g itself is written -/
theorem ExtG.wr {o : HO} (e : Ex G H1) (n : G g = none) : ExtG g G H1 G (upd H1 g o) :=
  ⟨fun a u z h => by rw [upd_ne z]; exact h, Ex.refl G, fun a u h => by
    rw [upd_ne (ne_of_none h n)]
    exact e a u h, fun _ _ _ => rfl⟩
theorem ExtG.off (a : ExtG g G H1 G2 H2) (n : G g = none) (h : ∃ o, H1 g = some o) : G2 g = none := by
  obtain ⟨o, h⟩ := h
  exact (a.ag g o h).trans n
theorem ExtG.new {p : Addr} {o : HO} (a : ExtG g G H1 G2 H2) (hp : H2 p = none) (hg : ∃ o, H2 g = some o) : ExtG g G H1 (upd G2 p o) (upd H2 p o) := a.thenE (Ext.new a.gh hp (Ex.new hp) upd_same) hg
end
end Kx
namespace Kx
open PySem PySem.Spec PyProof.Rows L2 Evl
/-- a generator at g: what a draw may ask; n: how far its counter may have gone -/
def GenAt (H : Hp) (g : Addr) (n : Nat) : Prop := ∃ a b c : Int, H g = some (.lst [.int a, .int b, .int c]) ∧ (0 ≤ a ∧ a < 2 ^ 2000) ∧ (0 ≤ b ∧ b < 2147483647) ∧ (0 ≤ c ∧ c ≤ n)
theorem GenAt.is {H : Hp} {g : Addr} {n : Nat} (h : GenAt H g n) : ∃ o, H g = some o := let ⟨_, _, _, e, _⟩ := h; ⟨_, e⟩
theorem GenAt.le {H : Hp} {g : Addr} {n m : Nat} (h : GenAt H g n) (l : n ≤ m) : GenAt H g m := let ⟨a, b, c, e, h1, h2, h3⟩ := h; ⟨a, b, c, e, h1, h2, by omega⟩
theorem GenAt.of {H H' : Hp} {g : Addr} {n : Nat} (h : GenAt H g n) (x : H' g = H g) : GenAt H' g n := let ⟨a, b, c, e, r⟩ := h; ⟨a, b, c, x.trans e, r⟩
theorem GenAt.ex {H H' : Hp} {g : Addr} {n : Nat} (h : GenAt H g n) (x : Ex H H') : GenAt H' g n := let ⟨a, b, c, e, r⟩ := h; ⟨a, b, c, x _ _ e, r⟩
/-- where we stand: the known part, the heap, the generator's counter -/
structure KS (g : Addr) (G0 H0 G H : Hp) (n : Nat) : Prop where
  x : ExtG g G0 H0 G H
  gen : GenAt H g n
  off : G g = none
section
variable {g p : Addr} {G0 H0 G H G2 H2 : Hp} {n m : Nat} {o : HO}
theorem KS.start (e : Ex G H) (h : GenAt H g n) (o : G g = none) : KS g G H G H n := ⟨ExtG.refl e, h, o⟩
theorem KS.draw (k : KS g G0 H0 G H n) (e : H2 = upd H g o) (h : GenAt H2 g m) : KS g G0 H0 G H2 m := by
  subst e
  exact ⟨k.x.trans (ExtG.wr k.x.gh k.off) k.gen.is, h, k.off⟩
theorem KS.ne (k : KS g G0 H0 G H n) (h : H p = none) : p ≠ g := fun z => by
  obtain ⟨o, e⟩ := k.gen.is
  rw [z, e] at h
  cases h
/-- a new object that is known -/
theorem KS.new (k : KS g G0 H0 G H n) (h : H p = none) : KS g G0 H0 (upd G p o) (upd H p o) n :=
  ⟨k.x.new h k.gen.is, k.gen.ex (Ex.new h), by rw [upd_ne (k.ne h).symm]; exact k.off⟩
/-- a new object that is our own -/
theorem KS.own (k : KS g G0 H0 G H n) (h : H p = none) : KS g G0 H0 G (upd H p o) n :=
  ⟨k.x.thenE ⟨Ex.new h, Ex.refl G, k.x.gh.trans (Ex.new h), fun _ _ _ => rfl⟩ k.gen.is, k.gen.ex (Ex.new h), k.off⟩
theorem KS.step (k : KS g G0 H0 G H n) (x : Ext G H G2 H2) : KS g G0 H0 G2 H2 n :=
  ⟨k.x.thenE x k.gen.is, k.gen.ex x.hh, by obtain ⟨o, e⟩ := k.gen.is; exact (x.ag _ _ e).trans k.off⟩
theorem KS.then (k : KS g G0 H0 G H n) (x : KS g G H G2 H2 m) : KS g G0 H0 G2 H2 m := ⟨k.x.trans x.x k.gen.is, x.gen, x.off⟩
/-- our own object is written -/
theorem KS.put (k : KS g G0 H0 G H n) (n0 : H0 p = none) (ng : G p = none) (hp : p ≠ g) : KS g G0 H0 G (upd H p o) n := by
  refine ⟨⟨fun a u z h => ?_, k.x.gg, fun a u h => ?_, k.x.ag⟩, k.gen.of (upd_ne hp.symm), k.off⟩
  · rw [upd_ne (ne_of_none h n0)]
    exact k.x.hh a u z h
  · rw [upd_ne (ne_of_none h ng)]
    exact k.x.gh a u h
/-- our own object is known from now on -/
theorem KS.freeze (k : KS g G0 H0 G H n) (n0 : H0 p = none) (ng : G p = none) (hp : p ≠ g) (h : H p = some o) : KS g G0 H0 (upd G p o) H n := by
  refine ⟨⟨k.x.hh, k.x.gg.trans (Ex.new ng), fun a u q => ?_, fun a u q => ?_⟩, k.gen, by rw [upd_ne hp.symm]; exact k.off⟩
  · by_cases z : a = p
    · rw [z, upd_same] at q
      rw [z, h]
      exact q
    · rw [upd_ne z] at q
      exact k.x.gh a u q
  · rw [upd_ne (ne_of_none q n0)]
    exact k.x.ag a u q
theorem KS.hnone (k : KS g G0 H0 G H n) (h : H p = none) : H0 p = none := by
  cases e : H0 p with
  | none => rfl
  | some o => rw [k.x.hh p o (k.ne h) e] at h; cases h
theorem KS.le (k : KS g G0 H0 G H n) (l : n ≤ m) : KS g G0 H0 G H m := ⟨k.x, k.gen.le l, k.off⟩
theorem KS.gnone (k : KS g G0 H0 G H n) (h : H p = none) : G p = none := fresh_back k.x.gh h
end
end Kx
namespace Kx
open PySem PySem.Spec PyProof.Rows L2 Evl
/-! ### owners -/
theorem nodup_rev {α : Type} {l : List α} (h : l.Nodup) : l.reverse.Nodup := List.pairwise_reverse.mpr (h.imp fun h e => h e.symm)
abbrev Own := Str × List Str
def strsD (xs : List Str) : PyData := .list (xs.map .str)
def ownD (o : Own) : PyData := .tuple [.str o.1, strsD o.2]
def rights3 : List Str := ["write", "read", "net"]
def names3 : List Str := ["app", "lib", "web"]
def ownOk (rs : List Str) (o : Own) : Prop := o.1 ∈ names3 ∧ o.2.Nodup ∧ ∀ r ∈ o.2, r ∈ rs
structure OwnsOk (rs : List Str) (os : List Own) : Prop where
  nd : (os.map (·.1)).Nodup
  ne : os ≠ []
  le : os.length ≤ 3
  ok : ∀ o ∈ os, ownOk rs o
section
variable {K : PySem.W.Frag} {G : Hp}
theorem dqa_strs : ∀ xs : List Str, DqA K G (xs.map V.str) (xs.map PyData.str)
  | [] => .nil
  | x :: xs => .cons (.str x) (dqa_strs xs)
theorem dq_strs {p : Addr} {xs : List Str} (h : G p = some (.lst (xs.map V.str))) : Dq K G (.ref p) (strsD xs) := .lst h (dqa_strs xs)
theorem dqa_rev : ∀ {vs : List V} {ds : List PyData}, DqA K G vs ds → DqA K G vs.reverse ds.reverse
  | _, _, .nil => .nil
  | _, _, .cons a b => by
    rw [List.reverse_cons, List.reverse_cons]
    exact dqa_app (dqa_rev b) a
end
end Kx

set_option Elab.async false
set_option maxRecDepth 100000
set_option linter.all false
set_option maxHeartbeats 4000000
namespace Lx
open PySem PySem.Spec PyProof.Rows L2 Evl Kx
abbrev sCell : Stmt := top 66
abbrev sHash : Stmt := top 67
abbrev sGen : Stmt := top 68
abbrev sRnd : Stmt := top 69
section
variable {P : Program} {w : World} {K : PySem.W.Frag} {mg : Str → Option Value} {base : Heap} {f : Addr} {fd : FuncData}

theorem scCell : FnScope ["script", "index"] ["script", "index"] (defScope sCell) := ⟨rfl, rfl, rfl, by decide +kernel, rfl, by decide +kernel, by decide +kernel⟩
def spCell (K : PySem.W.Frag) : Sp := fun vs H Q _ => ∃ (l : Addr) (ns : List Int) (j : Nat), vs = [.ref l, .int j] ∧ SqL K H l (ns.map V.int) ∧ Q (.int (ns.getD j 0)) H
theorem ok_cell (F : Fun K "_law_cell" "_law_cell" sCell f fd) (mL : mg "len" = none) : FnOk P w K mg base CX0 1 f fd ["script", "index"] (spCell K) := by
  refine F.ok scCell (fun vs H Q E h => ?_) (fun cdv A outer s H vs Q E hr h => ?_)
  · obtain ⟨l, ns, j, rfl, _⟩ := h
    rfl
  · obtain ⟨l, ns, j, rfl, hS, q⟩ := h
    refine ⟨_, pss_cons (ps_if (pt_cmpR op_lt (pv 1) (pe_callB call_len_seq (by rfl) mL PySem.boot_len (pa_cons (pv 0) pa_nil)) (nomark _))
      (pss_one (ps_ret (pe_ix ix_list (pv 0) (pv 1) (fun _ _ => rfl)))) pss_nil) (pss_one (ps_ret pe_int)), ?_⟩
    refine ⟨_, rfl, _, rfl, l, _, rfl, .inl hS, _, _, rfl, rfl, _, rfl, ?_⟩
    refine ite2 (fun h => ?_) (fun h => ?_)
    · have hj : j < ns.length := by
        have h2 := of_decide_eq_true h
        rw [List.length_map] at h2
        omega
      refine ⟨_, rfl, _, rfl, l, _, _, .int (ns.getD j 0), rfl, rfl, hS, atI_nat ?_, q⟩
      rw [List.getElem?_map, List.getElem?_eq_getElem hj, List.getD_eq_getElem?_getD, List.getElem?_eq_getElem hj] <;> rfl
    · have hj : ¬ j < ns.length := fun z => h (decide_eq_true (by rw [List.length_map]; omega))
      rw [List.getD_eq_getElem?_getD, List.getElem?_eq_none (by omega)] at q
      exact q

theorem scHash : FnScope ["seed", "index", "mixed"] ["seed", "index"] (defScope sHash) := ⟨rfl, rfl, rfl, by decide +kernel, rfl, by decide +kernel, by decide +kernel⟩
def spHash : Sp := fun vs H Q _ => ∃ s i : Int, vs = [.int s, .int i] ∧ (0 ≤ s ∧ s < 2147483647) ∧ (0 ≤ i ∧ i < 2 ^ 60) ∧ ∀ r : Int, 0 ≤ r ∧ r < 2147483587 → Q (.int r) H
theorem ok_hash (F : Fun K "_law_hash" "_law_hash" sHash f fd) (mI : mg "int" = none) : FnOk P w K mg base CX0 1 f fd ["seed", "index"] spHash := by
  refine F.ok scHash (fun vs H Q E h => ?_) (fun cdv A outer s H vs Q E hr h => ?_)
  · obtain ⟨_, _, rfl, _⟩ := h
    rfl
  · obtain ⟨z, i, rfl, hz, hi, q⟩ := h
    refine ⟨_, pss_cons (ps_set (i := 2) scHash.nd rfl (Or.inl rfl) (pe_op op_mod (pe_callTy call_int1 (by rfl) mI PyProof.Rows.boot_int
        (pa_cons (pe_op op_add (pe_op op_add (pe_op op_add (pe_op op_mul (pv 0) pe_int) (pe_op op_mul (pe_op op_mul pe_int (pv 1)) (pv 1))) (pv 1)) pe_int) pa_nil)) pe_int))
      (pss_cons (ps_set (i := 2) scHash.nd rfl (Or.inl rfl) (pe_op op_mod (pe_callTy call_int1 (by rfl) mI PyProof.Rows.boot_int
        (pa_cons (pe_op op_add (pe_op op_mul (pv 2) (pv 2)) pe_int) pa_nil)) pe_int))
      (pss_one (ps_ret (pe_op op_mod (pe_callTy call_int1 (by rfl) mI PyProof.Rows.boot_int (pa_cons (pe_op op_mul (pv 2) pe_int) pa_nil)) pe_int)))), ?_⟩
    have e60 : (2 : Int) ^ 60 = 1152921504606846976 := by decide
    rw [e60] at hi
    have c1 : CMul z 1103515245 := .inr (by decide)
    have c2 : CMul 7919 i := .inl (by decide)
    have c3 : CMul (7919 * i) i := .inr (by
      have e64 : (2 : Int) ^ 64 = 18446744073709551616 := by decide
      rw [e64]
      omega)
    have c4 : ∀ x : Int, CMul (x % 2147483647) (x % 2147483647) := fun x => .inr (by
      have e64 : (2 : Int) ^ 64 = 18446744073709551616 := by decide
      rw [e64]
      omega)
    have c5 : ∀ x : Int, CMul x 48271 := fun x => .inr (by decide)
    have mp : ∀ {b : Int}, 0 < b → 0 < b := fun h => h
    refine ⟨_, rfl, _, _, rfl, rfl, c1, ?_⟩
    refine ⟨_, rfl, _, _, rfl, rfl, c2, _, rfl, _, _, rfl, rfl, c3, _, _, rfl, rfl, _, rfl, _, _, rfl, rfl, _, _, rfl, rfl, ?_⟩
    refine .inl ⟨_, rfl, _, _, rfl, rfl, mp (by decide), ?_⟩
    refine ⟨_, rfl, _, rfl, _, _, rfl, rfl, c4 _, _, _, rfl, rfl, .inl ⟨_, rfl, _, _, rfl, rfl, mp (by decide), ?_⟩⟩
    refine ⟨_, rfl, _, _, rfl, rfl, c5 _, .inl ⟨_, rfl, _, _, rfl, rfl, mp (by decide), ?_⟩⟩
    exact q _ (by omega)
theorem scGen : FnScope ["script", "index", "seed"] ["script", "index"] (defScope sGen) := ⟨rfl, rfl, rfl, by decide +kernel, rfl, by decide +kernel, by decide +kernel⟩
structure spGen (K : PySem.W.Frag) (vs : List V) (H : Hp) (Q : VK) (E_ : XK) : Prop where
  mk' ::
  out : ∃ (l : Addr) (ns : List Int) (j : Nat), vs = [.ref l, .int j] ∧ SqL K H l (ns.map V.int) ∧ ∀ p H', H p = none → Same H H' → GenAt H' p (1000 * j) → Q (.ref p) H'
theorem ok_gen {fC : Addr} {fdC : FuncData} (F : Fun K "_law_generator" "_law_generator" sGen f fd) (mI : mg "int" = none) (mM : mg "max" = none)
    (FC : FnOk P w K mg base CX0 1 fC fdC ["script", "index"] (spCell K)) (mC : mg "_law_cell" = some (.ref fC)) (kC : PySem.W.keepIn K (.ref fC) = true) (bC : Binds K fdC ["script", "index"] []) :
    FnOk P w K mg base CX0 2 f fd ["script", "index"] (spGen K) := by
  refine F.ok scGen (fun vs H Q E h => ?_) (fun cdv A outer s H vs Q E hr h => ?_)
  · obtain ⟨_, _, _, rfl, _⟩ := h
    rfl
  · obtain ⟨l, ns, j, rfl, hS, q⟩ := h
    refine ⟨_, pss_cons (ps_set (i := 2) scGen.nd rfl (Or.inl rfl) (pe_call FC hr rfl mC kC bC .nil pass0 (pa_cons (pv 0) (pa_cons (pv 1) pa_nil))))
      (pss_one (ps_ret (pe_lst (pa_cons (pe_op op_mod (pe_callTy call_int1 (by rfl) mI PyProof.Rows.boot_int (pa_cons (pe_callB (call_max2 rfl) (by rfl) mM (by decide +kernel)
          (pa_cons (pe_op op_sub (pv 2) (pe_op op_pow pe_int pe_int)) (pa_cons pe_int pa_nil))) pa_nil)) (pe_op op_powB (pe_op op_pow pe_int pe_int) pe_int))
        (pa_cons (pe_op op_mod (pe_callTy call_int1 (by rfl) mI PyProof.Rows.boot_int (pa_cons (pv 2) pa_nil)) pe_int)
        (pa_cons (pe_op op_mul pe_int (pv 1)) pa_nil)))))), ?_⟩
    have mp : ∀ {b : Int}, 0 < b → 0 < b := fun h => h
    refine ⟨_, rfl, _, rfl, l, ns, j, rfl, hS, ?_⟩
    have hp : CPow 10 18 := ⟨by decide, by decide, by decide⟩
    have hp2 : CPow 10 60 := ⟨by decide, by decide, by decide⟩
    refine ⟨_, rfl, _, _, rfl, rfl, hp, _, _, rfl, rfl, _, _, rfl, ?_⟩
    refine .inl ⟨_, rfl, _, _, rfl, rfl, hp2, _, _, rfl, rfl, ⟨by decide, by decide +kernel⟩, _, _, rfl, rfl, mp (by decide +kernel), ?_⟩
    refine ⟨_, rfl, .inl ⟨_, rfl, _, _, rfl, rfl, mp (by decide), ?_⟩⟩
    refine ⟨_, rfl, _, _, rfl, rfl, .inl (by decide), ?_⟩
    refine ⟨by show 3 ≤ sizeLine; decide, fun p hp => q p _ hp (same_ex (Ex.new hp)) ⟨_, _, _, upd_same, ⟨?_, ?_⟩, ⟨?_, ?_⟩, ?_, ?_⟩⟩
    · exact Int.emod_nonneg _ (by decide +kernel)
    · exact Int.lt_of_lt_of_le (Int.emod_lt_of_pos _ (by decide +kernel)) (by decide +kernel)
    · omega
    · omega
    · omega
    · omega

theorem scRnd : FnScope ["generator", "bound", "drawn", "turn"] ["generator", "bound"] (defScope sRnd) := ⟨rfl, rfl, rfl, by decide +kernel, rfl, by decide +kernel, by decide +kernel⟩
structure spRnd (vs : List V) (H : Hp) (Q : VK) (E_ : XK) : Prop where
  mk' ::
  out : ∃ (g : Addr) (n : Nat) (m : Int), vs = [.ref g, .int m] ∧ GenAt H g n ∧ n < 2 ^ 50 ∧ (1 ≤ m ∧ m < 2 ^ 59) ∧
  ∀ (r : Int) H' o, 0 ≤ r ∧ r < m → H' = upd H g o → GenAt H' g (n + 2) → Q (.int r) H'
theorem ok_rnd {fH : Addr} {fdH : FuncData} (F : Fun K "_law_random" "_law_random" sRnd f fd) (mI : mg "int" = none) (mR : mg "range" = none)
    (FH : FnOk P w K mg base CX0 1 fH fdH ["seed", "index"] spHash) (mH : mg "_law_hash" = some (.ref fH)) (kH : PySem.W.keepIn K (.ref fH) = true) (bH : Binds K fdH ["seed", "index"] []) :
    FnOk P w K mg base CX0 2 f fd ["generator", "bound"] spRnd := by
  refine F.ok scRnd (fun vs H Q E h => ?_) (fun cdv A outer s H vs Q E hr h => ?_)
  · obtain ⟨_, _, _, rfl, _⟩ := h
    rfl
  · obtain ⟨g, n, m, rfl, ⟨a, b, c, hg, ha, hb, hc⟩, hn, hm, q⟩ := h
    refine ⟨_, pss_cons (ps_if (pt_cmpR op_gt (pe_ix ix_list (pv 0) pe_int (fun _ _ => rfl)) pe_int (nomark _))
        (pss_cons (ps_set (i := 2) scRnd.nd rfl (Or.inl rfl) (pe_op op_mod (pe_callTy call_int1 (by rfl) mI PyProof.Rows.boot_int (pa_cons (pe_ix ix_list (pv 0) pe_int (fun _ _ => rfl)) pa_nil)) (pv 1)))
        (pss_cons (ps_asg (pe_op op_fdivW (pe_ix ix_list (pv 0) pe_int (fun _ _ => rfl)) (pv 1)) (pg_sub (pv 0) pe_int set_list))
        (pss_one (ps_ret (pv 2))))) pss_nil)
      (pss_cons (ps_set (i := 2) scRnd.nd rfl (Or.inl rfl) pe_int)
      (pss_cons (ps_for PassesOwn.never rfl (pi_range1 (by rfl) mR (pa_cons (pe_op op_add pe_int (pe_op op_fdiv (pe_bits (pv 1)) pe_int)) pa_nil)) (pg_name (i := 3) scRnd.nd rfl (Or.inl rfl))
        (pss_cons (ps_asg (pe_op op_add (pe_ix ix_list (pv 0) pe_int (fun _ _ => rfl)) pe_int) (pg_sub (pv 0) pe_int set_list))
        (pss_one (ps_set (i := 2) scRnd.nd rfl (Or.inl rfl) (pe_op op_add (pe_op op_mul (pv 2) pe_int)
          (pe_call FH hr rfl mH kH bH .nil pass0 (pa_cons (pe_ix ix_list (pv 0) pe_int (fun _ _ => rfl)) (pa_cons (pe_ix ix_list (pv 0) pe_int (fun _ _ => rfl)) pa_nil))))))))
      (pss_one (ps_ret (pe_op op_mod (pe_callTy call_int1 (by rfl) mI PyProof.Rows.boot_int (pa_cons (pv 2) pa_nil)) (pv 1)))))), ?_⟩
    have mp : ∀ {b : Int}, 0 < b → 0 < b := fun h => h
    have hm0 : 0 < m := by omega
    have hmb : m.natAbs < 2 ^ 59 := by
      have e : ((2 ^ 59 : Nat) : Int) = 2 ^ 59 := by decide
      omega
    refine ⟨_, rfl, g, _, _, _, rfl, rfl, SqL.of hg, rfl, _, _, rfl, rfl, _, rfl, ite2 (fun h => ?_) (fun h => ?_)⟩
    · have h0 : 0 < a := of_decide_eq_true h
      refine ⟨_, rfl, g, _, _, _, rfl, rfl, SqL.of hg, rfl, .inl ⟨_, rfl, _, rfl, _, _, rfl, rfl, mp hm0, ?_⟩⟩
      refine ⟨_, rfl, g, _, _, _, rfl, rfl, SqL.of hg, rfl, _, rfl, _, _, rfl, rfl, wide_div hm0 hmb (by decide) (by decide), ?_⟩
      refine ⟨_, rfl, g, _, _, 0, rfl, rfl, hg, rfl, _, rfl, ?_⟩
      refine q _ _ _ ⟨Int.emod_nonneg _ (by omega), Int.emod_lt_of_pos _ hm0⟩ rfl ⟨a / m, b, c, upd_same, ⟨Int.ediv_nonneg (by omega) (by omega), ?_⟩, hb, by omega, by omega⟩
      exact Int.lt_of_le_of_lt (Int.ediv_le_self _ (by omega)) ha.2
    · have bits : Builtin.Int.intBits m ≤ 59 := by
        unfold Builtin.Int.intBits
        split
        · decide
        · have h1 : m.natAbs ≠ 0 := by omega
          exact (Nat.log2_lt h1).mpr hmb
      refine ⟨_, rfl, _, rfl, _, _, rfl, rfl, ⟨by decide, by decide⟩, _, _, rfl, rfl, _, rfl, by omega, by omega, ?_⟩
      refine for_range (lo := 0) (n := (1 + (Builtin.Int.intBits m : Int) / 30).toNat) (fun i σ H' => ∃ (c' d : Int) (t : Option V) (o : HO), σ = [some (.ref g), some (.int m), some (.int d), t] ∧ H' = upd H g o ∧
        H' g = some (.lst [.int a, .int b, .int c']) ∧ 0 ≤ c' ∧ c' ≤ n + i) ?_ ?_ ?_
      · refine ⟨c, 0, none, .lst [.int a, .int b, .int c], rfl, ?_, hg, by omega, by omega⟩
        funext z
        by_cases e : z = g
        · rw [e, hg, upd_same]
        · rw [upd_ne e]
      · rintro i σ H' hi ⟨c', d, t, o, rfl, rfl, h1, h2, h3⟩
        refine ⟨_, rfl, g, _, _, _, rfl, rfl, SqL.of h1, rfl, _, _, rfl, rfl, _, rfl, g, _, _, 2, rfl, rfl, h1, rfl, ?_⟩
        have e60 : (2 : Int) ^ 60 = 1152921504606846976 := by decide
        have e50 : (2 : Nat) ^ 50 = 1125899906842624 := by decide
        refine ⟨_, rfl, _, _, rfl, rfl, .inr (by decide), _, rfl, g, _, _, _, rfl, rfl, SqL.of upd_same, rfl, _, rfl, g, _, _, _, rfl, rfl, SqL.of upd_same, rfl, ?_⟩
        refine ⟨_, _, rfl, hb, ⟨by omega, by rw [e60]; omega⟩, fun r hr => ⟨_, _, rfl, rfl, c' + 1, _, _, _, rfl, upd_upd, upd_same, by omega, by omega⟩⟩
      · rintro σ H' ⟨c', d, t, o, rfl, rfl, h1, h2, h3⟩
        refine ⟨_, rfl, .inl ⟨_, rfl, _, rfl, _, _, rfl, rfl, mp hm0, ?_⟩⟩
        exact q _ _ o ⟨Int.emod_nonneg _ (by omega), Int.emod_lt_of_pos _ hm0⟩ rfl ⟨a, b, c', h1, ha, hb, h2, by omega⟩

/-! ### the rights -/
abbrev sRts : Stmt := top 70
theorem scRts : FnScope ["generator"] ["generator"] (defScope sRts) := ⟨rfl, rfl, rfl, by decide +kernel, rfl, by decide +kernel, by decide +kernel⟩
/-- drawn rights: at the list p, known -/
structure spRts (vs : List V) (H : Hp) (Q : VK) (E_ : XK) : Prop where
  mk' ::
  out : ∃ (g : Addr) (n : Nat) (G : Hp), vs = [.ref g] ∧ GenAt H g n ∧ n < 2 ^ 49 ∧ Ex G H ∧ G g = none ∧
  ∀ (p : Addr) G2 H2 (k : Nat), KS g G H G2 H2 (n + 2) → G2 p = some (.lst ((rights3.take (k + 1)).map V.str)) → k < 3 → Q (.ref p) H2
theorem ok_rts {fR : Addr} {fdR : FuncData} (F : Fun K "_law_rights_drawn" "_law_rights_drawn" sRts f fd) (FR : FnOk P w K mg base CX0 2 fR fdR ["generator", "bound"] spRnd) (mR : mg "_law_random" = some (.ref fR)) (kR : PySem.W.keepIn K (.ref fR) = true) (bR : Binds K fdR ["generator", "bound"] []) :
    FnOk P w K mg base CX0 3 f fd ["generator"] spRts := by
  refine F.ok scRts (fun vs H Q E h => ?_) (fun cdv A outer s H vs Q E hr h => ?_)
  · obtain ⟨_, _, _, rfl, _⟩ := h
    rfl
  · obtain ⟨g, n, G, rfl, hg, hn, e, n0, q⟩ := h
    refine ⟨_, pss_one (ps_ret (pe_slice sl_list (pe_lst (pa_cons pe_str (pa_cons pe_str (pa_cons pe_str pa_nil)))) po_none (po_some (pe_op op_add pe_int (pe_call FR hr rfl mR kR bR .nil pass0 (pa_cons (pv 0) (pa_cons pe_int pa_nil))))))), ?_⟩
    refine ⟨by show 3 ≤ sizeLine; decide, fun p hp => ⟨_, rfl, g, n, 3, rfl, (KS.start e hg n0).own hp |>.gen, by omega, by decide, fun r H2 o hr2 hH2 g2 => ?_⟩⟩
    have k1 := ((KS.start e hg n0).own (p := p) (o := .lst [V.str "write", V.str "read", V.str "net"]) hp).draw hH2 g2
    have pg : p ≠ g := (KS.start e hg n0).ne hp
    have h2 : H2 p = some (.lst [V.str "write", V.str "read", V.str "net"]) := by
      rw [hH2, upd_ne pg]
      exact upd_same
    refine ⟨_, _, rfl, rfl, _, rfl, p, _, rfl, SqL.of h2, fun p2 hp2 => ?_⟩
    obtain ⟨k, hk, rfl⟩ : ∃ k : Nat, k < 3 ∧ r = (k : Int) := ⟨r.toNat, by omega, by omega⟩
    refine q p2 _ _ k (k1.new (o := .lst ((rights3.take (k + 1)).map V.str)) hp2) upd_same hk |> fun z => ?_
    match k, hk, z with
    | 0, _, z => exact z
    | 1, _, z => exact z
    | 2, _, z => exact z
    | k + 3, h, _ => omega

/-- a draw, from where we stand -/
theorem rnd_k {g : Addr} {G0 H0 G H : Hp} {n : Nat} {m : Int} {Q : VK} {E : XK} (k : KS g G0 H0 G H n) (hn : n < 2 ^ 50) (hm : 1 ≤ m ∧ m < 2 ^ 59)
    (q : ∀ (r : Int) H2, 0 ≤ r ∧ r < m → (∀ a, a ≠ g → H2 a = H a) → KS g G0 H0 G H2 (n + 2) → Q (.int r) H2) : spRnd [.ref g, .int m] H Q E :=
  ⟨g, n, m, rfl, k.gen, hn, hm, fun r H2 _ hr e g2 => q r H2 hr (fun a z => by rw [e, upd_ne z]) (k.draw e g2)⟩
/-- a list of our own choice, or the same turned about -/
theorem rev_or {g z : Addr} {G0 H0 G H : Hp} {n i : Nat} {xs : List V} {σ : L2.St} {Qc : VK} {c : Prop} [Decidable c] (k : KS g G0 H0 G H n) (hz : G z = some (.lst xs)) (hσ : σ[i]? = some (some (.ref z)))
    (fin : ∀ p G2 H2 (b : Bool), KS g G0 H0 G2 H2 n → Ext G H G2 H2 → G2 p = some (.lst (if b then xs.reverse else xs)) → Qc (.ref p) H2) :
    if c then tRevL K (tVar i) σ H Qc else tVar i σ H Qc := by
  refine ite2 (fun _ => ⟨_, hσ, z, xs, rfl, SqL.of (k.x.gh _ _ hz), fun p hp => ?_⟩) (fun _ => ⟨_, hσ, ?_⟩)
  · exact fin p _ _ true (k.new hp) (Ext.new k.x.gh hp (Ex.new hp) upd_same) upd_same
  · exact fin z _ _ false k (Ext.refl k.x.gh) hz
/-! ### the owners -/
abbrev sOws : Stmt := top 71
theorem scOws : FnScope ["generator", "rights", "found", "name", "some", "right"] ["generator", "rights"] (defScope sOws) := ⟨rfl, rfl, rfl, by decide +kernel, rfl, by decide +kernel, by decide +kernel⟩
structure spOws (K : PySem.W.Frag) (vs : List V) (H : Hp) (Q : VK) (E_ : XK) : Prop where
  mk' ::
  out : ∃ (g pr : Addr) (n : Nat) (G : Hp) (rs : List Str), vs = [.ref g, .ref pr] ∧ GenAt H g n ∧ n < 2 ^ 49 ∧ Ex G H ∧ G g = none ∧ G pr = some (.lst (rs.map V.str)) ∧ rs.length ≤ 3 ∧ rs.Nodup ∧
  ∀ (p : Addr) G2 H2 (os : List Own), KS g G H G2 H2 (n + 40) → Dq K G2 (.ref p) (.list (os.map ownD)) → OwnsOk rs os → Q (.ref p) H2
theorem ok_ows {fR : Addr} {fdR : FuncData} (F : Fun K "_law_owners_drawn" "_law_owners_drawn" sOws f fd) (FR : FnOk P w K mg base CX0 2 fR fdR ["generator", "bound"] spRnd) (mR : mg "_law_random" = some (.ref fR)) (kR : PySem.W.keepIn K (.ref fR) = true) (bR : Binds K fdR ["generator", "bound"] []) :
    FnOk P w K mg base CX0 3 f fd ["generator", "rights"] (spOws K) := by
  refine F.ok scOws (fun vs H Q E h => ?_) (fun cdv A outer s H vs Q E hr h => ?_)
  · obtain ⟨_, _, _, _, _, rfl, _⟩ := h
    rfl
  · obtain ⟨g, pr, n, G, rs, rfl, hg, hn, e, n0, hpr, hrl, hrn, q⟩ := h
    refine ⟨_, pss_cons (ps_set (i := 2) scOws.nd rfl (Or.inl rfl) (pe_lst pa_nil))
      (pss_cons (ps_for PassesOwn.never rfl (pi_list (pe_slice sl_list (pe_lst (pa_cons pe_str (pa_cons pe_str (pa_cons pe_str pa_nil)))) po_none (po_some (pe_op op_add pe_int (pe_call FR hr rfl mR kR bR .nil pass0 (pa_cons (pv 0) (pa_cons pe_int pa_nil))))))) (pg_name (i := 3) scOws.nd rfl (Or.inl rfl))
        (pss_cons (ps_setLc (i := 4) (own := [("right", 5)]) (g := gName 5) rfl scOws.nd rfl rfl (sw_true rfl rfl rfl (by decide +kernel)) (pi_list (pv 1)) (blkOk_by (own := [("right", 5)]) (N := ["generator", "rights", "found", "name", "some", "right"]) (sc := defScope sOws) (by decide +kernel))
            (fun _ _ _ _ _ => pg_name (i := 5) scOws.nd rfl (Or.inl rfl)) (fun _ _ _ _ _ => pts_one (pt_cmpR op_gt (pe_call FR hr rfl mR kR bR .nil pass0 (pa_cons (pv 0) (pa_cons pe_int pa_nil))) pe_int (nomark _))) (fun _ _ _ _ _ => pv 5))
        (pss_one (ps_expr (pe_bm PySem.F.plainAttrs_list PySem.F.slot_list_append PySem.F.type_list_append mt_append (pv 2) (pa_cons (pe_tup (pa_cons (pv 3) (pa_cons (pe_ifExp (pt_cmpR op_eq (pe_call FR hr rfl mR kR bR .nil pass0 (pa_cons (pv 0) (pa_cons pe_int pa_nil))) pe_int (nomark _)) (pe_revL (pv 4)) (pv 4)) pa_nil))) pa_nil))))))
      (pss_one (ps_ret (pe_ifExp (pt_cmpR op_eq (pe_call FR hr rfl mR kR bR .nil pass0 (pa_cons (pv 0) (pa_cons pe_int pa_nil))) pe_int (nomark _)) (pe_revL (pv 2)) (pv 2))))), ?_⟩
    have e49 : (2 : Nat) ^ 49 = 562949953421312 := by decide
    have e50 : (2 : Nat) ^ 50 = 1125899906842624 := by decide
    have k0 := KS.start e hg n0
    refine ⟨by show 0 ≤ sizeLine; decide, fun pf npf => ?_⟩
    have k1 := k0.own (o := .lst []) npf
    have fg : pf ≠ g := k0.ne npf
    have Gf : G pf = none := k0.gnone npf
    refine ⟨by show 3 ≤ sizeLine; decide, fun p1 np1 => ⟨_, rfl, rnd_k (k1.own np1) (by omega) (by decide) fun r H2 hr s2 k2 => ?_⟩⟩
    have p1g : p1 ≠ g := k1.ne np1
    have h1 : H2 p1 = some (.lst [V.str "app", V.str "lib", V.str "web"]) := by
      rw [s2 _ p1g]
      exact upd_same
    refine ⟨_, _, rfl, rfl, _, rfl, p1, _, rfl, SqL.of h1, fun p2 np2 => ?_⟩
    obtain ⟨c, hc, rfl⟩ : ∃ c : Nat, c < 3 ∧ r = (c : Int) := ⟨r.toNat, by omega, by omega⟩
    have hcut : cutV [V.str "app", V.str "lib", V.str "web"] none (some (1 + (c : Int))) = (names3.take (c + 1)).map V.str := by
      match c, hc with
      | 0, _ => rfl
      | 1, _ => rfl
      | 2, _ => rfl
    rw [hcut]
    have k3 := k2.new (o := .lst ((names3.take (c + 1)).map V.str)) np2
    have hf2 : H2 pf = some (.lst []) := by
      rw [s2 _ fg, upd_ne (ne_of_none upd_same np1)]
      exact upd_same
    have f2 : pf ≠ p2 := ne_of_none hf2 np2
    refine ⟨p2, rfl, ⟨_, SqL.of upd_same⟩, ?_⟩
    refine for_list (K := K) (a := p2) (xs := (names3.take (c + 1)).map V.str) (fun i σ H' => ∃ (vs : List V) (os : List Own) (G' : Hp) (a b : Option V), σ = [some (.ref g), some (.ref pr), some (.ref pf), a, b, none] ∧
        KS g G H G' H' (n + 2 + 8 * i) ∧ G' p2 = some (.lst ((names3.take (c + 1)).map V.str)) ∧ H' pf = some (.lst vs) ∧ G' pf = none ∧ DqA K G' vs (os.map ownD) ∧ os.map (·.1) = names3.take i ∧ ∀ o ∈ os, ownOk rs o) ?_
      (fun i σ H' _ ⟨_, _, _, _, _, _, k, g2, _⟩ => SqL.of (k.x.gh _ _ g2)) ?_ ?_
    · exact ⟨[], [], _, none, none, rfl, k3, upd_same, by rw [upd_ne f2]; exact hf2, by rw [upd_ne f2]; exact Gf, .nil, rfl, fun o h => by cases h⟩
    · rintro i x σ H' hx ⟨vs, os, G', a, b, rfl, k, g2, hf, gf, hd, hos, hok⟩
      have hi : i < c + 1 := by
        have := List.getElem?_eq_some_iff.mp hx |>.1
        rw [List.length_map, List.length_take] at this
        omega
      have hx' : ∃ nm, names3[i]? = some nm ∧ x = .str nm := by
        rw [List.getElem?_map, List.getElem?_take_of_lt hi] at hx
        cases hz : names3[i]? with
        | none => rw [hz] at hx; cases hx
        | some nm => rw [hz] at hx; exact ⟨nm, rfl, (Option.some.inj hx).symm⟩
      obtain ⟨nm, hnm, rfl⟩ := hx'
      have gpr : G' pr = some (.lst (rs.map V.str)) := k.x.gg _ _ hpr
      refine ⟨_, rfl, ⟨pr, rfl, ⟨_, SqL.of (k.x.gh _ _ gpr)⟩, fun D nD => ?_⟩⟩
      have fD : pf ≠ D := ne_of_none hf nD
      have Dg : D ≠ g := k.ne nD
      refine lc_list (K := K) (a := pr) (xs := rs.map V.str) (fun j H'' => ∃ acc : List Str, KS g G H G' H'' (n + 2 + 8 * i + 2 * j) ∧ H'' D = some (.lst (acc.map V.str)) ∧ H'' pf = some (.lst vs) ∧ acc.Sublist (rs.take j)) ?_
        (fun j H'' _ ⟨_, k', _⟩ => SqL.of (k'.x.gh _ _ gpr)) ?_ ?_
      · exact ⟨[], k.own nD, upd_same, by rw [upd_ne fD]; exact hf, List.nil_sublist _⟩
      · rintro j x H'' hx ⟨acc, k', hD, hf', hsub⟩
        have hj : ∃ rt, rs[j]? = some rt ∧ x = .str rt := by
          rw [List.getElem?_map] at hx
          cases hz : rs[j]? with
          | none => rw [hz] at hx; cases hx
          | some rt => rw [hz] at hx; exact ⟨rt, rfl, (Option.some.inj hx).symm⟩
        obtain ⟨rt, hrt, rfl⟩ := hj
        have hjl : j < rs.length := (List.getElem?_eq_some_iff.mp hrt).1
        have htk : rs.take (j + 1) = rs.take j ++ [rt] := by
          rw [List.take_succ, hrt]
          rfl
        refine ⟨rfl, _, rfl, rnd_k k' (by omega) (by decide) fun r2 H3 hr2 s3 k4 => ⟨_, _, rfl, rfl, _, rfl, ?_⟩⟩
        have hD3 : H3 D = some (.lst (acc.map V.str)) := by rw [s3 _ Dg]; exact hD
        have hf3 : H3 pf = some (.lst vs) := by rw [s3 _ fg]; exact hf'
        refine ite2 (fun hpos => ⟨_, rfl, acc.map V.str, hD3, ?_, acc ++ [rt], ?_, ?_, ?_, ?_⟩) (fun hpos => ⟨acc, ?_, hD3, hf3, ?_⟩)
        · have := hsub.length_le
          rw [List.length_map]
          rw [List.length_take] at this
          have e : (3 : Nat) < sizeLine := by decide
          omega
        · have := k4.put (p := D) (o := .lst (acc.map V.str ++ [V.str rt])) (k.hnone nD) (k.gnone nD) Dg
          exact this
        · rw [upd_same, List.map_append]
          rfl
        · rw [upd_ne fD]
          exact hf3
        · rw [htk]
          exact hsub.append (List.Sublist.refl _)
        · exact k4
        · rw [htk]
          exact hsub.trans (List.sublist_append_left _ _)
      · rintro H'' ⟨acc, k', hD, hf', hsub⟩
        rw [List.take_of_length_le (by rw [List.length_map]; exact Nat.le_refl _)] at hsub
        have k5 := k'.freeze (k.hnone nD) (k.gnone nD) Dg hD
        refine ⟨_, rfl, .inl ⟨rfl, _, SqL.of hf'⟩, _, rfl, _, rfl, rnd_k k5 (by rw [List.length_map]; omega) (by decide) fun r3 H3 hr3 s3 k6 => ⟨rfl, _, rfl, ?_⟩⟩
        have hf3 : H3 pf = some (.lst vs) := by rw [s3 _ fg]; exact hf'
        refine rev_or k6 upd_same rfl fun z G7 H7 b7 k7 x7 hz7 => ?_
        have g7 : G7 pf = none := by rw [x7.ag _ _ hf3, upd_ne fD]; exact gf
        have h7 : H7 pf = some (.lst vs) := x7.hh _ _ hf3
        have x17 : Ex G' G7 := (Ex.new (k.gnone nD)).trans x7.gg
        refine ⟨by show 2 ≤ sizeLine; decide, fun tp ntp => ?_⟩
        have ftp : pf ≠ tp := ne_of_none h7 ntp
        have k8 := k7.new (o := .tup [V.str nm, V.ref z]) ntp
        have x18 := x17.trans (Ex.new (o := .tup [V.str nm, V.ref z]) (k7.gnone ntp))
        have hD8 : DqA K (upd G7 tp (.tup [V.str nm, V.ref z])) vs (os.map ownD) := hd.mono (same_ex x18)
        have hlen : vs.length = i := by
          have e1 := dqa_len hd
          have e2 := congrArg List.length hos
          rw [List.length_map, List.length_take] at e2
          rw [List.length_map] at e1
          have e3 : names3.length = 3 := rfl
          omega
        have e3z : (3 : Nat) < sizeLine := by decide
        refine ⟨pf, vs, V.ref tp, rfl, rfl, by rw [upd_ne ftp]; exact h7, (by rw [hlen]; omega), ?_⟩
        have hsb : (if b7 then (acc.map V.str).reverse else acc.map V.str) = (if b7 then acc.reverse else acc).map V.str := by
          cases b7
          · rfl
          · exact List.map_reverse.symm
        rw [hsb] at hz7
        refine ⟨vs ++ [V.ref tp], os ++ [(nm, if b7 then acc.reverse else acc)], _, _, _, rfl, (k8.put (p := pf) npf ?_ fg).le ?_, x18 _ _ g2, upd_same, ?_, ?_, ?_, ?_⟩
        · rw [upd_ne ftp]; exact g7
        · rw [List.length_map]; omega
        · rw [upd_ne ftp]; exact g7
        · rw [List.map_append]
          refine dqa_app hD8 (.tup (.inl (.inl upd_same)) (.cons (.str _) (.cons (dq_strs ?_) .nil)))
          rw [upd_ne (ne_of_none (k7.x.gh _ _ hz7) ntp)]
          exact hz7
        · rw [List.map_append, hos, List.take_succ, hnm]
          rfl
        · intro o ho
          rcases List.mem_append.mp ho with ho | ho
          · exact hok o ho
          · rw [List.mem_singleton.mp ho]
            refine ⟨List.mem_of_getElem? hnm, ?_, ?_⟩
            · cases b7
              · exact hsub.nodup hrn
              · exact nodup_rev (hsub.nodup hrn)
            · intro r4 hr4
              cases b7
              · exact hsub.subset hr4
              · exact hsub.subset (List.mem_reverse.mp hr4)
    · rintro σ H' ⟨vs, os, G', a, b, rfl, k, g2, hf, gf, hd, hos, hok⟩
      have hpf : (upd G' pf (.lst vs)) pf = some (.lst vs) := upd_same
      have kf := k.freeze npf gf fg hf
      have hN : ((names3.take (c + 1)).map V.str).length = c + 1 := by
        rw [List.length_map, List.length_take]
        have e3 : names3.length = 3 := rfl
        omega
      rw [hN] at hos k kf
      refine ⟨_, rfl, rnd_k kf (by omega) (by decide) fun r3 H3 hr3 s3 k6 => ⟨rfl, _, rfl, ?_⟩⟩
      refine rev_or k6 hpf rfl fun z G7 H7 b7 k7 x7 hz7 => ?_
      have x17 : Ex G' G7 := (Ex.new gf).trans x7.gg
      refine q z G7 H7 (if b7 then os.reverse else os) (k7.le (by omega)) ?_ ?_
      · have := hd.mono (K := K) (same_ex x17)
        refine .lst hz7 ?_
        cases b7
        · exact this
        · show DqA K G7 vs.reverse _
          rw [if_pos rfl, List.map_reverse]
          exact dqa_rev this
      · have hl : os.length ≤ 3 := by
          have e2 := congrArg List.length hos
          rw [List.length_map, List.length_take] at e2
          omega
        have hne : os ≠ [] := fun z => by
          rw [z] at hos
          cases hos
        have hnd : (os.map (·.1)).Nodup := by
          rw [hos]
          exact (List.take_sublist _ _).nodup (by decide)
        cases b7
        · exact ⟨hnd, hne, hl, hok⟩
        · refine ⟨?_, ?_, ?_, ?_⟩
          · rw [if_pos rfl, List.map_reverse]
            exact nodup_rev hnd
          · intro z
            rw [if_pos rfl, List.reverse_eq_nil_iff] at z
            exact hne z
          · rw [if_pos rfl, List.length_reverse]
            exact hl
          · intro o ho
            exact hok o (List.mem_reverse.mp ho)
end
end Lx

set_option Elab.async false
set_option maxRecDepth 100000
set_option linter.all false
set_option maxHeartbeats 4000000
namespace Lx
open PySem PySem.Spec PyProof.Rows L2 Evl Kx
section
variable {P : Program} {w : World} {K : PySem.W.Frag} {mg : Str → Option Value} {base : Heap} {f : Addr} {fd : FuncData}
def kS : Nat → Nat
  | 0 => 8
  | d + 1 => 8 + 2 * (2 + 2 * kS d)
def kB (d most : Nat) : Nat := 2 + most * kS d
/-- the most steps in a step that is nested so deep -/
def cS : Nat → Nat
  | 0 => 1
  | d + 1 => 1 + 4 * cS d
structure RN (rs ns : List Str) : Prop where
  r1 : rs ≠ []
  r2 : rs.length ≤ 5
  n1 : ns ≠ []
  n2 : ns.length ≤ 6
abbrev sStp : Stmt := top 72
abbrev sBod : Stmt := top 73
theorem scStp : FnScope ["generator", "rights", "names", "deep", "marked", "kind", "name", "right", "parts", "mark", "turn"] ["generator", "rights", "names", "deep", "marked"] (defScope sStp) := ⟨rfl, rfl, rfl, by decide +kernel, rfl, by decide +kernel, by decide +kernel⟩
theorem scBod : FnScope ["generator", "rights", "names", "deep", "marked", "most", "found", "turn"] ["generator", "rights", "names", "deep", "marked", "most"] (defScope sBod) := ⟨rfl, rfl, rfl, by decide +kernel, rfl, by decide +kernel, by decide +kernel⟩
structure spStp (K : PySem.W.Frag) (d : Nat) (vs : List V) (H : Hp) (Q : VK) (E_ : XK) : Prop where
  mk' ::
  out : ∃ (g pr pn : Addr) (n : Nat) (G : Hp) (rs ns : List Str) (j : Int) (mk : Bool), vs = [.ref g, .ref pr, .ref pn, .int j, .bl mk] ∧ j = d ∧ d ≤ 2 ∧ GenAt H g n ∧ n < 2 ^ 40 + 10000 * (3 - d) ∧ Ex G H ∧ G g = none ∧
  G pr = some (.lst (rs.map V.str)) ∧ G pn = some (.lst (ns.map V.str)) ∧ RN rs ns ∧
  ∀ (x : V) G2 H2 (s : Stp), KS g G H G2 H2 (n + kS d) → Dq K G2 x (stpD s) → okS rs ns mk s = true → nstS s ≤ d → cntS s ≤ cS d → Q x H2
structure spBod (K : PySem.W.Frag) (d : Nat) (vs : List V) (H : Hp) (Q : VK) (E_ : XK) : Prop where
  mk' ::
  out : ∃ (g pr pn : Addr) (n : Nat) (G : Hp) (rs ns : List Str) (j : Int) (mk : Bool) (most : Nat), vs = [.ref g, .ref pr, .ref pn, .int j, .bl mk, .int most] ∧ j = d ∧ d ≤ 2 ∧ most ≤ 4 ∧ GenAt H g n ∧ n + 5000 < 2 ^ 40 + 10000 * (3 - d) ∧ Ex G H ∧ G g = none ∧
  G pr = some (.lst (rs.map V.str)) ∧ G pn = some (.lst (ns.map V.str)) ∧ RN rs ns ∧
  ∀ (p : Addr) G2 H2 (b : List Stp), KS g G H G2 H2 (n + kB d most) → Dq K G2 (.ref p) (.list (bodyD b)) → okB rs ns mk b = true → nstB b ≤ d → b.length ≤ most → cntB b ≤ most * cS d → Q (.ref p) H2
def spBodP (K : PySem.W.Frag) : Nat → Sp
  | 0 => fun _ _ _ _ => False
  | d + 1 => spBod K d
/-- a body, from where we stand -/
theorem bod_k {g pr pn : Addr} {G0 H0 G H : Hp} {n d most : Nat} {j : Int} {mk : Bool} {rs ns : List Str} {Q : VK} {E : XK} (k : KS g G0 H0 G H n) (hn : n + 5000 < 2 ^ 40 + 10000 * (3 - d)) (hj : j = d) (hd : d ≤ 2) (hm : most ≤ 4)
    (hpr : G pr = some (.lst (rs.map V.str))) (hpn : G pn = some (.lst (ns.map V.str))) (rn : RN rs ns)
    (q : ∀ (p : Addr) G2 H2 (b : List Stp), KS g G0 H0 G2 H2 (n + kB d most) → ExtG g G H G2 H2 → Dq K G2 (.ref p) (.list (bodyD b)) → okB rs ns mk b = true → nstB b ≤ d → b.length ≤ most → cntB b ≤ most * cS d → Q (.ref p) H2) :
    spBod K d [.ref g, .ref pr, .ref pn, .int j, .bl mk, .int most] H Q E :=
  ⟨g, pr, pn, n, G, rs, ns, j, mk, most, rfl, hj, hd, hm, k.gen, hn, k.x.gh, k.off, hpr, hpn, rn, fun p G2 H2 b k2 => q p G2 H2 b (k.then k2) k2.x⟩
/-- a step, from where we stand -/
theorem stp_k {g pr pn : Addr} {G0 H0 G H : Hp} {n d : Nat} {j : Int} {mk : Bool} {rs ns : List Str} {Q : VK} {E : XK} (k : KS g G0 H0 G H n) (hn : n < 2 ^ 40 + 10000 * (3 - d)) (hj : j = d) (hd : d ≤ 2)
    (hpr : G pr = some (.lst (rs.map V.str))) (hpn : G pn = some (.lst (ns.map V.str))) (rn : RN rs ns)
    (q : ∀ (x : V) G2 H2 (s : Stp), KS g G0 H0 G2 H2 (n + kS d) → ExtG g G H G2 H2 → Dq K G2 x (stpD s) → okS rs ns mk s = true → nstS s ≤ d → cntS s ≤ cS d → Q x H2) :
    spStp K d [.ref g, .ref pr, .ref pn, .int j, .bl mk] H Q E :=
  ⟨g, pr, pn, n, G, rs, ns, j, mk, rfl, hj, hd, k.gen, hn, k.x.gh, k.off, hpr, hpn, rn, fun x G2 H2 s k2 => q x G2 H2 s (k.then k2) k2.x⟩
theorem ite_c {c : Prop} [Decidable c] {a b : V} {σ : L2.St} {H : Hp} {Qk : VK} (h : ∀ m, (c → m = a) → (¬ c → m = b) → Qk m H) : if c then tC a σ H Qk else tC b σ H Qk :=
  ite2 (fun z => h a (fun _ => rfl) fun y => (y z).elim) (fun z => h b (fun y => (z y).elim) fun _ => rfl)
theorem or_and {c1 : Prop} {c2 : Bool} [Decidable c1] {σ : L2.St} {H : Hp} {i : Nat} {mk : Bool} {t2 : TT} {Qb : Bool → Hp → Prop} (hσ : σ[i]? = some (some (.bl mk))) (ht : ∀ Q' : Bool → Hp → Prop, Q' c2 H → t2 σ H Q')
    (fin : ∀ b : Bool, (b = true ↔ c1 ∨ (c2 = true ∧ mk = true)) → Qb b H) : if c1 then Qb true H else tAnd t2 (tB (tVar i)) σ H Qb := by
  refine ite2 (fun h => fin true ⟨fun _ => .inl h, fun _ => rfl⟩) (fun h => ht _ (ite2 (fun h2 => ⟨_, hσ, _, rfl, fin mk ⟨fun z => .inr ⟨h2, z⟩, fun z => ?_⟩⟩) fun h2 => fin false ⟨fun z => Bool.noConfusion z, fun z => ?_⟩))
  · rcases z with z | z
    · exact (h z).elim
    · exact z.2
  · rcases z with z | z
    · exact (h z).elim
    · exact (h2 z.1).elim
theorem or_v {mk mb : Bool} {σ : L2.St} {H : Hp} {i : Nat} {Qk : VK} (hσ : σ[i]? = some (some (.bl mb))) (h : Qk (.bl (mk || mb)) H) : if mk = true then Qk (.bl true) H else tVar i σ H Qk := by
  cases mk
  · exact ite2 (fun z => Bool.noConfusion z) fun _ => ⟨_, hσ, h⟩
  · exact ite2 (fun _ => h) fun z => (z rfl).elim
theorem ok_stp {d : Nat} {fR fB : Addr} {fdR fdB : FuncData} (F : Fun K "_law_step_drawn" "_law_step_drawn" sStp f fd) (FR : FnOk P w K mg base CX0 2 fR fdR ["generator", "bound"] spRnd) (mR : mg "_law_random" = some (.ref fR)) (kR : PySem.W.keepIn K (.ref fR) = true) (bR : Binds K fdR ["generator", "bound"] [])
    (FB : FnOk P w K mg base CX0 (2 * d + 2) fB fdB ["generator", "rights", "names", "deep", "marked", "most"] (spBodP K d)) (mB : mg "_law_body_drawn" = some (.ref fB)) (kB' : PySem.W.keepIn K (.ref fB) = true) (bB : Binds K fdB ["generator", "rights", "names", "deep", "marked", "most"] [])
    (mL : mg "len" = none) (mG : mg "range" = none) :
    FnOk P w K mg base CX0 (2 * d + 3) f fd ["generator", "rights", "names", "deep", "marked"] (spStp K d) := by
  refine F.ok scStp (fun vs H Q E h => ?_) (fun cdv A outer s H vs Q E hr h => ?_)
  · obtain ⟨_, _, _, _, _, _, _, _, _, rfl, _⟩ := h
    rfl
  · obtain ⟨g, pr, pn, n, G, rs, ns, j, mk, rfl, hj, hd2, hg, hn, e, n0, hpr, hpn, rn, q⟩ := h
    have r2 := hr.mono (j := 2) (by omega)
    refine ⟨_, pss_cons (ps_set (i := 5) scStp.nd rfl (Or.inl rfl) (pe_call FR r2 rfl mR kR bR .nil pass0 (pa_cons (pv 0) (pa_cons (pe_ifExp (pt_cmpR op_gt (pv 3) pe_int (nomark _)) pe_int pe_int) pa_nil))))
      (pss_cons (ps_par (i := 6) (j := 7) (by rfl) scStp.nd rfl rfl (by decide) rfl rfl (pa_cons (pe_ix ix_list (pv 2) (pe_call FR r2 rfl mR kR bR .nil pass0 (pa_cons (pv 0) (pa_cons (pe_callB call_len_seq (by rfl) mL PySem.boot_len (pa_cons (pv 2) pa_nil)) pa_nil))) (fun _ _ => rfl))
          (pa_cons (pe_ix ix_list (pv 1) (pe_call FR r2 rfl mR kR bR .nil pass0 (pa_cons (pv 0) (pa_cons (pe_callB call_len_seq (by rfl) mL PySem.boot_len (pa_cons (pv 1) pa_nil)) pa_nil))) (fun _ _ => rfl)) pa_nil)) (by rfl))
      (pss_cons (ps_if (pt_cmpR op_lt (pv 5) pe_int (nomark _)) (pss_one (ps_ret (pe_tup (pa_cons pe_str (pa_cons (pv 6) pa_nil))))) pss_nil)
      (pss_cons (ps_if (PW.pt (pw_or (pt_cmpR op_lt (pv 5) pe_int (nomark _)) (pw_or1 (PW.pt (pw_and (pt_cmpR op_eq (pv 5) pe_int (nomark _)) (pw_and1 (pt_val (pv 4)))))))) (pss_one (ps_ret (pe_tup (pa_cons pe_str (pa_cons (pv 7) pa_nil))))) pss_nil)
      (pss_cons (ps_if (pt_cmpR op_eq (pv 5) pe_int (nomark _)) (pss_one (ps_ret (pe_ix ix_list (pe_lst (pa_cons (pe_tup (pa_cons pe_str (pa_cons (pv 6) pa_nil))) (pa_cons (pe_tup (pa_cons pe_str pa_nil)) pa_nil))) (pe_call FR r2 rfl mR kR bR .nil pass0 (pa_cons (pv 0) (pa_cons pe_int pa_nil))) (fun _ _ => rfl)))) pss_nil)
      (pss_cons (ps_if (pt_cmpR op_eq (pv 5) pe_int (nomark _)) (pss_cons (ps_setLc (i := 8) (own := [("turn", 10)]) (g := gName 10) rfl scStp.nd rfl rfl (sw_true rfl rfl rfl (by decide +kernel)) (pi_range1 (by rfl) mG (pa_cons pe_int pa_nil))
            (blkOk_by (own := [("turn", 10)]) (N := ["generator", "rights", "names", "deep", "marked", "kind", "name", "right", "parts", "mark", "turn"]) (sc := defScope sStp) (by decide +kernel))
            (fun _ _ _ _ _ => pg_name (i := 10) scStp.nd rfl (Or.inl rfl)) (fun _ _ _ _ _ => pts_nil) (fun _ _ _ _ _ => pe_call FB hr rfl mB kB' bB .nil pass0 (pa_cons (pv 0) (pa_cons (pv 1) (pa_cons (pv 2) (pa_cons (pe_op op_sub (pv 3) pe_int) (pa_cons (pv 4) (pa_cons pe_int pa_nil))))))))
          (pss_one (ps_ret (pe_tup (pa_cons pe_str (pa_cons (pe_ix ix_list (pv 8) pe_int (fun _ _ => rfl)) (pa_cons (pe_ix ix_list (pv 8) pe_int (fun _ _ => rfl)) pa_nil))))))) pss_nil)
      (pss_cons (ps_if (pt_cmpR op_eq (pv 5) pe_int (nomark _)) (pss_one (ps_ret (pe_tup (pa_cons pe_str (pa_cons (pe_call FB hr rfl mB kB' bB .nil pass0 (pa_cons (pv 0) (pa_cons (pv 1) (pa_cons (pv 2) (pa_cons (pe_op op_sub (pv 3) pe_int) (pa_cons (pv 4) (pa_cons pe_int pa_nil))))))) pa_nil))))) pss_nil)
      (pss_cons (ps_set (i := 9) scStp.nd rfl (Or.inl rfl) (pe_cmpR op_gt (pe_call FR r2 rfl mR kR bR .nil pass0 (pa_cons (pv 0) (pa_cons pe_int pa_nil))) pe_int (nomark _)))
      (pss_one (ps_ret (pe_tup (pa_cons pe_str (pa_cons (pv 9) (pa_cons (pe_call FB hr rfl mB kB' bB .nil pass0 (pa_cons (pv 0) (pa_cons (pv 1) (pa_cons (pv 2) (pa_cons (pe_op op_sub (pv 3) pe_int) (pa_cons (pe_or (pv 4) (pe_one (pv 9))) (pa_cons pe_int pa_nil))))))) pa_nil))))))))))))), ?_⟩
    have e40 : (2 : Nat) ^ 40 = 1099511627776 := by decide
    have e50 : (2 : Nat) ^ 50 = 1125899906842624 := by decide
    have e59 : (2 : Int) ^ 59 = 576460752303423488 := by decide
    have k0 := KS.start e hg n0
    have rl := List.length_pos_iff.mpr rn.r1
    have nl := List.length_pos_iff.mpr rn.n1
    refine ⟨_, rfl, _, rfl, _, _, rfl, rfl, _, rfl, ite_c fun m h1 h2 => ?_⟩
    obtain ⟨m, rfl, hm⟩ : ∃ i : Int, m = .int i ∧ ((0 < d ∧ i = 11) ∨ (d = 0 ∧ i = 7)) := by
      by_cases z : (0 : Int) < j
      · exact ⟨11, h1 (decide_eq_true z), .inl ⟨by omega, rfl⟩⟩
      · exact ⟨7, h2 (by rw [decide_eq_true_eq]; exact z), .inr ⟨by omega, rfl⟩⟩
    refine rnd_k k0 (by omega) (by omega) fun kd H1 hkd s1 k1 => ?_
    have gpr := hpr
    -- the name
    refine ⟨_, rfl, _, rfl, _, rfl, pn, _, rfl, .inl (SqL.of (k1.x.gh _ _ hpn)), rnd_k k1 (by omega) (by rw [List.length_map]; have := rn.n2; omega) fun rN H2 hrN s2 k2 => ?_⟩
    rw [List.length_map] at hrN
    obtain ⟨iN, hiN, rfl⟩ : ∃ i : Nat, i < ns.length ∧ rN = (i : Int) := ⟨rN.toNat, by omega, by omega⟩
    obtain ⟨nm, hnm⟩ : ∃ nm, ns[iN]? = some nm := ⟨_, List.getElem?_eq_getElem hiN⟩
    have mN : nm ∈ ns := List.mem_of_getElem? hnm
    refine ⟨pn, _, _, .str nm, rfl, rfl, SqL.of (k2.x.gh _ _ hpn), atI_nat (by rw [List.getElem?_map, hnm]; rfl), ?_⟩
    -- the right
    refine ⟨_, rfl, _, rfl, _, rfl, pr, _, rfl, .inl (SqL.of (k2.x.gh _ _ hpr)), rnd_k k2 (by omega) (by rw [List.length_map]; have := rn.r2; omega) fun rR H3 hrR s3 k3 => ?_⟩
    rw [List.length_map] at hrR
    obtain ⟨iR, hiR, rfl⟩ : ∃ i : Nat, i < rs.length ∧ rR = (i : Int) := ⟨rR.toNat, by omega, by omega⟩
    obtain ⟨rt, hrt⟩ : ∃ rt, rs[iR]? = some rt := ⟨_, List.getElem?_eq_getElem hiR⟩
    have mR' : rt ∈ rs := List.mem_of_getElem? hrt
    refine ⟨pr, _, _, .str rt, rfl, rfl, SqL.of (k3.x.gh _ _ hpr), atI_nat (by rw [List.getElem?_map, hrt]; rfl), _, _, rfl, ?_⟩
    have ks8 : 8 ≤ kS d := by cases d <;> simp only [kS] <;> omega
    have c1 : 1 ≤ cS d := by cases d <;> simp only [cS] <;> omega
    have two : ∀ {p : Addr} {G7 H7 : Hp} {n7 : Nat} {a : Str} {b : V} {s : Stp} {ds : PyData}, KS g G H G7 H7 n7 → n7 ≤ n + kS d → H7 p = none → Dq K G7 b ds → stpD s = .tuple [.str a, ds] → okS rs ns mk s = true → nstS s ≤ d → cntS s ≤ cS d → Q (.ref p) (upd H7 p (.tup [.str a, b])) :=
      fun k7 hn7 np hb hs ok hd hc => q _ _ _ _ ((k7.new np).le hn7) (by
        rw [hs]
        exact .tup (.inl (.inl upd_same)) (.cons (.str _) (.cons (hb.mono (same_ex (Ex.new (k7.gnone np)))) .nil))) ok hd hc
    refine ⟨_, rfl, _, _, rfl, rfl, _, rfl, ite2 (fun h3 => ?_) (fun h3 => ?_)⟩
    · refine ⟨_, rfl, by show 2 ≤ sizeLine; decide, fun p np => ?_⟩
      exact two (s := .call nm) k3 (by omega) np (.str nm) rfl (by simp only [okS, decide_eq_true_eq]; exact mN) (Nat.zero_le _) c1
    have g3 : ¬ kd < 3 := fun z => h3 (decide_eq_true z)
    refine ⟨_, rfl, _, _, rfl, rfl, _, rfl, or_and (c2 := decide (kd = 6)) rfl (fun Q' q' => ⟨_, rfl, rfl, _, rfl, ?_⟩) fun b hb => ite2 (fun hbt => ?_) (fun hbf => ?_)⟩
    · simp only [V.int.injEq]
      exact q'
    · refine ⟨_, rfl, by show 2 ≤ sizeLine; decide, fun p np => ?_⟩
      exact two (s := .check rt) k3 (by omega) np (.str rt) rfl (by simp only [okS, decide_eq_true_eq]; exact mR') (Nat.zero_le _) c1
    have nb := fun z => hbf (hb.mpr z)
    have g6 : ¬ kd < 6 := fun z => nb (.inl (decide_eq_true z))
    have gm : kd = 6 → mk = false := fun z => by
      cases mk
      · rfl
      · exact (nb (.inr ⟨decide_eq_true z, rfl⟩)).elim
    refine ⟨_, rfl, rfl, _, rfl, ite2 (fun h6 => ?_) (fun h6 => ?_)⟩
    · have h6 : kd = 6 := by simpa only [V.int.injEq, decide_eq_true_eq] using h6
      have hmk := gm h6
      refine ⟨_, rfl, by show 2 ≤ sizeLine; decide, fun p np => ⟨by show 1 ≤ sizeLine; decide, fun p2 np2 => ⟨by show 2 ≤ sizeLine; decide, fun pl npl => ⟨_, rfl, ?_⟩⟩⟩⟩
      have k4 := (k3.new (o := .tup [V.str "tail", V.str nm]) np).new (o := .tup [V.str "back"]) np2
      have k5 := k4.new (o := .lst [V.ref p, V.ref p2]) npl
      refine rnd_k k5 (by omega) (by decide) fun rT H4 hrT s4 k6 => ?_
      have gp : (upd (upd (upd G p (.tup [V.str "tail", V.str nm])) p2 (.tup [V.str "back"])) pl (.lst [V.ref p, V.ref p2])) p = some (.tup [V.str "tail", V.str nm]) := by
        rw [upd_ne (ne_of_none (by rw [upd_ne (ne_of_none upd_same np2)]; exact upd_same) npl), upd_ne (ne_of_none upd_same np2)]
        exact upd_same
      have gp2 : (upd (upd (upd G p (.tup [V.str "tail", V.str nm])) p2 (.tup [V.str "back"])) pl (.lst [V.ref p, V.ref p2])) p2 = some (.tup [V.str "back"]) := by
        rw [upd_ne (ne_of_none upd_same npl)]
        exact upd_same
      have hl : H4 pl = some (.lst [V.ref p, V.ref p2]) := k6.x.gh _ _ upd_same
      have hz : rT = 0 ∨ rT = 1 := by omega
      rcases hz with rfl | rfl
      · refine ⟨pl, _, _, V.ref p, rfl, rfl, SqL.of hl, rfl, ?_⟩
        exact q _ _ _ (.tail nm) (k6.le (by omega)) (.tup (.inl (.inl gp)) (.cons (.str _) (.cons (.str nm) .nil))) (by simp only [okS, hmk, Bool.and_eq_true, decide_eq_true_eq]; exact ⟨mN, rfl⟩) (Nat.zero_le _) c1
      · refine ⟨pl, _, _, V.ref p2, rfl, rfl, SqL.of hl, rfl, ?_⟩
        exact q _ _ _ .back (k6.le (by omega)) (.tup (.inl (.inl gp2)) (.cons (.str _) .nil)) (by simp only [okS]) (Nat.zero_le _) c1
    have g7 : 7 ≤ kd := by
      have : ¬ kd = 6 := fun z => h6 (by simp only [V.int.injEq, decide_eq_true_eq]; exact z)
      omega
    obtain ⟨d', rfl⟩ : ∃ d', d = d' + 1 := ⟨d - 1, by omega⟩
    have hj' : j - 1 = (d' : Int) := by omega
    have hkS : kS (d' + 1) = 8 + 2 * (2 + 2 * kS d') := rfl
    have hkB : kB d' 2 = 2 + 2 * kS d' := rfl
    have hcS : cS (d' + 1) = 1 + 4 * cS d' := rfl
    have tick : ∀ {i : Nat}, i ≤ 2 → i * kB d' 2 ≤ 2 * kB d' 2 := fun h => Nat.mul_le_mul_right _ h
    have ks : kS d' ≤ 44 := by
      have : d' = 0 ∨ d' = 1 := by omega
      rcases this with rfl | rfl <;> decide
    refine ⟨_, rfl, rfl, _, rfl, ite2 (fun h7 => ?_) (fun h7 => ?_)⟩
    · refine ⟨_, rfl, by decide, by decide, fun D nD => ?_⟩
      have Dg : D ≠ g := k3.ne nD
      refine lc_range (lo := 0) (n := 2) (fun i H' => ∃ (G' : Hp) (vs : List V) (bs : List (List Stp)), KS g G H G' H' (n + 6 + i * kB d' 2) ∧ H' D = some (.lst vs) ∧ G' D = none ∧ vs.length = i ∧ DqA K G' vs (bs.map fun b => .list (bodyD b)) ∧
          ∀ b ∈ bs, okB rs ns mk b = true ∧ nstB b ≤ d' ∧ cntB b ≤ 2 * cS d') ?_ ?_ ?_
      · exact ⟨G, [], [], (k3.own nD).le (by omega), upd_same, k3.gnone nD, rfl, .nil, fun b h => by cases h⟩
      · rintro i H' hi ⟨G', vs, bs, k4, hD, gD, hl, hd, hok⟩
        have := tick (Nat.le_of_lt hi)
        refine ⟨rfl, _, rfl, _, rfl, _, rfl, _, rfl, _, _, rfl, rfl, _, rfl, bod_k (most := 2) k4 (by omega) hj' (by omega) (by decide) (k4.x.gg _ _ hpr) (k4.x.gg _ _ hpn) rn fun p G5 H5 b k5 x5 hb ok5 nd5 len5 cnt5 => ?_⟩
        have gD5 : G5 D = none := (x5.ag _ _ hD).trans gD
        refine ⟨vs, x5.hh _ _ Dg hD, by rw [hl]; have e3z : (3 : Nat) < sizeLine := by decide
                                        omega, G5, vs ++ [.ref p], bs ++ [b], ?_, upd_same, gD5, by rw [List.length_append, hl]; rfl, ?_, ?_⟩
        · have : (i + 1) * kB d' 2 = i * kB d' 2 + kB d' 2 := Nat.succ_mul ..
          exact (k5.put (k3.hnone nD) gD5 Dg).le (by omega)
        · rw [List.map_append]
          exact dqa_app (hd.mono (same_ex x5.gg)) hb
        · intro c hc
          rcases List.mem_append.mp hc with hc | hc
          · exact hok c hc
          · rw [List.mem_singleton.mp hc]
            exact ⟨ok5, nd5, cnt5⟩
      · rintro H' ⟨G', vs, bs, k4, hD, gD, hl, hd, hok⟩
        obtain ⟨v1, v2, rfl⟩ : ∃ v1 v2, vs = [v1, v2] := by
          match vs, hl with
          | [v1, v2], _ => exact ⟨v1, v2, rfl⟩
        have hlb := dqa_len hd
        rw [List.length_map] at hlb
        obtain ⟨b1, b2, rfl⟩ : ∃ b1 b2, bs = [b1, b2] := by
          match bs, hlb with
          | [b1, b2], _ => exact ⟨b1, b2, rfl⟩
        obtain ⟨o1, n1, q1⟩ := hok b1 (List.mem_cons_self ..)
        obtain ⟨o2, n2, q2⟩ := hok b2 (List.mem_cons_of_mem _ (List.mem_cons_self ..))
        refine ⟨_, rfl, D, _, _, v1, rfl, rfl, SqL.of hD, rfl, _, rfl, D, _, _, v2, rfl, rfl, SqL.of hD, rfl, by show 3 ≤ sizeLine; decide, fun p np => ?_⟩
        cases hd with
        | cons d1 hd =>
          cases hd with
          | cons d2 hd =>
            refine q _ _ _ (.either b1 b2) ((k4.new np).le (by omega)) (.tup (.inl (.inl upd_same)) (.cons (.str _) (.cons (d1.mono (same_ex (Ex.new (k4.gnone np)))) (.cons (d2.mono (same_ex (Ex.new (k4.gnone np)))) .nil)))) ?_ ?_ ?_
            · simp only [okS, o1, o2, Bool.and_self]
            · simp only [nstS]
              omega
            · simp only [cntS]
              omega
    refine ⟨_, rfl, rfl, _, rfl, ite2 (fun h8 => ?_) (fun h8 => ?_)⟩
    · refine ⟨_, rfl, _, rfl, _, rfl, _, rfl, _, _, rfl, rfl, _, rfl, bod_k (most := 2) k3 (by omega) hj' (by omega) (by decide) hpr hpn rn fun p G5 H5 b k5 x5 hb ok5 nd5 len5 cnt5 => ⟨by show 2 ≤ sizeLine; decide, fun p np => ?_⟩⟩
      exact two (s := .loop b) k5 (by omega) np hb rfl (by simp only [okS]; exact ok5) (by simp only [nstS]; omega) (by simp only [cntS]; omega)
    refine ⟨_, rfl, rnd_k k3 (by omega) (by decide) fun rM H4 hrM s4 k4 => ⟨_, _, rfl, rfl, ?_⟩⟩
    refine ⟨_, rfl, _, rfl, _, rfl, _, rfl, _, rfl, _, _, rfl, rfl, _, rfl, mk, rfl, or_v (mb := decide ((0 : Int) < rM)) rfl ?_⟩
    refine bod_k (most := 2) k4 (by omega) hj' (by omega) (by decide) hpr hpn rn fun p G5 H5 b k5 x5 hb ok5 nd5 len5 cnt5 => ⟨by show 3 ≤ sizeLine; decide, fun p np => ?_⟩
    refine q _ _ _ (.block (decide ((0 : Int) < rM)) b) ((k5.new np).le (by omega)) (.tup (.inl (.inl upd_same)) (.cons (.str _) (.cons (.bl _) (.cons (hb.mono (same_ex (Ex.new (k5.gnone np)))) .nil)))) ?_ ?_ ?_
    · simp only [okS]
      exact ok5
    · simp only [nstS]
      omega
    · simp only [cntS]
      omega
theorem ok_bod {d : Nat} {fR fS : Addr} {fdR fdS : FuncData} (F : Fun K "_law_body_drawn" "_law_body_drawn" sBod f fd) (FR : FnOk P w K mg base CX0 2 fR fdR ["generator", "bound"] spRnd) (mR : mg "_law_random" = some (.ref fR)) (kR : PySem.W.keepIn K (.ref fR) = true) (bR : Binds K fdR ["generator", "bound"] [])
    (FS : FnOk P w K mg base CX0 (2 * d + 3) fS fdS ["generator", "rights", "names", "deep", "marked"] (spStp K d)) (mS : mg "_law_step_drawn" = some (.ref fS)) (kS' : PySem.W.keepIn K (.ref fS) = true) (bS : Binds K fdS ["generator", "rights", "names", "deep", "marked"] [])
    (mG : mg "range" = none) :
    FnOk P w K mg base CX0 (2 * d + 4) f fd ["generator", "rights", "names", "deep", "marked", "most"] (spBod K d) := by
  refine F.ok scBod (fun vs H Q E h => ?_) (fun cdv A outer s H vs Q E hr h => ?_)
  · skip
    obtain ⟨_, _, _, _, _, _, _, _, _, _, rfl, _⟩ := h
    rfl
  · skip
    obtain ⟨g, pr, pn, n, G, rs, ns, j, mk, most, rfl, hj, hd2, hm, hg, hn, e, n0, hpr, hpn, rn, q⟩ := h
    have r2 := hr.mono (j := 2) (by omega)
    refine ⟨_, pss_cons (ps_set (i := 6) scBod.nd rfl (Or.inl rfl) (pe_lst pa_nil))
      (pss_cons (ps_for PassesOwn.never rfl (pi_range1 (by rfl) mG (pa_cons (pe_call FR r2 rfl mR kR bR .nil pass0 (pa_cons (pv 0) (pa_cons (pe_op op_add (pv 5) pe_int) pa_nil))) pa_nil)) (pg_name (i := 7) scBod.nd rfl (Or.inl rfl))
        (pss_one (ps_expr (pe_bm PySem.F.plainAttrs_list PySem.F.slot_list_append PySem.F.type_list_append mt_append (pv 6) (pa_cons (pe_call FS hr rfl mS kS' bS .nil pass0 (pa_cons (pv 0) (pa_cons (pv 1) (pa_cons (pv 2) (pa_cons (pv 3) (pa_cons (pv 4) pa_nil)))))) pa_nil)))))
      (pss_one (ps_ret (pv 6)))), ?_⟩
    have e40 : (2 : Nat) ^ 40 = 1099511627776 := by decide
    have e50 : (2 : Nat) ^ 50 = 1125899906842624 := by decide
    have e59 : (2 : Int) ^ 59 = 576460752303423488 := by decide
    have ks : kS d ≤ 188 := by
      have : d = 0 ∨ d = 1 ∨ d = 2 := by omega
      rcases this with rfl | rfl | rfl <;> decide
    have k0 := KS.start e hg n0
    refine ⟨by show 0 ≤ sizeLine; decide, fun D nD => ?_⟩
    have k1 := k0.own (o := .lst []) nD
    have Dg : D ≠ g := k0.ne nD
    refine ⟨_, rfl, _, rfl, _, _, rfl, rfl, rnd_k k1 (by omega) (by omega) fun rM H1 hrM s1 k2 => ⟨_, rfl, by omega, by omega, ?_⟩⟩
    have tick : ∀ {i : Nat}, i ≤ most → i * kS d ≤ most * kS d := fun h => Nat.mul_le_mul_right _ h
    have tick4 : most * kS d ≤ 4 * kS d := Nat.mul_le_mul_right _ hm
    have tickc : ∀ {i : Nat}, i ≤ most → i * cS d ≤ most * cS d := fun h => Nat.mul_le_mul_right _ h
    refine for_range (lo := 0) (n := rM.toNat) (fun i σ H' => ∃ (a : Option V) (G' : Hp) (vs : List V) (b : List Stp), σ = [some (.ref g), some (.ref pr), some (.ref pn), some (.int j), some (.bl mk), some (.int most), some (.ref D), a] ∧
      KS g G H G' H' (n + 2 + i * kS d) ∧ H' D = some (.lst vs) ∧ G' D = none ∧ vs.length = i ∧ DqA K G' vs (bodyD b) ∧ okB rs ns mk b = true ∧ nstB b ≤ d ∧ cntB b ≤ i * cS d) ?_ ?_ ?_
    · refine ⟨none, G, [], [], rfl, k2.le (by omega), ?_, k0.gnone nD, rfl, by simp only [bodyD]; exact .nil, by simp only [okB], by simp only [nstB]; omega, by simp only [cntB]; omega⟩
      rw [s1 _ Dg]
      exact upd_same
    · rintro i σ H' hi ⟨a, G', vs, b, rfl, k, hD, gD, hl, hd, ok, nd, cn⟩
      have := tick (i := i) (by omega)
      have es : (i + 1) * kS d = i * kS d + kS d := Nat.succ_mul ..
      have ec : (i + 1) * cS d = i * cS d + cS d := Nat.succ_mul ..
      refine ⟨_, rfl, .inl ⟨rfl, _, SqL.of hD⟩, _, rfl, _, rfl, _, rfl, _, rfl, _, rfl, ?_⟩
      refine stp_k k (by omega) hj hd2 (k.x.gg _ _ hpr) (k.x.gg _ _ hpn) rn fun x G2 H2 s k2 x2 hx ok2 nd2 cn2 => ?_
      have gD2 : G2 D = none := (x2.ag _ _ hD).trans gD
      have e3z : (5 : Nat) < sizeLine := by decide
      refine ⟨D, vs, x, rfl, rfl, x2.hh _ _ Dg hD, by omega, _, G2, vs ++ [x], b ++ [s], rfl, (k2.put nD gD2 Dg).le (by omega), upd_same, gD2, by rw [List.length_append, hl]; rfl, ?_, ?_, ?_, ?_⟩
      · rw [bodyD_map, List.map_append, ← bodyD_map]
        exact dqa_app (hd.mono (same_ex x2.gg)) hx
      · exact okB_app ok (by simp only [okB, ok2, Bool.and_self])
      · rw [nstB_app]
        simp only [nstB]
        omega
      · rw [cntB_app]
        simp only [cntB]
        omega
    · rintro σ H' ⟨a, G', vs, b, rfl, k, hD, gD, hl, hd, ok, nd, cn⟩
      have := tick (i := rM.toNat) (by omega)
      have := tickc (i := rM.toNat) (by omega)
      have hlb := dqa_len hd
      rw [bodyD_map, List.length_map] at hlb
      refine ⟨_, rfl, q D _ _ b ((k.freeze nD gD Dg hD).le ?_) (.lst upd_same (hd.mono (same_ex (Ex.new gD)))) ok nd (by omega) (by omega)⟩
      simp only [kB]
      omega
end
end Lx

set_option Elab.async false
set_option maxRecDepth 100000
set_option linter.all false
set_option maxHeartbeats 4000000
/-! KitN: what a call lays anew, apart from all that was there; isinstance(x, list) of data; the parts of steps. -/
namespace Kx
open PySem PySem.Spec PyProof.Rows L2 Evl
def join (A B : Hp) : Hp := fun a => match A a with
  | some o => some o
  | none => B a
theorem join_l {A B : Hp} : Ex A (join A B) := fun a o h => by unfold join; rw [h]
theorem join_r {A B : Hp} {a : Addr} {o : HO} (h : B a = some o) (n : A a = none) : join A B a = some o := by unfold join; rw [n]; exact h
theorem join_inv {A B : Hp} {a : Addr} {o : HO} (h : join A B a = some o) : A a = some o ∨ (A a = none ∧ B a = some o) := by
  unfold join at h
  cases e : A a with
  | none => rw [e] at h; exact .inr ⟨rfl, h⟩
  | some u => rw [e] at h; exact .inl h
theorem join_none {A B : Hp} {a : Addr} (h : A a = none) (h' : B a = none) : join A B a = none := by unfold join; rw [h]; exact h'
/-- from H to H2 nothing was written; M is new -/
structure New (H H2 M : Hp) : Prop where
  hh : Ex H H2
  mh : Ex M H2
  fr : ∀ a o, H a = some o → M a = none
def emp : Hp := fun _ => none
section
variable {H H1 H2 M M1 M2 G : Hp} {p : Addr} {o : HO}
theorem New.refl : New H H emp := ⟨Ex.refl H, fun a o h => (nomatch h), fun _ _ _ => rfl⟩
theorem New.dis (b : New H1 H2 M2) (h : Ex M1 H1) {a : Addr} {o : HO} (e : M1 a = some o) : M2 a = none := b.fr a o (h a o e)
theorem New.trans (a : New H H1 M1) (b : New H1 H2 M2) : New H H2 (join M1 M2) :=
  ⟨a.hh.trans b.hh, fun x o h => by
    rcases join_inv h with h | ⟨_, h⟩
    · exact b.hh x o (a.mh x o h)
    · exact b.mh x o h, fun x o h => join_none (a.fr x o h) (b.fr x o (a.hh x o h))⟩
theorem New.right (a : New H H1 M1) (b : New H1 H2 M2) : Ex M2 (join M1 M2) := fun x o h => by
  refine join_r h ?_
  cases e : M1 x with
  | none => rfl
  | some u => rw [b.fr x u (a.mh x u e)] at h; cases h
theorem New.none (a : New H H2 M) (h : H2 p = .none) : M p = .none := by
  cases e : M p with
  | none => rfl
  | some u => rw [a.mh p u e] at h; cases h
theorem New.put (a : New H H2 M) (h : H2 p = .none) : New H (upd H2 p o) (upd M p o) :=
  ⟨a.hh.trans (Ex.new h), fun x u e => by
    by_cases z : x = p
    · rw [z, upd_same] at e ⊢
      exact e
    · rw [upd_ne z] at e ⊢
      exact a.mh x u e, fun x u e => by
    rw [upd_ne (ne_of_none (a.hh x u e) h)]
    exact a.fr x u e⟩
/-- a thing that is laid and forgotten -/
theorem New.own (a : New H H2 M) (h : H2 p = .none) : New H (upd H2 p o) M := ⟨a.hh.trans (Ex.new h), a.mh.trans (Ex.new h), a.fr⟩
theorem New.more (a : New H H2 M) (e : Ex H2 H1) : New H H1 M := ⟨a.hh.trans e, a.mh.trans e, a.fr⟩
theorem New.hnone (a : New H H2 M) (h : H2 p = .none) : H p = .none := fresh_back a.hh h
/-- our own object is written -/
theorem New.wr (a : New H H2 M) (h : H p = .none) (n : M p = .none) : New H (upd H2 p o) M :=
  ⟨fun x u e => by rw [upd_ne (ne_of_none e h)]; exact a.hh x u e, fun x u e => by rw [upd_ne (ne_of_none e n)]; exact a.mh x u e, a.fr⟩
/-- our own object belongs to what is new -/
theorem New.frz (a : New H H2 M) (h : H p = .none) (e : H2 p = some o) : New H H2 (upd M p o) :=
  ⟨a.hh, fun x u q => by
    by_cases z : x = p
    · rw [z, upd_same] at q
      rw [z, e]
      exact q
    · rw [upd_ne z] at q
      exact a.mh x u q, fun x u q => by
    rw [upd_ne (ne_of_none q h)]
    exact a.fr x u q⟩
theorem New.ext (a : New H H2 M) (e : Ex G H) : Ext G H (join G M) H2 :=
  ⟨a.hh, join_l, fun x o h => by
    rcases join_inv h with h | ⟨_, h⟩
    · exact a.hh x o (e x o h)
    · exact a.mh x o h, fun x o h => by
    unfold join
    rw [a.fr x o h]
    cases G x <;> rfl⟩
theorem New.exr (a : New H H2 M) (e : Ex G H) : Ex M (join G M) := fun x o h => by
  refine join_r h ?_
  cases q : G x with
  | none => rfl
  | some u => rw [a.fr x u (e x u q)] at h; cases h
end
/-! ### kinds of data -/
def tyN : PyData → String
  | .none => "NoneType"
  | .bool _ => "bool"
  | .int _ => "int"
  | .str _ => "str"
  | .list _ => "list"
  | .tuple _ => "tuple"
  | .dict _ => "dict"
theorem sqt_tyx {K : PySem.W.Frag} {H : Hp} {a : Addr} {xs : List V} (h : SqT K H a xs) : TyX K H (.ref a) (.type "tuple") := by
  rcases h with (h | ⟨o, h⟩) | ⟨o, _, _, hk, hc, _⟩
  · exact .base (.tup h)
  · exact .fTuple h
  · exact .kTuple hk hc
theorem dq_tyx {K : PySem.W.Frag} {H : Hp} {v : V} {d : PyData} (h : Dq K H v d) : TyX K H v (.type (tyN d)) := by
  cases h with
  | non => exact .base .non
  | bl b => exact .base (.bl b)
  | int i => exact .base (.int i)
  | str x => exact .base (.str x)
  | lst h _ => exact .base (.lst h)
  | tup h _ => exact sqt_tyx h
  | dic h _ => exact .base (.dK h)
def isLst : PyData → Bool
  | .list _ => true
  | _ => false
theorem isi_l {K : PySem.W.Frag} {H : Hp} {v : V} {d : PyData} {Q : VK} (h : Dq K H v d) (q : Q (.bl (isLst d)) H) : rIsiS K [v, .ty "list"] H Q :=
  ⟨v, _, _, _, _, rfl, .ty _, dq_tyx h, kit_ty (by cases h <;> rfl), q⟩
end Kx
namespace Kx
open PySem PySem.Spec PyProof.Rows L2 Evl
/-! ### the parts of a step -/
def partsP : Stp → List (PyData × Option (List Stp))
  | .call n => [(.str "call", none), (.str n, none)]
  | .tail n => [(.str "tail", none), (.str n, none)]
  | .check r => [(.str "check", none), (.str r, none)]
  | .back => [(.str "back", none)]
  | .either a b => [(.str "either", none), (.list (bodyD a), some a), (.list (bodyD b), some b)]
  | .loop b => [(.str "loop", none), (.list (bodyD b), some b)]
  | .block m b => [(.str "block", none), (.bool m, none), (.list (bodyD b), some b)]
theorem stpD_parts (s : Stp) : stpD s = .tuple ((partsP s).map (·.1)) := by cases s <;> simp only [stpD, partsP, List.map]
theorem parts_ok {s : Stp} {d : PyData} {o : Option (List Stp)} (h : (d, o) ∈ partsP s) : (isLst d = false ∧ o = none) ∨ ∃ b, d = .list (bodyD b) ∧ o = some b ∧ nstB b + 1 ≤ nstS s ∧ cntB b ≤ cntS s := by
  cases s <;> simp only [partsP, List.mem_cons, List.not_mem_nil, or_false, Prod.mk.injEq] at h
  case call => rcases h with ⟨rfl, rfl⟩ | ⟨rfl, rfl⟩ <;> exact .inl ⟨rfl, rfl⟩
  case tail => rcases h with ⟨rfl, rfl⟩ | ⟨rfl, rfl⟩ <;> exact .inl ⟨rfl, rfl⟩
  case check => rcases h with ⟨rfl, rfl⟩ | ⟨rfl, rfl⟩ <;> exact .inl ⟨rfl, rfl⟩
  case back => rcases h with ⟨rfl, rfl⟩; exact .inl ⟨rfl, rfl⟩
  case either =>
    rcases h with ⟨rfl, rfl⟩ | ⟨rfl, rfl⟩ | ⟨rfl, rfl⟩
    · exact .inl ⟨rfl, rfl⟩
    · exact .inr ⟨_, rfl, rfl, by simp only [nstS]; omega, by simp only [cntS]; omega⟩
    · exact .inr ⟨_, rfl, rfl, by simp only [nstS]; omega, by simp only [cntS]; omega⟩
  case loop =>
    rcases h with ⟨rfl, rfl⟩ | ⟨rfl, rfl⟩
    · exact .inl ⟨rfl, rfl⟩
    · exact .inr ⟨_, rfl, rfl, by simp only [nstS]; omega, by simp only [cntS]; omega⟩
  case block =>
    rcases h with ⟨rfl, rfl⟩ | ⟨rfl, rfl⟩ | ⟨rfl, rfl⟩
    · exact .inl ⟨rfl, rfl⟩
    · exact .inl ⟨rfl, rfl⟩
    · exact .inr ⟨_, rfl, rfl, by simp only [nstS]; omega, by simp only [cntS]; omega⟩
theorem cnt_parts (s : Stp) : cntS s = 1 + (((partsP s).filterMap (·.2)).map cntB).sum := by
  cases s <;> simp [partsP, cntS] <;> omega
theorem nst_mem {s : Stp} : ∀ {b : List Stp}, s ∈ b → nstS s ≤ nstB b
  | t :: r, h => by
    simp only [nstB]
    rcases List.mem_cons.mp h with rfl | h
    · omega
    · have := nst_mem h
      omega
theorem cnt_mem {s : Stp} : ∀ {b : List Stp}, s ∈ b → cntS s ≤ cntB b
  | t :: r, h => by
    simp only [cntB]
    rcases List.mem_cons.mp h with rfl | h
    · omega
    · have := cnt_mem h
      omega
theorem dqa_get {K : PySem.W.Frag} {H : Hp} : ∀ {vs : List V} {ds : List PyData} {i : Nat} {v : V}, DqA K H vs ds → vs[i]? = some v → ∃ d, ds[i]? = some d ∧ Dq K H v d
  | _, _, 0, _, .cons a _, h => ⟨_, rfl, by simp only [List.getElem?_cons_zero] at h; rw [← Option.some.inj h]; exact a⟩
  | _, _, i + 1, _, .cons _ b, h => by
    simp only [List.getElem?_cons_succ] at h ⊢
    exact dqa_get b h
theorem cntB_take {b : List Stp} {i : Nat} {s : Stp} (h : b[i]? = some s) : cntB (b.take (i + 1)) = cntB (b.take i) + cntS s := by
  rw [List.take_succ, h, cntB_app]
  simp only [Option.toList, cntB, Nat.add_zero]
theorem body_get {K : PySem.W.Frag} {H : Hp} {xs : List V} {b : List Stp} {i : Nat} {v : V} (h : DqA K H xs (bodyD b)) (hi : xs[i]? = some v) : ∃ s, b[i]? = some s ∧ Dq K H v (stpD s) := by
  obtain ⟨d, h1, h2⟩ := dqa_get h hi
  rw [bodyD_map, List.getElem?_map] at h1
  cases e : b[i]? with
  | none => rw [e] at h1; cases h1
  | some s => rw [e] at h1; exact ⟨s, rfl, by rw [← Option.some.inj h1] at h2; exact h2⟩
theorem step_at {K : PySem.W.Frag} {H : Hp} {v : V} {s : Stp} (h : Dq K H v (stpD s)) : ∃ a ys, v = .ref a ∧ SqT K H a ys ∧ DqA K H ys ((partsP s).map (·.1)) := by
  rw [stpD_parts] at h
  cases h with
  | tup h1 h2 => exact ⟨_, _, rfl, h1, h2⟩
theorem part_get {K : PySem.W.Frag} {H : Hp} {ys : List V} {s : Stp} {j : Nat} {v : V} (h : DqA K H ys ((partsP s).map (·.1))) (hj : ys[j]? = some v) : ∃ pr, (partsP s)[j]? = some pr ∧ Dq K H v pr.1 := by
  obtain ⟨d, h1, h2⟩ := dqa_get h hj
  rw [List.getElem?_map] at h1
  cases e : (partsP s)[j]? with
  | none => rw [e] at h1; cases h1
  | some s => rw [e] at h1; exact ⟨s, rfl, by rw [← Option.some.inj h1] at h2; exact h2⟩
def flatD : PyData → Bool
  | .none => true
  | .bool _ => true
  | .int _ => true
  | .str _ => true
  | _ => false
theorem parts_flat {s : Stp} {pr : PyData × Option (List Stp)} (h : pr ∈ partsP s) (n : isLst pr.1 = false) : flatD pr.1 = true := by
  cases s <;> simp only [partsP, List.mem_cons, List.not_mem_nil, or_false] at h
  case call => rcases h with rfl | rfl <;> rfl
  case tail => rcases h with rfl | rfl <;> rfl
  case check => rcases h with rfl | rfl <;> rfl
  case back => rcases h with rfl; rfl
  case either => rcases h with rfl | rfl | rfl <;> first | rfl | cases n
  case loop => rcases h with rfl | rfl <;> first | rfl | cases n
  case block => rcases h with rfl | rfl | rfl <;> first | rfl | cases n
theorem flat_dq {K : PySem.W.Frag} {H H' : Hp} {v : V} {d : PyData} (h : flatD d = true) (hv : Dq K H v d) : Dq K H' v d := by
  cases hv with
  | non => exact .non
  | bl b => exact .bl b
  | int i => exact .int i
  | str x => exact .str x
  | _ => cases h
theorem cnt_one (s : Stp) : 1 ≤ cntS s := by cases s <;> simp only [cntS] <;> omega
theorem len_cnt : ∀ b : List Stp, b.length ≤ cntB b
  | [] => Nat.zero_le _
  | s :: r => by
    have := len_cnt r
    have := cnt_one s
    simp only [List.length_cons, cntB]
    omega
mutual
theorem okS_mono {rs rs' ns ns' : List Str} (hr : ∀ x ∈ rs, x ∈ rs') (hn : ∀ x ∈ ns, x ∈ ns') : ∀ {mk : Bool} {s : Stp}, okS rs ns mk s = true → okS rs' ns' mk s = true
  | _, .call n, h => by simp only [okS, decide_eq_true_eq] at h ⊢; exact hn n h
  | _, .tail n, h => by simp only [okS, Bool.and_eq_true, decide_eq_true_eq] at h ⊢; exact ⟨hn n h.1, h.2⟩
  | _, .check r, h => by simp only [okS, decide_eq_true_eq] at h ⊢; exact hr r h
  | _, .back, _ => by simp only [okS]
  | _, .either a b, h => by simp only [okS, Bool.and_eq_true] at h ⊢; exact ⟨okB_mono hr hn h.1, okB_mono hr hn h.2⟩
  | _, .loop b, h => by simp only [okS] at h ⊢; exact okB_mono hr hn h
  | _, .block m b, h => by simp only [okS] at h ⊢; exact okB_mono hr hn h
theorem okB_mono {rs rs' ns ns' : List Str} (hr : ∀ x ∈ rs, x ∈ rs') (hn : ∀ x ∈ ns, x ∈ ns') : ∀ {mk : Bool} {b : List Stp}, okB rs ns mk b = true → okB rs' ns' mk b = true
  | _, [], _ => by simp only [okB]
  | _, s :: r, h => by simp only [okB, Bool.and_eq_true] at h ⊢; exact ⟨okS_mono hr hn h.1, okB_mono hr hn h.2⟩
end
/-! ### programs' parts -/
abbrev Fn := Str × Str × List Stp
def fnD (f : Fn) : PyData := .tuple [.str f.1, .str f.2.1, .list (bodyD f.2.2)]
def names4 : List Str := ["main", "f", "g", "h"]
structure Prt where
  rs : List Str
  os : List Own
  fs : List Fn
def prtD (p : Prt) : PyData := .list [strsD p.rs, .list (p.os.map ownD), .list (p.fs.map fnD)]
def fnOk (rs : List Str) (os : List Own) (ns : List Str) (f : Fn) : Prop := f.2.1 ∈ os.map (·.1) ∧ okB rs ns false f.2.2 = true ∧ nstB f.2.2 ≤ 2 ∧ cntB f.2.2 ≤ 12
structure PrtOk (many : Nat) (p : Prt) : Prop where
  rs : ∃ k, k < 3 ∧ p.rs = rights3.take (k + 1)
  os : OwnsOk p.rs p.os
  ns : p.fs.map (·.1) = names4.take many
  fs : ∀ f ∈ p.fs, fnOk p.rs p.os (names4.take many) f
theorem sIx_hi {n : Nat} {d : Nat} : HT.sIx n d (some (-1)) = n - 1 := by
  unfold HT.sIx
  simp only
  split <;> omega
theorem cut_last (xs : List V) : cutV xs none (some (-1)) = xs.take (xs.length - 1) := by
  unfold cutV
  rw [sIx_hi]
  rfl
theorem dqa_take {K : PySem.W.Frag} {H : Hp} : ∀ {vs : List V} {ds : List PyData} (i : Nat), DqA K H vs ds → DqA K H (vs.take i) (ds.take i)
  | _, _, 0, _ => .nil
  | _, _, i + 1, .nil => .nil
  | _, _, i + 1, .cons a b => .cons a (dqa_take i b)
theorem nstB_take : ∀ {b : List Stp} {i : Nat}, nstB (b.take i) ≤ nstB b
  | b, 0 => by rw [List.take_zero]; simp only [nstB]; omega
  | [], i + 1 => Nat.le_refl _
  | s :: r, i + 1 => by
    have := nstB_take (b := r) (i := i)
    rw [List.take_succ_cons]
    simp only [nstB]
    omega
theorem cntB_takeLe : ∀ {b : List Stp} {i : Nat}, cntB (b.take i) ≤ cntB b
  | b, 0 => by rw [List.take_zero]; simp only [cntB]; omega
  | [], i + 1 => Nat.le_refl _
  | s :: r, i + 1 => by
    have := cntB_takeLe (b := r) (i := i)
    rw [List.take_succ_cons]
    simp only [cntB]
    omega
theorem okB_take {rs ns : List Str} {mk : Bool} {b : List Stp} {i : Nat} (h : okB rs ns mk b = true) : okB rs ns mk (b.take i) = true := okB_of fun _ hs => okB_mem h (List.mem_of_mem_take hs)
end Kx

set_option Elab.async false
set_option maxRecDepth 100000
set_option linter.all false
set_option maxHeartbeats 4000000
/-! KitS: any data beside a text: x == text, text == x, x in [texts], xs.count(text). -/
namespace Kx
open PySem PySem.Spec PyProof.Rows L2 Evl SeqAt AutoSeq1 MeetsSeq
theorem dict_eq_declines_str (l : Addr) (es : Array DictEntry) (n : Nat) (dd : Option Addr) (sl : Array (Option Value)) (b : Str) (u : Tok) :
    Meets (Builtin.«dict.__eq__» ⟨[.ref l, .str b u], []⟩) (fun _ R s => s.heap.get? l = some { cls := .type "dict", dict := dd, data := .dict es n, slots := sl } ∧ R (.ok (.ret .notImplemented)) s) :=
  .of_wp fun prog w A R s h => by obtain ⟨hp, g, d, tk, os⟩ := s; obtain ⟨hl, h⟩ := h; have f1 := F.sub_str_dict; wp_walk using wpAny_loadPart' hl; exact ⟨_, rfl, h⟩
theorem str_eq_declines_dict (b : Str) (u : Tok) (l : Addr) (es : Array DictEntry) (n : Nat) (dd : Option Addr) (sl : Array (Option Value)) :
    Meets (Builtin.«str.__eq__» ⟨[.str b u, .ref l], []⟩) (fun _ R s => s.heap.get? l = some { cls := .type "dict", dict := dd, data := .dict es n, slots := sl } ∧ R (.ok (.ret .notImplemented)) s) :=
  .of_wp fun prog w A R s h => by obtain ⟨hp, g, d, tk, os⟩ := s; obtain ⟨hl, h⟩ := h; wp_walk using wpAny_loadPart' hl, wpAny_load hl; exact ⟨_, rfl, h⟩
section
variable {A : Around} {s : Shared}
theorem rc_dict_str {l : Addr} {o : Obj} {es : Array DictEntry} {n : Nat} (b : Str) (u : Tok) (ho : s.heap.get? l = some o) (hc : o.cls = .type "dict") (hd : o.data = .dict es n) (hu : A.units < cLine) : RcAt A s (.ref l) (.str b u) false := fun prog w E Q h => by
  obtain ⟨cls, dd, data, sl⟩ := o
  simp only at hc hd
  subst hc hd
  exact rc_eq_decline_or (k := false) ⟨_, ho, rfl⟩ (typeIs_str s b u) (by decide) F.sub_str_dict F.slot_dict_eq F.slot_str_eq_refl
    (fun _ hq => call_meets F.slot_dict_eq ⟨_, ho, rfl⟩ F.entry_dict_eq (F.args_dict_eq_2 _ _) (dict_eq_declines_str l es n dd sl b u) ⟨ho, hq⟩)
    (fun _ hq => call_meets F.slot_str_eq_refl (typeIs_str s b u) F.entry_str_eq (F.args_str_eq_2 _ _) (str_eq_declines_dict b u l es n dd sl) ⟨ho, hq⟩)
    (fun _ hq => wpAny_of_eq (rfl : isSame (.ref l) (.str b u) = pure false) hq) (.inr hu) h
theorem rc_str_dict {l : Addr} {o : Obj} {es : Array DictEntry} {n : Nat} (b : Str) (u : Tok) (ho : s.heap.get? l = some o) (hc : o.cls = .type "dict") (hd : o.data = .dict es n) (hu : A.units < cLine) : RcAt A s (.str b u) (.ref l) false := fun prog w E Q h => by
  obtain ⟨cls, dd, data, sl⟩ := o
  simp only at hc hd
  subst hc hd
  exact rc_eq_decline_or (k := false) (typeIs_str s b u) ⟨_, ho, rfl⟩ (by decide) F.sub_dict_str F.slot_str_eq F.slot_dict_eq_refl
    (fun _ hq => call_meets F.slot_str_eq (typeIs_str s b u) F.entry_str_eq (F.args_str_eq_2 _ _) (str_eq_declines_dict b u l es n dd sl) ⟨ho, hq⟩)
    (fun _ hq => call_meets F.slot_dict_eq_refl ⟨_, ho, rfl⟩ F.entry_dict_eq (F.args_dict_eq_2 _ _) (dict_eq_declines_str l es n dd sl b u) ⟨ho, hq⟩)
    (fun _ hq => wpAny_of_eq (rfl : isSame (.str b u) (.ref l) = pure false) hq) (.inr hu) h
theorem eq_dict_str {l : Addr} {o : Obj} {es : Array DictEntry} {n : Nat} (b : Str) (u : Tok) (ho : s.heap.get? l = some o) (hc : o.cls = .type "dict") (hd : o.data = .dict es n) (hu : A.units < cLine) : EqAt A s (.ref l) (.str b u) false := fun prog w E Q h => by
  unfold eqBool
  refine wpAny_holding ?_
  refine wpAny_ite_split (fun hab => absurd (eq_of_beq hab) nofun) (fun _ => ?_)
  exact wpAny_bind (rc_dict_str b u ho hc hd hu prog w E _ (wpAny_truthy_bool h))
theorem eq_str_dict {l : Addr} {o : Obj} {es : Array DictEntry} {n : Nat} (b : Str) (u : Tok) (ho : s.heap.get? l = some o) (hc : o.cls = .type "dict") (hd : o.data = .dict es n) (hu : A.units < cLine) : EqAt A s (.str b u) (.ref l) false := fun prog w E Q h => by
  unfold eqBool
  refine wpAny_holding ?_
  refine wpAny_ite_split (fun hab => absurd (eq_of_beq hab) nofun) (fun _ => ?_)
  exact wpAny_bind (rc_str_dict b u ho hc hd hu prog w E _ (wpAny_truthy_bool h))
def eqS (d : PyData) (x : Str) : Bool := match d with
  | .str y => y == x
  | _ => false
theorem isL {l : Addr} {o : Obj} {vs : Array Value} {n : Nat} (ho : s.heap.get? l = some o) (hc : o.cls = .type "list") (hd : o.data = .seq vs n) : s.heap.IsList l vs := ⟨o, ho, hc, n, hd⟩
theorem isT {l : Addr} {o : Obj} {vs : Array Value} {n : Nat} (ho : s.heap.get? l = some o) (hc : o.cls = .type "tuple") (hd : o.data = .seq vs n) : s.heap.IsTuple l vs := ⟨o, ho, hc, n, hd⟩
theorem rd_rcS {u : Value} {d : PyData} {as : List Addr} (x : Str) (t : Tok) (hu : A.units < cLine) (h : Reads s.heap u d as) : RcAt A s u (.str x t) (eqS d x) := by
  cases h with
  | none => exact RcAt.none_str x t
  | bool b => exact RcAt.bool_str b x t
  | int i k => exact RcAt.int_str i k x t
  | str y k => exact RcAt.str_str y k x t
  | list ho hc hd _ => exact RcAt.list_str x t (isL ho hc hd) hu
  | tuple ho hc hd _ => exact RcAt.tuple_str x t (isT ho hc hd) hu
  | dict ho hc hd _ _ => exact rc_dict_str x t ho hc hd hu
theorem rd_eqS {u : Value} {d : PyData} {as : List Addr} (x : Str) (t : Tok) (hu : A.units < cLine) (h : Reads s.heap u d as) : EqAt A s u (.str x t) (eqS d x) := by
  cases h with
  | none => exact EqAt.none_str x t
  | bool b => exact EqAt.bool_str b x t
  | int i k => exact EqAt.int_str i k x t
  | str y k => exact EqAt.str_str y k x t
  | list ho hc hd _ => exact EqAt.list_str x t (isL ho hc hd) hu
  | tuple ho hc hd _ => exact EqAt.tuple_str x t (isT ho hc hd) hu
  | dict ho hc hd _ _ => exact eq_dict_str x t ho hc hd hu
theorem beq_flip {x y : Str} : (x == y) = (y == x) := by
  rw [Bool.eq_iff_iff, beq_iff_eq, beq_iff_eq]
  exact ⟨Eq.symm, Eq.symm⟩
theorem rd_Seq {u : Value} {d : PyData} {as : List Addr} (x : Str) (t : Tok) (hu : A.units < cLine) (h : Reads s.heap u d as) : EqAt A s (.str x t) u (eqS d x) := by
  cases h with
  | none => exact EqAt.str_none x t
  | bool b => exact EqAt.str_bool x t b
  | int i k => exact EqAt.str_int x t i k
  | str y k =>
    have := EqAt.str_str (A := A) (s := s) x t y k
    rw [beq_flip] at this
    exact this
  | list ho hc hd _ => exact EqAt.str_list x t (isL ho hc hd) hu
  | tuple ho hc hd _ => exact EqAt.str_tuple x t (isT ho hc hd) hu
  | dict ho hc hd _ _ => exact eq_str_dict x t ho hc hd hu
end
section
variable {X : Cx} {pins : List (Addr × Obj)} {σ : L2.St} {H : Hp} {s : Shared}
mutual
theorem Dq.rd (I : Inv X pins σ H s) : ∀ {d : PyData} {v : V} {u : Value}, Dq X.K H v d → RelV v u → ∃ as, Reads s.heap u d as
  | _, _, _, .non, r => by cases r; exact ⟨_, Reads.none⟩
  | _, _, _, .bl b, r => by cases r; exact ⟨_, Reads.bool b⟩
  | _, _, _, .int i, r => by obtain ⟨t, rfl⟩ := r; exact ⟨_, Reads.int i t⟩
  | _, _, _, .str x, r => by obtain ⟨t, rfl⟩ := r; exact ⟨_, Reads.str x t⟩
  | _, _, _, .lst (a := a) h q, r => by
    cases r
    obtain ⟨_, its, n, rv, ho⟩ := (show ObjOk X.prog X.w H s.heap a (.lst _) from I.hok a _ h)
    obtain ⟨as, hr⟩ := DqA.rd I q rv
    exact ⟨_, Reads.list ho rfl rfl hr⟩
  | _, _, _, .tup h q, r => by
    cases r
    obtain ⟨its, rv, ⟨o, ho, hc, n, hd⟩, _⟩ := I.tuple h
    obtain ⟨as, hr⟩ := DqA.rd I q rv
    exact ⟨_, Reads.tuple ho hc hd hr⟩
  | _, _, _, .dic (a := a) h q, r => by
    cases r
    obtain ⟨_, ha, vs, rv, o, es, ep, ho, hx, hd, _, hp, _⟩ := (show ObjOk X.prog X.w H s.heap a (.dK _) from I.hok a _ h)
    obtain ⟨as, bs, h1, h2⟩ := DqD.rd I q rv hp
    exact ⟨_, Reads.dict ho hx.1 hd h1 h2⟩
theorem DqA.rd (I : Inv X pins σ H s) : ∀ {ds : List PyData} {vs : List V} {us : List Value}, DqA X.K H vs ds → Vals vs us → ∃ as, ReadsAll s.heap us ds as
  | _, _, _, .nil, r => by cases r; exact ⟨_, ReadsAll.nil⟩
  | _, _, _, .cons a b, r => by
    cases r with
    | cons r1 r2 =>
      obtain ⟨as, h1⟩ := Dq.rd I a r1
      obtain ⟨bs, h2⟩ := DqA.rd I b r2
      exact ⟨_, ReadsAll.cons h1 h2⟩
theorem DqD.rd (I : Inv X pins σ H s) : ∀ {ds : List (PyData × PyData)} {kvs : List (Key × V)} {vs : List (Key × Value)} {es : List DictEntry}, DqD X.K H kvs ds → KV kvs vs →
    Pairs (mixKind X.prog X.w) es vs → ∃ as bs, ReadsAll s.heap (es.map (·.key)) (ds.map (·.1)) as ∧ ReadsAll s.heap (es.map (·.val)) (ds.map (·.2)) bs
  | _, _, _, _, .nil, r, p => by
    cases r
    cases p
    exact ⟨_, _, ReadsAll.nil, ReadsAll.nil⟩
  | _, _, _, _, .cons a b, r, p => by
    cases r with
    | cons r1 r2 =>
      cases p with
      | cons p1 p2 p3 =>
        obtain ⟨e1, e2⟩ := r1
        obtain ⟨as, h1⟩ := Dq.rd I a (p2 ▸ e2)
        obtain ⟨bs, cs, h2, h3⟩ := DqD.rd I b r2 p3
        exact ⟨_, _, ReadsAll.cons (key_reads (by rw [← e1] at p1; exact p1)) h2, ReadsAll.cons h1 h3⟩
end
end
/-- x == text -/
def rEqS (K : PySem.W.Frag) : R2 := fun x y H Q => ∃ (d : PyData) (z : Str), Dq K H x d ∧ y = .str z ∧ Q (.bl (eqS d z)) H
theorem op_eqS {X : Cx} (hu : X.A.units < cLine) : OpR X (compareOp .Eq) (rEqS X.K) := by
  intro pins s σ H x y v u Q I rx ry h
  obtain ⟨d, z, hd, rfl, q⟩ := h
  obtain ⟨t, rfl⟩ := ry
  obtain ⟨as, hr⟩ := Dq.rd I hd rx
  exact rd_rcS z t hu hr X.prog X.w X.xe _ ⟨.bl _, H, I, rfl, q⟩
/-- the values of a list of texts, as one compares them -/
def strV (d : PyData) (v : Value) : Bool := match v with
  | .str y _ => eqS d y
  | _ => false
theorem strs_any {d : PyData} : ∀ {ws : List Str} {us : List Value}, Vals (ws.map V.str) us → us.any (strV d) = ws.any (eqS d)
  | [], _, h => by cases h; rfl
  | w :: ws, _, h => by
    cases h with
    | cons a b =>
      obtain ⟨t, rfl⟩ := a
      rw [List.any_cons, List.any_cons, strs_any b]
      rfl
theorem strs_mem {ws : List Str} : ∀ {us : List Value}, Vals (ws.map V.str) us → ∀ y ∈ us, ∃ w t, y = .str w t := by
  induction ws with
  | nil => intro us h y hy; cases h; cases hy
  | cons w ws ih =>
    intro us h y hy
    cases h with
    | cons a b =>
      rcases List.mem_cons.mp hy with rfl | hy
      · obtain ⟨t, rfl⟩ := a
        exact ⟨w, t, rfl⟩
      · exact ih b y hy
def rInS (K : PySem.W.Frag) (neg : Bool) : R2 := fun x y H Q => ∃ (d : PyData) (ws : List Str) (p : Addr), Dq K H x d ∧ y = .ref p ∧ SqL K H p (ws.map V.str) ∧ Q (.bl (cond neg (!ws.any (eqS d)) (ws.any (eqS d)))) H
theorem op_inTs {X : Cx} (hu : X.A.units + 1 < cLine) : OpR X (compareOp .In) (rInS X.K false) := by
  intro pins s σ H x y v u Q I rx ry h
  obtain ⟨d, ws, p, hd, rfl, hs, q⟩ := h
  cases ry
  obtain ⟨as, hr⟩ := Dq.rd I hd rx
  obtain ⟨its, rv, hl, _⟩ := I.list hs
  refine in_listAt (strV d) hl.isList (fun z hz => ?_) ⟨.bl _, H, I, rfl, ?_⟩
  · obtain ⟨w, t, rfl⟩ := strs_mem rv z (by simpa using hz)
    exact rd_Seq w t hu hr
  · rw [List.any_toArray, strs_any rv]
    simpa using q
theorem op_notInTs {X : Cx} (hu : X.A.units + 1 < cLine) : OpR X (compareOp .NotIn) (rInS X.K true) := by
  intro pins s σ H x y v u Q I rx ry h
  obtain ⟨d, ws, p, hd, rfl, hs, q⟩ := h
  cases ry
  obtain ⟨as, hr⟩ := Dq.rd I hd rx
  obtain ⟨its, rv, hl, _⟩ := I.list hs
  refine notIn_listAt (strV d) hl.isList (fun z hz => ?_) ⟨.bl _, H, I, rfl, ?_⟩
  · obtain ⟨w, t, rfl⟩ := strs_mem rv z (by simpa using hz)
    exact rd_Seq w t hu hr
  · rw [List.any_toArray, strs_any rv]
    simpa using q
/-- xs.count(text), xs any data -/
def rCntS (K : PySem.W.Frag) : V → List V → Hp → VK → Prop := fun x xs H Q => ∃ (p : Addr) (vs : List V) (ds : List PyData) (z : Str), x = .ref p ∧ xs = [.str z] ∧ SqL K H p vs ∧ DqA K H vs ds ∧ Q (.int ((ds.countP fun d => eqS d z : Nat))) H
theorem cnt_reads {A : Around} {s : Shared} {z : Str} {t : Tok} (hu : A.units < cLine) : ∀ {us : List Value} {ds : List PyData} {as : List Addr}, ReadsAll s.heap us ds as → ∃ e : Value → Bool, (∀ y ∈ us, EqAt A s y (.str z t) (e y)) ∧ us.countP e = ds.countP fun d => eqS d z := by
  intro us
  classical
  intro ds as h
  have all : ∀ {us : List Value} {ds : List PyData} {as : List Addr}, ReadsAll s.heap us ds as → ∀ e : Value → Bool, (∀ y d as', Reads s.heap y d as' → e y = eqS d z) → us.countP e = ds.countP fun d => eqS d z := by
    intro us
    induction us with
    | nil => intro ds as h e _; cases h; rfl
    | cons u us ih =>
      intro ds as h e he
      cases h with
      | cons a b =>
        rw [List.countP_cons, List.countP_cons, ih b e he, he _ _ _ a]
  have mem : ∀ {us : List Value} {ds : List PyData} {as : List Addr}, ReadsAll s.heap us ds as → ∀ y ∈ us, ∃ d as', Reads s.heap y d as' := by
    intro us
    induction us with
    | nil => intro ds as h y hy; cases hy
    | cons u us ih =>
      intro ds as h y hy
      cases h with
      | cons a b =>
        rcases List.mem_cons.mp hy with rfl | hy
        · exact ⟨_, _, a⟩
        · exact ih b y hy
  let e : Value → Bool := fun v => match v with
    | .str y _ => y == z
    | _ => false
  have he : ∀ y d as', Reads s.heap y d as' → e y = eqS d z := fun y d as' h => by cases h <;> rfl
  refine ⟨e, fun y hy => ?_, all h e he⟩
  obtain ⟨d, as', hr⟩ := mem h y hy
  rw [he y d as' hr]
  exact rd_eqS z t hu hr
theorem mt_countS {X : Cx} (hu : X.A.units + 1 < cLine) : MtR X "list.count" (rCntS X.K) := by
  intro pins s σ H x xs v us Q I rx rxs h
  obtain ⟨p, vs, ds, z, rfl, rfl, hs, hd, q⟩ := h
  cases rx
  obtain ⟨u, rfl, ru⟩ := rxs.one
  obtain ⟨t, rfl⟩ := ru
  obtain ⟨its, rv, ⟨⟨cls, dd, data, sl⟩, n, ho, hc, hdn, hdt⟩, hlen⟩ := I.list hs
  simp only at hc hdt
  subst hc hdt
  obtain ⟨as, hr⟩ := DqA.rd I hd rv
  obtain ⟨e, h1, h2⟩ := cnt_reads (A := X.A.in1) (z := z) (t := t) hu hr
  refine call_meets PySem.F.slot_list_count ⟨_, ho, rfl⟩ PySem.F.entry_list_count (PySem.F.args_list_count_2 _ _)
    (SeqAt.list_countAt p its.toArray n dd sl (.str z t) e) ⟨ho, fun y hy => h1 y (by simpa using hy), ?_⟩
  refine ⟨.int _, H, I.tok _, ⟨s.toks, ?_⟩, q⟩
  show Value.int ((its.toArray.toList.countP e : Nat) : Int) s.toks = _
  rw [show its.toArray.toList = its from rfl, h2]
/-! ### isinstance of data, by kind; a comprehension over a text -/
def isStrD : PyData → Bool
  | .str _ => true
  | _ => false
def isTupD : PyData → Bool
  | .tuple _ => true
  | _ => false
def isBoolD : PyData → Bool
  | .bool _ => true
  | _ => false
theorem isi_s {K : PySem.W.Frag} {H : Hp} {v : V} {d : PyData} {Q : VK} (h : Dq K H v d) (q : Q (.bl (isStrD d)) H) : rIsiS K [v, .ty "str"] H Q :=
  ⟨v, _, _, _, _, rfl, .ty _, dq_tyx h, kit_ty (by cases h <;> rfl), q⟩
theorem isi_t {K : PySem.W.Frag} {H : Hp} {v : V} {d : PyData} {Q : VK} (h : Dq K H v d) (q : Q (.bl (isTupD d)) H) : rIsiS K [v, .ty "tuple"] H Q :=
  ⟨v, _, _, _, _, rfl, .ty _, dq_tyx h, kit_ty (by cases h <;> rfl), q⟩
theorem isi_b {K : PySem.W.Frag} {H : Hp} {v : V} {d : PyData} {Q : VK} (h : Dq K H v d) (q : Q (.bl (isBoolD d)) H) : rIsiS K [v, .ty "bool"] H Q :=
  ⟨v, _, _, _, _, rfl, .ty _, dq_tyx h, kit_ty (by cases h <;> rfl), q⟩
theorem lc_text {x : Str} {g : TG} {tt : TT} {te : TE} {vs : List Nat} {σ : L2.St} {H1 : Hp} {D : Addr} {Qd : Hp → Prop} (Pv : Nat → Hp → Prop) (h0 : Pv 0 (upd H1 D (.lst [])))
    (hs : ∀ i c H, x.cps[i]? = some c → Pv i H → g (.str ⟨#[c]⟩) (wipe σ vs) H fun σ2 H2 => wipe σ2 vs = wipe σ vs ∧ tt σ2 H2 fun b H3 =>
      if b = true then te σ2 H3 fun y H4 => ∃ acc, H4 D = some (.lst acc) ∧ acc.length < sizeLine ∧ Pv (i + 1) (upd H4 D (.lst (acc ++ [y]))) else Pv (i + 1) H3) (hd : ∀ H, Pv x.cps.size H → Qd H) :
    ∃ W : Nat → Nat → Hp → Prop, (∃ m, W 0 m (upd H1 D (.lst []))) ∧ ∀ i m H, W i m H →
      ((Its x).stop i H ∧ Qd H) ∨ ((Its x).go i H ∧ ∃ Nx : Hp → Prop, (∀ H', Nx H' → ∃ m', m' < m ∧ W (i + 1) m' H') ∧ ∀ y H', (Its x).yld i H y H' → g y (wipe σ vs) H' fun σ2 H2 => wipe σ2 vs = wipe σ vs ∧ tt σ2 H2 fun b H3 =>
        if b = true then te σ2 H3 fun y H4 => ∃ acc, H4 D = some (.lst acc) ∧ acc.length < sizeLine ∧ Nx (upd H4 D (.lst (acc ++ [y]))) else Nx H3) := by
  refine ⟨fun i m H => m = x.cps.size - i ∧ i ≤ x.cps.size ∧ Pv i H, ⟨x.cps.size, by simp, Nat.zero_le _, h0⟩, ?_⟩
  rintro i m H ⟨rfl, hi, p⟩
  by_cases hlt : i < x.cps.size
  · refine .inr ⟨hlt, Pv (i + 1), fun H' p' => ⟨x.cps.size - (i + 1), by omega, rfl, hlt, p'⟩, fun y H' yy => ?_⟩
    obtain ⟨e, c, hc, rfl⟩ := yy
    subst e
    exact hs i c _ hc p
  · have e : i = x.cps.size := by omega
    subst e
    exact .inl ⟨Nat.le_refl _, hd H p⟩
end Kx

set_option Elab.async false
set_option maxRecDepth 100000
set_option linter.all false
set_option maxHeartbeats 4000000
/-! KitT: an exception that is caught and held beyond its suite. -/
namespace Kx
open PySem PySem.Spec PyProof.Rows L2 Evl
/-- at a stands an exception of the class at C, whatever its record holds -/
def exk (a C : Addr) (d : Option Addr) : HO := .ext fun h => ∃ ox : Obj, h.get? a = some ox ∧ ox.cls = .ref C ∧ ox.dict = d ∧ PySem.W.notCls ox = true
theorem xat_exk {H : Hp} {a C : Addr} {d : Option Addr} (h : H a = some (exk a C d)) : XAt H a C d := ⟨_, h, fun _ e => e⟩
section
variable {X : Cx} {pins : List (Addr × Obj)} {σ : L2.St} {H : Hp} {s : Shared} {a C : Addr} {d : Option Addr} {oe : Obj} {vs : Array Value}
theorem exk_ok {P : Program} {w : World} {H' : Hp} {h : Heap} (e : h.get? a = some oe) (z : Zc (.ref C) d oe) (hd : oe.data = .fields vs) : ObjOk P w H' h a (exk a C d) :=
  ⟨⟨oe, e, z.1, z.2, by unfold PySem.W.notCls; rw [hd]⟩, ⟨_, e⟩, fun h1 h2 ⟨ox, e1, r⟩ k => ⟨ox, k _ e1, r⟩⟩
/-- what was pinned and is new since the entry is known from now on -/
theorem Inv.track (I : Inv X ((a, oe) :: pins) σ H s) (n0 : X.s_0.heap.get? a = none) (np : ∀ p ∈ X.pn ++ pins, p.1 ≠ a) (z : Zc (.ref C) d oe) (hd : oe.data = .fields vs) : Inv X pins σ (upd H a (exk a C d)) s := by
  obtain ⟨e, na, nl, nf, nc⟩ := I.pin (a, oe) (List.mem_append_right _ (List.mem_cons_self ..))
  have nz : ∀ {b : Addr} {u : HO}, H b = some u → b ≠ a := fun h => ne_of_none h na
  refine ⟨I.ok, I.os, I.bare, ⟨I.base.keep, I.base.slot, fun b o h1 h2 h3 => ?_, I.base.there, fun b xs h => ?_, fun b o u h => ?_, fun b ps h => ?_⟩, I.loc, I.cell, ?_, fun x c hc => ?_, fun p hp => ?_, I.hok.laidN (fun _ _ q => q) na (exk_ok e z hd), I.len⟩
  · rw [upd_ne (fun y => by rw [y, n0] at h1; cases h1)]
    exact I.base.free b o h1 h2 h3
  · have q := I.base.tups b xs h
    rw [upd_ne (nz q)]
    exact q
  · have q := I.base.frzs b o u h
    rw [upd_ne (nz q)]
    exact q
  · obtain ⟨more, q⟩ := I.base.tbls b ps h
    exact ⟨more, by rw [upd_ne (nz q)]; exact q⟩
  · rw [upd_ne nl.symm]
    exact I.free
  · have : c ≠ a := fun y => by
      obtain ⟨v, oc, h1, h2⟩ := I.cell x c hc
      rw [y, e] at h1
      cases h1
      exact nc v h2
    rw [upd_ne this]
    exact I.freeC x c hc
  · have q := I.pin p (by
      rcases List.mem_append.mp hp with h | h
      · exact List.mem_append_left _ h
      · exact List.mem_append_right _ (List.mem_cons_of_mem _ h))
    exact ⟨q.1, by rw [upd_ne (np p hp)]; exact q.2.1, q.2.2⟩
end
/-- the ends of a suite whose exception is held from then on -/
def keepD (D : Ends) (i : Nat) (a C : Addr) (d : Option Addr) : Ends :=
  { nx := fun σ' H' => D.nx (σ'.set i none) (upd H' a (exk a C d)), rt := fun v H' => D.rt v (upd H' a (exk a C d)), bk := fun σ' H' => D.bk (σ'.set i none) (upd H' a (exk a C d)), ct := fun σ' H' => D.ct (σ'.set i none) (upd H' a (exk a C d)) }
/-- what 'except x as n' wishes, n's exception held beyond -/
def wKeep (K : PySem.W.Frag) (c : Value) (i : Nat) (ts : Addr → Addr → Option Addr → TS) (Wout : WX) (D : Ends) : WX := fun cls d σ H =>
  ∃ (C : Addr) (b : Bool), cls = .ref C ∧ PySem.W.exmOne K cls c = some b ∧ (b = true → ∀ a, H a = none → ts a C d (keepD D i a C d) (σ.set i (some (.ref a))) H) ∧ (b = false → Wout cls d σ H)
section
variable {X : Cx} {x n : Str} {c : Value} {i : Nat} {body suite : List Stmt} {st0 : Stmt} {np pos pos' : Pos} {tb : WX → TS} {ts : Addr → Addr → Option Addr → TS} {Wout : WX} {pins : List (Addr × Obj)} {σ : L2.St} {H : Hp} {s : Shared}
theorem Inv.unsuiteP {a : Addr} {q : Addr × Obj} {pn' : List (Addr × Obj)} (I : Inv (X.suite a (q :: (X.pn ++ pins))) pn' σ H s) (ok : X.Ok) : Inv X (q :: pins) σ H s :=
  { I with ok := ok, pin := fun p hp => I.pin p (List.mem_append_left _ (by
      rcases List.mem_append.mp hp with h | h
      · exact List.mem_cons_of_mem _ (List.mem_append_left _ h)
      · rcases List.mem_cons.mp h with rfl | h
        · exact List.mem_cons_self ..
        · exact List.mem_cons_of_mem _ (List.mem_append_right _ h))) }
theorem ps_try_keep (hx : X.ex = []) (hs : X.stack = X.env :: X.outer) (hf : X.env.frame = some X.env.locals) (hN : X.N.Nodup) (hi : X.N[i]? = some n) (hln : X.env.kindOf n = some .local) (hc : Names X x c) (tk : Takes X Wout)
    (hb : ∀ (W : WX) (pn : List (Addr × Obj)) (xe : Value → Shared → Prop), Takes (X.tr pn xe) W → PassesOwn (model X.prog X.w) X.A X.env xe → PSs (X.tr pn xe) body (tb W))
    (hsu : ∀ (a : Addr) (oe : Obj) (C : Addr) (d : Option Addr) (pn : List (Addr × Obj)), Zc (.ref C) d oe → (∃ vs, oe.data = .fields vs) → PSs (X.suite a ((a, oe) :: pn)) (st0 :: suite) (ts a C d)) :
    PS X (.Try body [.ExceptHandler (some (.Name x np)) (some n) (st0 :: suite) pos'] [] [] pos) (fun D σ H => tb (wKeep X.K c i ts Wout D) D σ H) := by
  constructor
  intro pins s σ H D I h
  have ok := I.ok
  have hfr : X.A.frames = some (X.env :: X.outer) := ok.frames.trans (congrArg some hs)
  refine wpAny_Try_except (wpAny_mono ((hb (wKeep X.K c i ts Wout D) (X.pn ++ pins)
    (fun u s₁ => wpAny (model X.prog X.w) X.A (noteFrame u X.env) (fun _ s₂ => wpAny (model X.prog X.w) X.A (setFlight u none) (fun _ s₃ => wpAny (model X.prog X.w) X.A (handleBy u X.env [.ExceptHandler (some (.Name x np)) (some n) (st0 :: suite) pos']) (SP X pins D) X.xe s₃) X.xe s₂) X.xe s₁)
    (fun u s' air => ?caught) PassesOwn.looking).run [] s σ H D (I.toTry _) h) (fun fl s1 hsp => ?done) (fun _ _ z => z))
  case done =>
    cases fl with
    | next =>
      obtain ⟨σ1, H1, J, q⟩ := hsp
      exact wpAny_execs_nil ⟨σ1, H1, J.ofTry ok, q⟩
    | brk =>
      obtain ⟨σ1, H1, J, q⟩ := hsp
      exact ⟨σ1, H1, J.ofTry ok, q⟩
    | cont =>
      obtain ⟨σ1, H1, J, q⟩ := hsp
      exact ⟨σ1, H1, J.ofTry ok, q⟩
    | ret u =>
      obtain ⟨v, σ1, H1, J, r, q⟩ := hsp
      exact ⟨v, σ1, H1, J.ofTry ok, r, q⟩
  case caught =>
    obtain ⟨a, B, sI, pins', σ1, H1, cls, d, rfl, J0, nb, up, sky, na, os, ag, C, b, rfl, hb1, hyes, hno⟩ := air
    have J : Inv X pins σ1 H1 sI := J0.ofTry ok
    rw [show (X.tr (X.pn ++ pins) _).stack = X.env :: X.outer from hs] at sky
    show wpAny (model X.prog X.w) X.A (noteFrame (.ref a) X.env) _ _ _
    refine Sky.land Zc.steady hfr hf sky fun h3 fl3 up3 => ?_
    have J3 : Inv X pins σ1 H1 { s' with heap := h3 } := J.landed nb fl3.1 (up.trans up3) os ag
    obtain ⟨oe3, vs3, he3, hz3, hd3⟩ := fl3.there
    have nfr : a ∉ frs (X.env :: X.outer) := fun hm => by
      obtain ⟨_, o', e', hnf⟩ := (show h3.FunFrames B (X.env :: X.outer) from fl3.2.2.1).mem hm
      rw [he3] at e'
      cases e'
      exact hnf _ hd3
    have nL : a ≠ X.env.locals := fun y => nfr (List.mem_filterMap.mpr ⟨X.env, List.mem_cons_self, by rw [hf, y]⟩)
    have nF : a ∉ X.fs := fun hm => by
      obtain ⟨e, he, q⟩ := List.mem_filterMap.mp hm
      exact nfr (List.mem_filterMap.mpr ⟨e, List.mem_cons_of_mem _ he, q⟩)
    have nI : sI.heap.get? a = none := by
      cases y : sI.heap.get? a with
      | none => rfl
      | some o =>
        have := nb a o y (by rw [show (X.tr (X.pn ++ pins) _).stack = X.env :: X.outer from hs]; exact nfr)
        rw [fl3.2.1] at this
        cases this
    have n0 : X.s_0.heap.get? a = none := by
      cases y : X.s_0.heap.get? a with
      | none => rfl
      | some o =>
        obtain ⟨o', q⟩ := J.base.there a o y (by rw [hx]; exact fun z => nomatch z)
        rw [nI] at q
        cases q
    have npi : ∀ p ∈ X.pn ++ pins, p.1 ≠ a := fun p hp y => by
      have := (J.pin p hp).1
      rw [y, nI] at this
      cases this
    have S3 := J3.suite he3 hd3 na nL nF
    have look : PySem.W.Looks (model X.prog X.w) h3 (typeOf (.ref a)) (.ref C) := fun A' Q' E' t k q => wpAny_typeOf_ref (k _ _ he3) (hz3.1.symm ▸ q)
    have name : ∀ {Q : Value → Shared → Prop} {E : Value → Shared → Prop}, Q c { s' with heap := h3 } → wpAny (model X.prog X.w) (X.A.mark (some (.ref a))) (eval (.Name x np) X.env) Q E { s' with heap := h3 } := by
      intro Q E q
      obtain ⟨g1, g2, ⟨g3⟩ | ⟨g3, g4, g5⟩⟩ := hc
      · exact ld_glob (X := X.suite a ((a, oe3) :: (X.pn ++ pins))) S3 g1 g3 q g2
      · exact ld_blt (X := X.suite a ((a, oe3) :: (X.pn ++ pins))) S3 g1 g3 g4 q g5 g2
    refine wpAny_handleBy_cons (codeAny_handlers_test (name ((PySem.W.exm_one (M := model X.prog X.w) J3.kIn look hb1).here ?_))) (fun q => nomatch q)
    cases b
    · show wpAny _ X.A (handleBy (.ref a) X.env []) _ _ _
      refine wpAny_handleBy_nil ?_
      obtain ⟨k1, k2, k3, oe, vs, T, oT, ts', he, hz, hd, h1, hr⟩ := id fl3
      have out : wpAny (model X.prog X.w) X.A (setFlight (.ref a) X.env.frame) (fun _ s4 => wpAny (model X.prog X.w) X.A (throw (.ref a) : Sem Flow) (SP X pins D) X.xe s4) X.xe { s' with heap := h3 } := by
        rw [hf]
        refine HandSPX.setFlight_upZ fl3 fun h4 held up4 => wpAny_throw (tk _ _ ⟨a, B, sI, pins, σ1, H1, .ref C, d, rfl, J, nb, (up.trans up3).trans up4, .inr (.inr ?_), na, os, ag, hno rfl⟩)
        rw [hs]
        exact held
      unfold PySem.passOn
      refine wpAny_bind (wpAny_field he hd h1 ?_)
      rw [if_neg (show ¬ (Value.ref T == Value.none) = true from fun z => nomatch z)]
      first
        | exact wpAny_bind out
        | exact wpAny_bind (wpAny_pure (wpAny_bind out))
    · refine codeAny_handlers_suite_as (HandSPX.lands_againZ fl3 fun h4 fl4 up4 => ?_)
      obtain ⟨oe4, vs4, he4, hz4, hd4⟩ := fl4.there
      have S4 := (J.landed nb fl4.1 ((up.trans up3).trans up4) os ag : Inv X pins σ1 H1 { s' with heap := h4 }).suite he4 hd4 na nL nF
      refine store_ok (X := X.suite a ((a, oe4) :: (X.pn ++ pins))) (v := .ref a) S4 hN hi (.inl hln) rfl (fun s5 S5 => ?_) (.inr hln)
      refine wpAny_mono ((hsu a oe4 C d (X.pn ++ pins) hz4 ⟨_, hd4⟩).run [] s5 _ H1 _ S5 (hyes rfl a na)) (fun fl s6 hsp => ?_) (fun _ _ z => z.elim)
      have last : ∀ {σ6 : L2.St} {H6 : Hp} {Q : Shared → Prop}, Inv (X.suite a ((a, oe4) :: (X.pn ++ pins))) [] σ6 H6 s6 → (∀ s7, Inv X pins (σ6.set i none) (upd H6 a (exk a C d)) s7 → Q s7) →
          wpAny (model X.prog X.w) X.A (do bindName X.env n .none; unbindBehindTheSuite X.env n pos') (fun _ s7 => Q s7) X.xe s6 := fun S6 hq =>
        gone_ok (Inv.unsuiteP S6 ok) hN hi hln fun s7 J7 => hq s7 (Inv.track J7 n0 npi hz4 hd4)
      cases fl with
      | next =>
        obtain ⟨σ6, H6, S6, q6⟩ := hsp
        exact last S6 fun s7 J7 => ⟨_, _, J7, q6⟩
      | brk =>
        obtain ⟨σ6, H6, S6, q6⟩ := hsp
        exact last S6 fun s7 J7 => ⟨_, _, J7, q6⟩
      | cont =>
        obtain ⟨σ6, H6, S6, q6⟩ := hsp
        exact last S6 fun s7 J7 => ⟨_, _, J7, q6⟩
      | ret u =>
        obtain ⟨v6, σ6, H6, S6, r6, q6⟩ := hsp
        exact last S6 fun s7 J7 => ⟨_, _, _, J7, r6, q6⟩
end
/-- what gives a new exception of an own class back, with its dict, makes an exception -/
theorem pmk_xo {X : Cx} {e : Expr} {te : TE} (hx : X.ex = []) (he : PE X e te) :
    PMk X e (fun σ H Q => te σ H fun x H1 => ∃ a C d, x = .ref a ∧ H1 a = some (exo a C (some d)) ∧ Fr0 X.H_0 a ∧ Raises X (.ref C) ∧ Q (.ref C) (some d) (delH H1 a)) := fun pins s σ H Q I h =>
  wpAny_mono (he.run pins s σ H _ I h) (fun u s1 ⟨v, H1, I1, r1, a, C, d, ev, ha, h0, hr, q⟩ => by
    subst ev
    cases r1
    obtain ⟨⟨t1, ho⟩, _⟩ := (show ObjOk X.prog X.w H1 s1.heap a (exo a C (some d)) from I1.hok a _ ha)
    obtain ⟨G, gs, ga, J⟩ := I1.untrack ha h0 hx
    exact ⟨a, _, _, { s1 with heap := G }, delH H1 a, _, some d, rfl, J, gs, ga, ho, ⟨rfl, rfl⟩, rfl, rfl, delH_same, rfl, I1.bare, hr, q⟩) fun _ _ z => z
/-- raise C(e), C an own class with one field: what flies holds it -/
def XFly (H H2 : Hp) (d : Addr) (f : Str) (v : V) : Prop := Same H H2 ∧ H2 d = some (exd d [(f, v)])
theorem XFly.fat {H H2 : Hp} {d : Addr} {f : Str} {v : V} (h : XFly H H2 d f v) : FAt H2 d [(f, v)] := .inl h.2
section
variable {X : Cx} {W : WX} {fI C : Addr} {fd : FuncData} {x f : Str} {p pos pos2 : Pos} {e : Expr} {te : TE}
def tXR (C : Addr) (f : Str) (te : TE) : TE := fun σ H Q => te σ H fun v H1 => ∀ a d H2, H1 a = none → d ≠ a → Same H1 H2 → H2 a = some (exo a C (some d)) → H2 d = some (exd d [(f, v)]) → Q (.ref a) H2
theorem pe_xr1 (T : XCls X.prog X.w X.K X.mg x f C fI fd) (hr : Room 2 X.A) (hg : Gl X x) (he : PE X e te)
    (hm : ∀ σ H (Q Q' : VK), (∀ v H1, Q v H1 → Q' v H1) → te σ H Q → te σ H Q')
    (hdb : (x == ("__debug__" : Str)) = false := by decide) (hs : starEach [e] X.env = (false, eval e X.env) :: starEach [] X.env := by rfl)
    (hpl : (backTo pos (starEach [] X.env)).any (·.1) = false := by rfl) : PE X (.Call (.Name x p) [e] [] pos) (tXR C f te) := by
  refine PE.imp (pe_mkV T.o T.iC T.tI (T.fn X.base) hr hg T.mgC T.b2 .nil pass0 (pa_cons he pa_nil hs) hdb hs hpl) fun σ H Q q => hm σ H _ _ (fun v H1 k => ⟨(by show 1 ≤ 1000; decide), fun a ha => ⟨a, v, rfl, upd_same, fun d hd hne => ⟨rfl, ?_⟩⟩⟩) q
  obtain ⟨h1, _⟩ := xv_made (f := f) (v := v) ha hd hne
  exact k a d _ ha hne h1 upd_same (by rw [upd_ne hne]; exact upd_same)
/-- raise C(e): H0 is the heap at the entry -/
def tFly (H0 : Hp) (C : Addr) (f : Str) (W : WX) (te : TE) : TS := fun _ σ H => te σ H fun v H1 => (∀ a, H1 a = none → H0 a = none) ∧ ∀ d H2, XFly H1 H2 d f v → W (.ref C) (some d) σ H2
theorem ps_raiseX (hc : X.calm = true) (hx : X.ex = []) (tk : Takes X W) (T : XCls X.prog X.w X.K X.mg x f C fI fd) (hr : Room 2 X.A) (hg : Gl X x) (he : PE X e te)
    (hm : ∀ σ H (Q Q' : VK), (∀ v H1, Q v H1 → Q' v H1) → te σ H Q → te σ H Q')
    (hdb : (x == ("__debug__" : Str)) = false := by decide) (hs : starEach [e] X.env = (false, eval e X.env) :: starEach [] X.env := by rfl)
    (hpl : (backTo p (starEach [] X.env)).any (·.1) = false := by rfl) : PS X (.Raise (some (.Call (.Name x pos2) [e] [] p)) none pos) (tFly X.H_0 C f W te) := by
  have m := ps_raise (pos := pos) hc tk (pmk_xo hx (pe_xr1 (p := pos2) T hr hg he hm hdb hs hpl))
  refine ⟨fun pins s σ H D I h => m.run pins s σ H D I (hm σ H _ _ (fun v H1 ⟨h0, k⟩ a d H2 ha hne hs2 h1 h2 => ⟨a, C, d, rfl, h1, fr0_none (h0 a ha), raises_own T.o.exC T.o.tyC, k d _ ⟨fun b o hb => ?_, ?_⟩⟩) h)⟩
  · rw [delH_ne (ne_of_none hb ha)]
    exact hs2 b o hb
  · rw [delH_ne hne]
    exact h2
end
end Kx

set_option Elab.async false
set_option maxRecDepth 100000
set_option linter.all false
set_option maxHeartbeats 2000000
/-! KitU: objects made where an exception may fly; a write beside what is new. -/
namespace Kx
open PySem PySem.Spec PyProof.Rows L2 Evl
section
variable {H H1 H2 M M2 : Hp} {p : Addr} {o0 o1 : HO}
theorem new_swap (k : New (upd H1 p o1) H2 M2) (h : H1 p = some o0) : New H1 (upd H2 p o0) M2 ∧ H2 = upd (upd H2 p o0) p o1 := by
  have hp : H2 p = some o1 := k.hh _ _ upd_same
  have mp : M2 p = none := k.fr p o1 upd_same
  refine ⟨⟨fun a u e => ?_, fun a u e => ?_, fun a u e => ?_⟩, ?_⟩
  · by_cases z : a = p
    · rw [z, h] at e
      rw [z, upd_same]
      exact e
    · rw [upd_ne z]
      exact k.hh a u (by rw [upd_ne z]; exact e)
  · have z : a ≠ p := fun z => by rw [z, mp] at e; cases e
    rw [upd_ne z]
    exact k.mh a u e
  · by_cases z : a = p
    · rw [z]; exact mp
    · exact k.fr a u (by rw [upd_ne z]; exact e)
  · funext a
    by_cases z : a = p
    · rw [z, upd_same, hp]
    · rw [upd_ne z, upd_ne z]
theorem new_ofEx (e : Ex H H2) : New H H2 emp := ⟨e, fun a o h => (nomatch h), fun _ _ _ => rfl⟩
end
section
variable {X : Cx} {CX : CXT} {k : Nat} {f C : Addr} {fd : FuncData} {ps : List Str} {sp : Sp} {dvs : List V} {ds : List Value} {E : L2.St → XK} {x : Str} {p pos : Pos} {e : Expr} {es : List Expr} {t : TA}
theorem run_makeS {pins : List (Addr × Obj)} {σ : L2.St} {H : Hp} {s : Shared} {Q : VK} {us : List Value} {vs : List V} (M : Mk X.K C f) (F : FnOk X.prog X.w X.K X.mg X.base CX k f fd ps sp) (hr : Room (k + 1) X.A) (hb : Binds X.K fd ps ds) (hd : Vals dvs ds)
    (hx : PassesAt CX X σ (E σ)) (I : Inv X pins σ H s) (r : Vals vs us)
    (h : ∀ x dx, H x = none → H dx = none → dx ≠ x → sp (.ref x :: (vs ++ dvs)) (upd (upd H dx (.own x)) x (.ins C dx [])) (fun v H2 => v = .non ∧ Q (.ref x) H2) (E σ)) :
    wpAny (model X.prog X.w) X.A (call (.ref C) us) (EP X pins σ Q) X.xe s := by
  have hq := h (s.heap.objs.size + 1) s.heap.objs.size (I.hok.fresh (Nat.le_succ _)) (I.hok.fresh (Nat.le_refl _)) (Nat.ne_of_lt (Nat.lt_succ_self _))
  have I2 := Inv.made (C := C) I
  have r2 : Vals (V.ref (s.heap.objs.size + 1) :: (vs ++ dvs)) (Value.ref (s.heap.objs.size + 1) :: (us ++ ds)) := .cons rfl (r.append hd)
  have hl : (Value.ref (s.heap.objs.size + 1) :: us ++ ds).length = ps.length := by
    have e := r2.length
    rw [F.len _ _ _ _ hq] at e
    exact e.symm
  refine wpAny_call (make_map (f := f) I.kIn M.makes M.init (beq_iff_eq.mp M.fn) (codeAny_mono (F.run _ X.stack _ _ ⟨Value.ref (s.heap.objs.size + 1) :: us, []⟩ (Value.ref (s.heap.objs.size + 1) :: (us ++ ds)) _ _ (E σ) (hr.make C us [])
    (I2.env0.make C us []) (hb _ (Value.ref (s.heap.objs.size + 1) :: us) I2.kIn hl) r2 hq) fun r s' hq' => ?_))
  cases r with
  | error e => exact hx pins _ _ e s' I2 hq'
  | ok fl =>
    cases fl with
    | ret u =>
      obtain ⟨v, H', I3, rv, ev, q3⟩ := I2.after hq'
      subst ev
      exact ⟨rv, ⟨V.ref (s.heap.objs.size + 1), H', I3, rfl, q3⟩⟩
    | next => exact False.elim hq'
    | brk => exact False.elim hq'
    | cont => exact False.elim hq'
def tMakeS (C : Addr) (sp : Sp) (dvs : List V) (E : L2.St → XK) (t : TA) : TE := fun σ H Q => t σ H fun vs H1 => ∀ x dx, H1 x = none → H1 dx = none → dx ≠ x →
  sp (.ref x :: (vs ++ dvs)) (upd (upd H1 dx (.own x)) x (.ins C dx [])) (fun v H2 => v = .non ∧ Q (.ref x) H2) (E σ)
theorem pe_makeS (M : Mk X.K C f) (F : FnOk X.prog X.w X.K X.mg X.base CX k f fd ps sp) (hr : Room (k + 1) X.A) (hg : Gl X x) (hm : X.mg x = some (.ref C)) (hb : Binds X.K fd ps ds) (hd : Vals dvs ds) (hx : ∀ σ, PassesAt CX X σ (E σ))
    (ha : PA X (e :: es) t) (hdb : (x == ("__debug__" : Str)) = false := by decide) (he : starEach (e :: es) X.env = (false, eval e X.env) :: starEach es X.env := by rfl) (hpl : (backTo pos (starEach es X.env)).any (·.1) = false := by rfl) :
    PE X (.Call (.Name x p) (e :: es) [] pos) (tMakeS C sp dvs E t) := by
  refine ⟨fun pins s σ H Q I h => ?_⟩
  refine wpAny_Call_Name_kw (ld_glob I hg hm ?_ hdb)
  refine PySem.W.callWith_K (h₀ := X.base) I.ok.mod.kin M.kp (thn (ha.run pos pins s σ H _ I h) fun us s1 ⟨vs, H1, I1, r, q⟩ => ⟨I1.kIn, ?_⟩) he hpl
  exact run_makeS M F hr hb hd (hx σ) I1 r q
theorem no_passes {P : Program} {w : World} (hP : X.prog = P) (hw : X.w = w) : Passes (L2.CX P w) X fun _ _ _ => False := fun _ _ _ _ _ _ _ ⟨_, _, _, _, _, _, _, _, _, _, _, _, h⟩ => h.elim
end
end Kx

set_option Elab.async false
set_option maxRecDepth 100000
set_option linter.all false
set_option maxHeartbeats 2000000
/-! KitZ: data whose lists are all different ones. -/
namespace Kx
open PySem PySem.Spec PyProof.Rows L2 Evl
mutual
/-- data at a value; as: the lists in it, from the left -/
inductive DqN (K : PySem.W.Frag) (H : Hp) : V → PyData → List Addr → Prop
  | flat {v : V} {d : PyData} : flatD d = true → Dq K H v d → DqN K H v d []
  | lst {a : Addr} {xs : List V} {ds : List PyData} {as : List Addr} : H a = some (.lst xs) → DqNA K H xs ds as → DqN K H (.ref a) (.list ds) (a :: as)
  | tup {a : Addr} {xs : List V} {ds : List PyData} {as : List Addr} : H a = some (.tup xs) → DqNA K H xs ds as → DqN K H (.ref a) (.tuple ds) as
inductive DqNA (K : PySem.W.Frag) (H : Hp) : List V → List PyData → List Addr → Prop
  | nil : DqNA K H [] [] []
  | cons {v : V} {vs : List V} {d : PyData} {ds : List PyData} {as bs : List Addr} : DqN K H v d as → DqNA K H vs ds bs → DqNA K H (v :: vs) (d :: ds) (as ++ bs)
end
section
variable {K : PySem.W.Frag} {H H' : Hp}
mutual
theorem DqN.dq : ∀ {d : PyData} {v : V} {as : List Addr}, DqN K H v d as → Dq K H v d
  | _, _, _, .flat _ h => h
  | _, _, _, .lst h a => .lst h (DqNA.dq a)
  | _, _, _, .tup h a => .tup (.inl (.inl h)) (DqNA.dq a)
theorem DqNA.dq : ∀ {ds : List PyData} {vs : List V} {as : List Addr}, DqNA K H vs ds as → DqA K H vs ds
  | _, _, _, .nil => .nil
  | _, _, _, .cons a b => .cons (DqN.dq a) (DqNA.dq b)
end
mutual
/-- another heap that has the same tuples and these lists -/
theorem DqN.agree (ht : ∀ a xs, H a = some (.tup xs) → H' a = some (.tup xs)) : ∀ {d : PyData} {v : V} {as : List Addr}, DqN K H v d as → (∀ a ∈ as, H' a = H a) → DqN K H' v d as
  | _, _, _, .flat f h, _ => .flat f (flat_dq f h)
  | _, _, _, .lst h a, k => .lst (by rw [k _ (List.mem_cons_self ..)]; exact h) (DqNA.agree ht a fun b hb => k b (List.mem_cons_of_mem _ hb))
  | _, _, _, .tup h a, k => .tup (ht _ _ h) (DqNA.agree ht a k)
theorem DqNA.agree (ht : ∀ a xs, H a = some (.tup xs) → H' a = some (.tup xs)) : ∀ {ds : List PyData} {vs : List V} {as : List Addr}, DqNA K H vs ds as → (∀ a ∈ as, H' a = H a) → DqNA K H' vs ds as
  | _, _, _, .nil, _ => .nil
  | _, _, _, .cons a b, k => .cons (DqN.agree ht a fun c hc => k c (List.mem_append_left _ hc)) (DqNA.agree ht b fun c hc => k c (List.mem_append_right _ hc))
end
mutual
theorem DqN.is : ∀ {d : PyData} {v : V} {as : List Addr}, DqN K H v d as → ∀ a ∈ as, ∃ xs, H a = some (.lst xs)
  | _, _, _, .flat _ _, a, h => nomatch h
  | _, _, _, .lst h b, a, k => (List.mem_cons.mp k).elim (fun e => e ▸ ⟨_, h⟩) (DqNA.is b a)
  | _, _, _, .tup _ b, a, k => DqNA.is b a k
theorem DqNA.is : ∀ {ds : List PyData} {vs : List V} {as : List Addr}, DqNA K H vs ds as → ∀ a ∈ as, ∃ xs, H a = some (.lst xs)
  | _, _, _, .nil, a, h => nomatch h
  | _, _, _, .cons b c, a, k => (List.mem_append.mp k).elim (DqN.is b a) (DqNA.is c a)
end
theorem DqN.mono (e : Ex H H') {d : PyData} {v : V} {as : List Addr} (h : DqN K H v d as) : DqN K H' v d as := h.agree (fun a xs q => e _ _ q) fun a ha => by
  obtain ⟨xs, q⟩ := h.is a ha
  rw [q]
  exact e _ _ q
theorem DqNA.mono (e : Ex H H') {ds : List PyData} {vs : List V} {as : List Addr} (h : DqNA K H vs ds as) : DqNA K H' vs ds as := h.agree (fun a xs q => e _ _ q) fun a ha => by
  obtain ⟨xs, q⟩ := h.is a ha
  rw [q]
  exact e _ _ q
theorem DqNA.app {v : V} {d : PyData} {bs : List Addr} : ∀ {ds : List PyData} {vs : List V} {as : List Addr}, DqNA K H vs ds as → DqN K H v d bs → DqNA K H (vs ++ [v]) (ds ++ [d]) (as ++ bs)
  | _, _, _, .nil, h => by
    have := DqNA.cons h (.nil (K := K) (H := H))
    rw [List.append_nil] at this
    exact this
  | _, _, _, .cons a b, h => by
    rw [List.append_assoc]
    exact .cons a (DqNA.app b h)
theorem strs_n : ∀ xs : List Str, DqNA K H (xs.map V.str) (xs.map PyData.str) []
  | [] => .nil
  | x :: xs => .cons (as := []) (.flat rfl (.str x)) (strs_n xs)
end
/-- data in the new part M, its lists all different and not there at H -/
def FrN (K : PySem.W.Frag) (H M : Hp) (v : V) (d : PyData) : Prop := ∃ as, DqN K M v d as ∧ as.Nodup ∧ ∀ a ∈ as, H a = none
def FrA (K : PySem.W.Frag) (H M : Hp) (vs : List V) (ds : List PyData) : Prop := ∃ as, DqNA K M vs ds as ∧ as.Nodup ∧ ∀ a ∈ as, H a = none
section
variable {K : PySem.W.Frag} {H H' H3 M M' M3 : Hp} {v : V} {d : PyData} {vs : List V} {ds : List PyData}
theorem FrN.dq (h : FrN K H M v d) : Dq K M v d := let ⟨_, a, _⟩ := h; a.dq
theorem FrA.dq (h : FrA K H M vs ds) : DqA K M vs ds := let ⟨_, a, _⟩ := h; a.dq
theorem FrN.mono (e : Ex M M') (h : FrN K H M v d) : FrN K H M' v d := let ⟨as, a, b, c⟩ := h; ⟨as, a.mono e, b, c⟩
theorem FrA.mono (e : Ex M M') (h : FrA K H M vs ds) : FrA K H M' vs ds := let ⟨as, a, b, c⟩ := h; ⟨as, a.mono e, b, c⟩
theorem FrN.back (e : Ex H H') (h : FrN K H' M v d) : FrN K H M v d := let ⟨as, a, b, c⟩ := h; ⟨as, a, b, fun x hx => fresh_back e (c x hx)⟩
theorem FrA.back (e : Ex H H') (h : FrA K H' M vs ds) : FrA K H M vs ds := let ⟨as, a, b, c⟩ := h; ⟨as, a, b, fun x hx => fresh_back e (c x hx)⟩
theorem FrA.nil : FrA K H M [] [] := ⟨[], .nil, List.nodup_nil, fun a h => nomatch h⟩
theorem FrN.flat (f : flatD d = true) (h : Dq K M v d) : FrN K H M v d := ⟨[], .flat f h, List.nodup_nil, fun a h => nomatch h⟩
/-- one more, made behind the others -/
theorem FrA.app (k : New H H' M) (h : FrA K H M vs ds) (e1 : Ex M M') (e3 : Ex M3 M') (h3 : FrN K H' M3 v d) : FrA K H M' (vs ++ [v]) (ds ++ [d]) := by
  obtain ⟨as, a1, a2, a3⟩ := h
  obtain ⟨bs, b1, b2, b3⟩ := h3
  refine ⟨as ++ bs, (a1.mono e1).app (b1.mono e3), List.nodup_append.mpr ⟨a2, b2, fun x hx y hy e => ?_⟩, fun x hx => ?_⟩
  · obtain ⟨xs, q⟩ := a1.is x hx
    have := k.mh _ _ q
    rw [e, b3 y hy] at this
    cases this
  · rcases List.mem_append.mp hx with hx | hx
    · exact a3 x hx
    · exact fresh_back k.hh (b3 x hx)
theorem FrN.tup {p : Addr} (h : FrA K H M vs ds) (e : Ex M M') (hp : M' p = some (.tup vs)) : FrN K H M' (.ref p) (.tuple ds) := let ⟨as, a, b, c⟩ := h; ⟨as, .tup hp (a.mono e), b, c⟩
theorem FrN.lst {p : Addr} (h : FrA K H M vs ds) (mp : M p = none) (np : H p = none) : FrN K H (upd M p (.lst vs)) (.ref p) (.list ds) := by
  obtain ⟨as, a, b, c⟩ := h
  refine ⟨p :: as, .lst upd_same (a.mono (Ex.new mp)), List.nodup_cons.mpr ⟨fun hp => ?_, b⟩, fun x hx => ?_⟩
  · obtain ⟨xs, q⟩ := a.is p hp
    rw [mp] at q
    cases q
  · rcases List.mem_cons.mp hx with rfl | hx
    · exact np
    · exact c x hx
theorem FrN.strs {p : Addr} {ss : List Str} (hp : M p = some (.lst (ss.map V.str))) (np : H p = none) : FrN K H M (.ref p) (strsD ss) := ⟨[p], .lst hp (strs_n ss), List.nodup_cons.mpr ⟨(fun h => nomatch h), List.nodup_nil⟩, fun x hx => by rw [List.mem_singleton.mp hx]; exact np⟩
end
end Kx

set_option Elab.async false
set_option maxRecDepth 100000
set_option linter.all false
set_option maxHeartbeats 4000000
namespace Lx
open PySem PySem.Spec PyProof.Rows L2 Evl Kx
section
variable {P : Program} {w : World} {K : PySem.W.Frag} {mg : Str → Option Value} {base : Heap} {f : Addr} {fd : FuncData}
abbrev sCop : Stmt := top 74
abbrev sCnt : Stmt := top 76
theorem scCop : FnScope ["body", "found", "step", "part"] ["body"] (defScope sCop) := ⟨rfl, rfl, rfl, by decide +kernel, rfl, by decide +kernel, by decide +kernel⟩
theorem scCnt : FnScope ["body", "many", "step", "part"] ["body"] (defScope sCnt) := ⟨rfl, rfl, rfl, by decide +kernel, rfl, by decide +kernel, by decide +kernel⟩
def spCnt (K : PySem.W.Frag) (d : Nat) : Sp := fun vs H Q _ => ∃ (p : Addr) (G : Hp) (b : List Stp), vs = [.ref p] ∧ Ex G H ∧ Dq K G (.ref p) (.list (bodyD b)) ∧ nstB b ≤ d ∧ ∀ H2, Ex H H2 → Q (.int (cntB b)) H2
structure spCop (K : PySem.W.Frag) (d : Nat) (vs : List V) (H : Hp) (Q : VK) (E_ : XK) : Prop where
  mk' ::
  out : ∃ (p : Addr) (G : Hp) (b : List Stp), vs = [.ref p] ∧ Ex G H ∧ Dq K G (.ref p) (.list (bodyD b)) ∧ nstB b ≤ d ∧ cntB b ≤ 4096 ∧ ∀ p2 H2 M, New H H2 M → FrN K H M (.ref p2) (.list (bodyD b)) → Q (.ref p2) H2
def spNo : Sp := fun _ _ _ _ => False
def spCntP (K : PySem.W.Frag) : Nat → Sp
  | 0 => spNo
  | d + 1 => spCnt K d
def spCopP (K : PySem.W.Frag) : Nat → Sp
  | 0 => spNo
  | d + 1 => spCop K d
theorem ok_cnt1 {d : Nat} (F : Fun K "_law_count" "_law_count" sCnt f fd) (FC : FnOk P w K mg base CX0 (d + 1) f fd ["body"] (spCntP K d)) (mC : mg "_law_count" = some (.ref f)) (kC : PySem.W.keepIn K (.ref f) = true) (bC : Binds K fd ["body"] [])
    (mS : mg "sum" = none) (mI : mg "isinstance" = none) (mL : mg "list" = none) : FnOk P w K mg base CX0 (d + 2) f fd ["body"] (spCnt K d) := by
  refine F.ok scCnt (fun vs H Q E h => ?_) (fun cdv A outer s H vs Q E hr h => ?_)
  · obtain ⟨_, _, _, rfl, _⟩ := h
    rfl
  · obtain ⟨p, G, b, rfl, e, hd, hn, q⟩ := h
    refine ⟨_, pss_cons (ps_set (i := 1) scCnt.nd rfl (Or.inl rfl) pe_int)
      (pss_cons (ps_for PassesOwn.never rfl (pi_list (pv 0)) (pg_name (i := 2) scCnt.nd rfl (Or.inl rfl))
        (pss_one (ps_set (i := 1) scCnt.nd rfl (Or.inl rfl) (pe_op op_add (pe_op op_add (pv 1) pe_int) (pe_callB (cr_sum rfl) (by rfl) mS (by decide +kernel) (pa_cons (pe_lc (own := [("part", 3)]) (g := gName 3) rfl scCnt.nd (pi_tup (pv 2))
            (blkOk_by (own := [("part", 3)]) (N := ["body", "many", "step", "part"]) (sc := defScope sCnt) (by decide +kernel))
            (fun _ _ _ _ _ => pg_name (i := 3) scCnt.nd rfl (Or.inl rfl)) (fun _ _ _ _ _ => pts_one (pt_val (pe_callB (isi_S (K := K)) (by rfl) mI PyProof.Rows.boot_isinstance (pa_cons (pv 3) (pa_cons (pe_bltn (v := .ty "list") (by rfl) mL (by decide +kernel) rfl) pa_nil)))))
            (fun _ _ _ _ _ => pe_call FC hr rfl mC kC bC .nil pass0 (pa_cons (pv 3) pa_nil))) pa_nil))))))
      (pss_one (ps_ret (pv 1)))), ?_⟩
    cases hd with
    | @lst _ xs _ hp hx =>
    refine ⟨_, rfl, p, rfl, ⟨_, SqL.of (e _ _ hp)⟩, ?_⟩
    have hlen : xs.length = b.length := by
      have := dqa_len hx
      rw [bodyD_map, List.length_map] at this
      exact this
    refine for_list (K := K) (a := p) (xs := xs) (fun i σ H' => ∃ t : Option V, σ = [some (.ref p), some (.int (cntB (b.take i))), t, none] ∧ Ex H H') ?_ (fun i σ H' _ ⟨_, _, k⟩ => SqL.of (k _ _ (e _ _ hp))) ?_ ?_
    · exact ⟨none, rfl, Ex.refl H⟩
    · rintro i x σ H' hi ⟨t, rfl, k⟩
      obtain ⟨s, hs, hv⟩ := body_get hx hi
      obtain ⟨ta, ys, rfl, hT, hy⟩ := step_at hv
      have eT : SqT K H' ta ys := sqt_ex (same_ex (e.trans k)) hT
      refine ⟨_, rfl, _, _, rfl, rfl, _, rfl, ta, rfl, ⟨_, eT⟩, fun D nD => ?_⟩
      have hst : s ∈ b := List.mem_of_getElem? hs
      refine lc_tup (K := K) (a := ta) (xs := ys) (fun j H'' => Ex H' H'' ∧ H'' D = some (.lst (((((partsP s).take j).filterMap (·.2)).map fun b => (cntB b : Int)).map V.int))) ?_ (fun j H'' _ ⟨z, _⟩ => sqt_ex (same_ex z) eT) ?_ ?_
      · exact ⟨Ex.new nD, upd_same⟩
      · rintro j v H'' hj ⟨z, hD⟩
        obtain ⟨⟨pd, po⟩, hpp, hvd⟩ := part_get hy hj
        have hvd := hvd.mono (same_ex ((e.trans k).trans z))
        have htk : (partsP s).take (j + 1) = (partsP s).take j ++ [(pd, po)] := by
          rw [List.take_succ, hpp]
          rfl
        refine ⟨rfl, _, rfl, isi_l hvd ⟨_, rfl, ?_⟩⟩
        rcases parts_ok (List.mem_of_getElem? hpp) with ⟨h1, h2⟩ | ⟨b', h1, h2, h3, h4⟩
        · refine ite2 (fun h => ?_) (fun _ => ⟨z, ?_⟩)
          · simp only [h1] at h
            cases h
          · rw [htk, List.filterMap_append]
            simp only [h2, List.filterMap_cons_none, List.filterMap_nil, List.append_nil]
            exact hD
        · subst h1 h2
          refine ite2 (fun h => ?_) (fun h => (h rfl).elim)
          have hnd := nst_mem hst
          obtain ⟨d', rfl⟩ : ∃ d', d = d' + 1 := ⟨d - 1, by omega⟩
          obtain ⟨v', rfl⟩ : ∃ v', v = .ref v' := by cases hvd with | lst h _ => exact ⟨_, rfl⟩
          refine ⟨_, rfl, v', H'', b', rfl, Ex.refl _, hvd, by omega, fun H3 z3 => ⟨_, z3 _ _ hD, ?_, ?_, ?_⟩⟩
          · rw [List.length_map, List.length_map]
            have := (List.length_filterMap_le (·.2) ((partsP s).take j))
            have h3 : (partsP s).length ≤ 3 := by cases s <;> simp only [partsP, List.length_cons, List.length_nil] <;> omega
            have e3z : (5 : Nat) < sizeLine := by decide
            rw [List.length_take] at this
            omega
          · intro a o ha
            rw [upd_ne (ne_of_none ha nD)]
            exact z3 _ _ (z _ _ ha)
          · rw [upd_same, htk, List.filterMap_append, List.map_append, List.map_append]
            rfl
      · rintro H'' ⟨z, hD⟩
        have hl : ys.length = (partsP s).length := by
          have := dqa_len hy
          rw [List.length_map] at this
          exact this
        rw [hl, List.take_of_length_le (Nat.le_refl _)] at hD
        have sm : ∀ l : List (List Stp), (l.map fun b => (cntB b : Int)).sum = ((l.map cntB).sum : Nat) := fun l => by
          induction l with
          | nil => rfl
          | cons a r ih => simp only [List.map_cons, List.sum_cons, ih]; omega
        have key : ((cntB (b.take i) : Int) + 1 + (((partsP s).filterMap (·.2)).map fun b => (cntB b : Int)).sum) = (cntB (b.take (i + 1)) : Int) := by
          rw [sm, cntB_take hs, cnt_parts]
          omega
        refine ⟨D, _, rfl, SqL.of hD, _, _, rfl, rfl, some (.ref ta), ?_, k.trans z⟩
        show [some (V.ref p), some (V.int _), some (V.ref ta), none] = _
        rw [key]
    · rintro σ H' ⟨t, rfl, k⟩
      rw [hlen, List.take_of_length_le (Nat.le_refl _)]
      exact ⟨_, rfl, q H' k⟩
theorem ok_cnt0 (F : Fun K "_law_count" "_law_count" sCnt f fd) : FnOk P w K mg base CX0 1 f fd ["body"] spNo :=
  F.ok scCnt (fun vs H Q E h => h.elim) (fun cdv A outer s H vs Q E hr h => h.elim)
theorem ok_cnt (F : Fun K "_law_count" "_law_count" sCnt f fd) (mC : mg "_law_count" = some (.ref f)) (kC : PySem.W.keepIn K (.ref f) = true) (bC : Binds K fd ["body"] [])
    (mS : mg "sum" = none) (mI : mg "isinstance" = none) (mL : mg "list" = none) : ∀ d : Nat, FnOk P w K mg base CX0 (d + 2) f fd ["body"] (spCnt K d)
  | 0 => ok_cnt1 F (ok_cnt0 F) mC kC bC mS mI mL
  | d + 1 => ok_cnt1 F (ok_cnt F mC kC bC mS mI mL d) mC kC bC mS mI mL
theorem ok_cop0 (F : Fun K "_law_copied" "_law_copied" sCop f fd) : FnOk P w K mg base CX0 1 f fd ["body"] spNo :=
  F.ok scCop (fun vs H Q E h => h.elim) (fun cdv A outer s H vs Q E hr h => h.elim)
theorem ok_cop1 {d : Nat} (F : Fun K "_law_copied" "_law_copied" sCop f fd) (FC : FnOk P w K mg base CX0 (d + 1) f fd ["body"] (spCopP K d)) (mC : mg "_law_copied" = some (.ref f)) (kC : PySem.W.keepIn K (.ref f) = true) (bC : Binds K fd ["body"] [])
    (mT : mg "tuple" = none) (mI : mg "isinstance" = none) (mL : mg "list" = none) : FnOk P w K mg base CX0 (d + 2) f fd ["body"] (spCop K d) := by
  refine F.ok scCop (fun vs H Q E h => ?_) (fun cdv A outer s H vs Q E hr h => ?_)
  · obtain ⟨_, _, _, rfl, _⟩ := h
    rfl
  · obtain ⟨p, G, b, rfl, e, hd, hn, hc, q⟩ := h
    refine ⟨_, pss_cons (ps_set (i := 1) scCop.nd rfl (Or.inl rfl) (pe_lst pa_nil))
      (pss_cons (ps_for PassesOwn.never rfl (pi_list (pv 0)) (pg_name (i := 2) scCop.nd rfl (Or.inl rfl))
        (pss_one (ps_expr (pe_bm PySem.F.plainAttrs_list PySem.F.slot_list_append PySem.F.type_list_append mt_append (pv 1) (pa_cons (pe_tupleOf (by rfl) mT (pe_lc (own := [("part", 3)]) (g := gName 3) rfl scCop.nd (pi_tup (pv 2))
            (blkOk_by (own := [("part", 3)]) (N := ["body", "found", "step", "part"]) (sc := defScope sCop) (by decide +kernel))
            (fun _ _ _ _ _ => pg_name (i := 3) scCop.nd rfl (Or.inl rfl)) (fun _ _ _ _ _ => pts_nil)
            (fun _ _ _ _ _ => pe_ifExp (pt_val (pe_callB (isi_S (K := K)) (by rfl) mI PyProof.Rows.boot_isinstance (pa_cons (pv 3) (pa_cons (pe_bltn (v := .ty "list") (by rfl) mL (by decide +kernel) rfl) pa_nil)))) (pe_call FC hr rfl mC kC bC .nil pass0 (pa_cons (pv 3) pa_nil)) (pv 3)))) pa_nil)))))
      (pss_one (ps_ret (pv 1)))), ?_⟩
    cases hd with
    | @lst _ xs _ hp hx =>
    have hlen : xs.length = b.length := by
      have := dqa_len hx
      rw [bodyD_map, List.length_map] at this
      exact this
    refine ⟨by show 0 ≤ sizeLine; decide, fun F nF => ⟨_, rfl, p, rfl, ⟨_, SqL.of (Ex.new nF _ _ (e _ _ hp))⟩, ?_⟩⟩
    refine for_list (K := K) (a := p) (xs := xs) (fun i σ H' => ∃ (t : Option V) (M : Hp) (acc : List V), σ = [some (.ref p), some (.ref F), t, none] ∧ New H H' M ∧ H' F = some (.lst acc) ∧ M F = none ∧ FrA K H M acc (bodyD (b.take i))) ?_ (fun i σ H' _ ⟨_, _, _, _, k, _⟩ => SqL.of (k.hh _ _ (e _ _ hp))) ?_ ?_
    · exact ⟨none, emp, [], rfl, New.refl.own nF, upd_same, rfl, by simp only [List.take_zero, bodyD]; exact FrA.nil⟩
    · rintro i x σ H' hi ⟨t, M, acc, rfl, k, hF, mF, ha⟩
      obtain ⟨s, hs, hv⟩ := body_get hx hi
      obtain ⟨ta, ys, rfl, hT, hy⟩ := step_at hv
      have eT : SqT K H' ta ys := sqt_ex (same_ex (e.trans k.hh)) hT
      have hst : s ∈ b := List.mem_of_getElem? hs
      refine ⟨_, rfl, .inl ⟨rfl, _, SqL.of hF⟩, _, rfl, ta, rfl, ⟨_, eT⟩, fun D nD => ?_⟩
      refine lc_tup (K := K) (a := ta) (xs := ys) (fun j H'' => ∃ (M2 : Hp) (zs : List V), New H' H'' M2 ∧ H'' D = some (.lst zs) ∧ M2 D = none ∧ FrA K H' M2 zs (((partsP s).take j).map (·.1))) ?_ (fun j H'' _ ⟨_, _, z, _⟩ => sqt_ex (same_ex z.hh) eT) ?_ ?_
      · exact ⟨emp, [], New.refl.own nD, upd_same, rfl, FrA.nil⟩
      · rintro j v H'' hj ⟨M2, zs, z, hD, mD, hz⟩
        obtain ⟨⟨pd, po⟩, hpp, hvd⟩ := part_get hy hj
        have hvg := hvd
        have hvd := hvd.mono (same_ex ((e.trans k.hh).trans z.hh))
        have htk : (partsP s).take (j + 1) = (partsP s).take j ++ [(pd, po)] := by
          rw [List.take_succ, hpp]
          rfl
        have h3 : (partsP s).length ≤ 3 := by cases s <;> simp only [partsP, List.length_cons, List.length_nil] <;> omega
        have hzl : zs.length < sizeLine := by
          have := dqa_len hz.dq
          rw [List.length_map, List.length_take] at this
          have e3z : (5 : Nat) < sizeLine := by decide
          omega
        have fin : ∀ (v3 : V) (H3 M3 : Hp), New H'' H3 M3 → FrN K H'' M3 v3 pd → ∃ acc, H3 D = some (.lst acc) ∧ acc.length < sizeLine ∧ ∃ (M2 : Hp) (zs : List V), New H' (upd H3 D (.lst (acc ++ [v3]))) M2 ∧ (upd H3 D (.lst (acc ++ [v3]))) D = some (.lst zs) ∧ M2 D = none ∧ FrA K H' M2 zs (((partsP s).take (j + 1)).map (·.1)) := by
          intro v3 H3 M3 k3 h3
          have hD3 := k3.hh _ _ hD
          have mD3 : join M2 M3 D = none := join_none mD (k3.fr _ _ hD)
          refine ⟨zs, hD3, hzl, join M2 M3, zs ++ [v3], (z.trans k3).wr nD mD3, upd_same, mD3, ?_⟩
          rw [htk, List.map_append]
          exact FrA.app z hz join_l (z.right k3) h3
        refine ⟨rfl, _, rfl, isi_l hvd ⟨_, rfl, ?_⟩⟩
        rcases parts_ok (List.mem_of_getElem? hpp) with ⟨h1, h2⟩ | ⟨b', h1, h2, h3, h4⟩
        · refine ite2 (fun h => ?_) (fun _ => ?_)
          · simp only [h1] at h
            cases h
          · exact ⟨_, rfl, fin v H'' emp New.refl (FrN.flat (parts_flat (List.mem_of_getElem? hpp) h1) (flat_dq (parts_flat (List.mem_of_getElem? hpp) h1) hvg))⟩
        · subst h1 h2
          refine ite2 (fun h => ?_) (fun h => (h rfl).elim)
          have hnd := nst_mem hst
          obtain ⟨d', rfl⟩ : ∃ d', d = d' + 1 := ⟨d - 1, by omega⟩
          obtain ⟨v', rfl⟩ : ∃ v', v = .ref v' := by cases hvd with | lst h _ => exact ⟨_, rfl⟩
          exact ⟨_, rfl, v', H'', b', rfl, Ex.refl _, hvd, by omega, (by have := cnt_mem hst; omega), fun p3 H3 M3 k3 h3 => fin _ H3 M3 k3 h3⟩
      · rintro H'' ⟨M2, zs, z, hD, mD, hz⟩
        have hl : ys.length = (partsP s).length := by
          have := dqa_len hy
          rw [List.length_map] at this
          exact this
        rw [hl, List.take_of_length_le (Nat.le_refl _)] at hz
        refine .inl ⟨D, zs, rfl, SqL.of hD, fun tp ntp => ?_⟩
        have hF2 := z.hh _ _ hF
        have fT : F ≠ tp := ne_of_none hF2 ntp
        have kk := k.trans (z.put (o := .tup zs) ntp)
        have mF2 : join M (upd M2 tp (.tup zs)) F = none := join_none mF (by rw [upd_ne fT]; exact z.fr _ _ hF)
        have hal : acc.length < sizeLine := by
          have := dqa_len ha.dq
          rw [bodyD_map, List.length_map, List.length_take] at this
          have h2 := (List.getElem?_eq_some_iff.mp hi).1
          have h3 := len_cnt b
          have e3z : (5000 : Nat) < sizeLine := by decide
          omega
        refine ⟨F, acc, .ref tp, rfl, rfl, by rw [upd_ne fT]; exact hF2, hal, some (.ref ta), _, acc ++ [.ref tp], rfl, kk.wr nF mF2, upd_same, mF2, ?_⟩
        rw [bodyD_map, List.take_succ, hs, List.map_append, ← bodyD_map]
        refine FrA.app k ha join_l (k.right (z.put (o := .tup zs) ntp)) ?_
        show FrN K _ _ _ (stpD s)
        rw [stpD_parts]
        exact FrN.tup hz (Ex.new (z.none ntp)) upd_same
    · rintro σ H' ⟨t, M, acc, rfl, k, hF, mF, ha⟩
      rw [hlen, List.take_of_length_le (Nat.le_refl _)] at ha
      exact ⟨_, rfl, q F H' _ (k.frz nF hF) (FrN.lst ha mF nF)⟩
theorem ok_cop (F : Fun K "_law_copied" "_law_copied" sCop f fd) (mC : mg "_law_copied" = some (.ref f)) (kC : PySem.W.keepIn K (.ref f) = true) (bC : Binds K fd ["body"] [])
    (mT : mg "tuple" = none) (mI : mg "isinstance" = none) (mL : mg "list" = none) : ∀ d : Nat, FnOk P w K mg base CX0 (d + 2) f fd ["body"] (spCop K d)
  | 0 => ok_cop1 F (ok_cop0 F) mC kC bC mT mI mL
  | d + 1 => ok_cop1 F (ok_cop F mC kC bC mT mI mL d) mC kC bC mT mI mL
end
end Lx

set_option Elab.async false
set_option maxRecDepth 100000
set_option linter.all false
set_option maxHeartbeats 4000000
namespace Lx
open PySem PySem.Spec PyProof.Rows L2 Evl Kx
section
variable {P : Program} {w : World} {K : PySem.W.Frag} {mg : Str → Option Value} {base : Heap} {f : Addr} {fd : FuncData}
abbrev sPrt : Stmt := top 77
theorem scPrt : FnScope ["generator", "many", "most", "rights", "owners", "names", "functions", "name", "body"] ["generator", "many", "most"] (defScope sPrt) := ⟨rfl, rfl, rfl, by decide +kernel, rfl, by decide +kernel, by decide +kernel⟩
structure spPrt (K : PySem.W.Frag) (vs : List V) (H : Hp) (Q : VK) (E_ : XK) : Prop where
  mk' ::
  out : ∃ (g : Addr) (n : Nat) (G : Hp) (many most : Nat), vs = [.ref g, .int many, .int most] ∧ 1 ≤ many ∧ many ≤ 4 ∧ most ≤ 4 ∧ GenAt H g n ∧ n < 2 ^ 39 ∧ Ex G H ∧ G g = none ∧
  ∀ (p : Addr) G2 H2 (pt : Prt), KS g G H G2 H2 (n + 4000) → Dq K G2 (.ref p) (prtD pt) → PrtOk many pt → Q (.ref p) H2
theorem rts_k {g : Addr} {G0 H0 G H : Hp} {n : Nat} {Q : VK} {E : XK} (k : KS g G0 H0 G H n) (hn : n < 2 ^ 49)
    (q : ∀ (p : Addr) G2 H2 (c : Nat), KS g G0 H0 G2 H2 (n + 2) → ExtG g G H G2 H2 → G2 p = some (.lst ((rights3.take (c + 1)).map V.str)) → c < 3 → Q (.ref p) H2) : spRts [.ref g] H Q E :=
  ⟨g, n, G, rfl, k.gen, hn, k.x.gh, k.off, fun p G2 H2 c k2 => q p G2 H2 c (k.then k2) k2.x⟩
theorem ows_k {g pr : Addr} {G0 H0 G H : Hp} {n : Nat} {rs : List Str} {Q : VK} {E : XK} (k : KS g G0 H0 G H n) (hn : n < 2 ^ 49) (hpr : G pr = some (.lst (rs.map V.str))) (hl : rs.length ≤ 3) (hd : rs.Nodup)
    (q : ∀ (p : Addr) G2 H2 (os : List Own), KS g G0 H0 G2 H2 (n + 40) → ExtG g G H G2 H2 → Dq K G2 (.ref p) (.list (os.map ownD)) → OwnsOk rs os → Q (.ref p) H2) : spOws K [.ref g, .ref pr] H Q E :=
  ⟨g, pr, n, G, rs, rfl, k.gen, hn, k.x.gh, k.off, hpr, hl, hd, fun p G2 H2 c k2 => q p G2 H2 c (k.then k2) k2.x⟩
end
end Lx

set_option Elab.async false
set_option maxRecDepth 100000
set_option linter.all false
set_option maxHeartbeats 4000000
namespace Lx
open PySem PySem.Spec PyProof.Rows L2 Evl Kx
section
variable {P : Program} {w : World} {K : PySem.W.Frag} {mg : Str → Option Value} {base : Heap} {f : Addr} {fd : FuncData}
abbrev sNm : Stmt := top 5
abbrev sTp : Stmt := top 6
def letters : Str := "abcdefghijklmnopqrstuvwxyz"
def nameD : PyData → Bool
  | .str z => decide (1 ≤ z.length) && decide (z.length ≤ 8) && z.cps.toList.all fun c => decide (c ∈ letters.cps.toList)
  | _ => false
def strOk (d : PyData) : Prop := ∀ z, d = .str z → z.length ≤ sizeLine
theorem scNm : FnScope ["value", "sign"] ["value"] (defScope sNm) := ⟨rfl, rfl, rfl, by decide +kernel, rfl, by decide +kernel, by decide +kernel⟩
theorem scTp : FnScope ["value", "size"] ["value", "size"] (defScope sTp) := ⟨rfl, rfl, rfl, by decide +kernel, rfl, by decide +kernel, by decide +kernel⟩
/-- what only answers: bd of the data at the first place -/
structure spNm (K : PySem.W.Frag) (vs : List V) (H : Hp) (Q : VK) (E_ : XK) : Prop where
  mk' ::
  out : ∃ v d, vs = [v] ∧ Dq K H v d ∧ strOk d ∧ ∀ H2, Ex H H2 → Q (.bl (nameD d)) H2
theorem ok_nm {tk : Value} (F : Fun K "is_name" "is_name" sNm f fd) (mL : mg "len" = none) (mI : mg "isinstance" = none) (mS : mg "str" = none) (mA : mg "all" = none) (mT : mg "LETTERS" = some tk) (rT : RelV (.str letters) tk) {tn : Value} (mN : mg "LONGEST_NAME" = some tn) (rN : RelV (.int 8) tn) :
    FnOk P w K mg base CX0 1 f fd ["value"] (spNm K) := by
  refine F.ok scNm (fun vs H Q E h => ?_) (fun cdv A outer s H vs Q E hr h => ?_)
  · obtain ⟨_, _, rfl, _⟩ := h
    rfl
  · obtain ⟨v, d, rfl, hd, hz, q⟩ := h
    refine ⟨_, pss_cons (ps_if (PW.pt (pw_or (pt_not (pt_val (pe_callB (isi_S (K := K)) (by rfl) mI PyProof.Rows.boot_isinstance (pa_cons (pv 0) (pa_cons (pe_bltn (v := .ty "str") (by rfl) mS (by decide +kernel) rfl) pa_nil))))) (pw_or1 (pt_not (pt_chain op_le op_le pe_int (pe_callB call_len_str (by rfl) mL PySem.boot_len (pa_cons (pv 0) pa_nil)) (pe_glob (by rfl) mN rN)))))) (pss_one (ps_ret pe_bl)) pss_nil)
      (pss_one (ps_ret (pe_callB (cr_all rfl) (by rfl) mA (by decide +kernel) (pa_cons (pe_lc (own := [("sign", 1)]) (g := gName 1) rfl scNm.nd (pi_str (pv 0))
            (blkOk_by (own := [("sign", 1)]) (N := ["value", "sign"]) (sc := defScope sNm) (by decide +kernel))
            (fun _ _ _ _ _ => pg_name (i := 1) scNm.nd rfl (Or.inl rfl)) (fun _ _ _ _ _ => pts_nil)
            (fun _ _ _ _ _ => pe_cmpR op_in_sign (pv 1) (pe_glob (by rfl) mT rT) (by rfl))) pa_nil)))), ?_⟩
    refine ⟨_, rfl, isi_s hd ⟨_, rfl, ?_⟩⟩
    cases hd with
    | str z =>
      have hz := hz z rfl
      refine ite2 (fun h => Bool.noConfusion h) (fun _ => ⟨_, rfl, z, rfl, hz, _, _, rfl, rfl, _, rfl, ?_⟩)
      have hl : z.length = z.cps.toList.length := (Array.length_toList ..).symm
      refine ite2 (fun h1 => ⟨_, _, rfl, rfl, _, rfl, ?_⟩) (fun h1 => ⟨_, rfl, ?_⟩)
      · refine ite2 (fun h8 => ?_) (fun h8 => ?_)
        · have e : nameD (.str z) = false := by
            have : ¬ z.length ≤ 8 := fun y => by
              have e : decide ((z.length : Int) ≤ 8) = true := decide_eq_true (by omega)
              rw [e] at h8
              cases h8
            simp only [nameD, decide_eq_false this, Bool.and_false, Bool.false_and]
          have := q H (Ex.refl H)
          rw [e] at this
          exact this
        · have h1 : (1 : Int) ≤ z.length := of_decide_eq_true h1
          have h8 : z.length ≤ 8 := by
            have : (decide ((z.length : Int) ≤ 8)) = true := by
              cases y : decide ((z.length : Int) ≤ 8) with
              | true => rfl
              | false => exact (h8 (by rw [y]; rfl)).elim
            have := of_decide_eq_true this
            omega
          refine ⟨_, rfl, z, rfl, fun D nD => ?_⟩
          have e3z : (5000 : Nat) < sizeLine := by decide
          refine lc_text (x := z) (fun i H' => Ex H H' ∧ H' D = some (.lst (((z.cps.toList.take i).map fun c => decide (c ∈ letters.cps.toList)).map V.bl))) ?_ ?_ ?_
          · exact ⟨Ex.new nD, upd_same⟩
          · rintro i c H' hc ⟨x, hD⟩
            have hc' : z.cps.toList[i]? = some c := by
              rw [Array.getElem?_toList]
              exact hc
            refine ⟨rfl, _, rfl, c, letters, rfl, rfl, _, hD, ?_, ?_, ?_⟩
            · rw [List.length_map, List.length_map, List.length_take]
              omega
            · intro a o ha
              rw [upd_ne (ne_of_none ha nD)]
              exact x _ _ ha
            · rw [upd_same, List.take_succ, hc', List.map_append, List.map_append]
              rfl
          · rintro H' ⟨x, hD⟩
            have he : z.cps.toList.take z.cps.size = z.cps.toList := List.take_of_length_le (by rw [Array.length_toList]; exact Nat.le_refl _)
            rw [he] at hD
            refine ⟨D, _, rfl, SqL.of hD, ?_⟩
            have e : nameD (.str z) = ((z.cps.toList.map fun c => decide (c ∈ letters.cps.toList)).all id) := by
              have h1 : 1 ≤ z.length := by omega
              simp only [nameD, decide_eq_true h1, decide_eq_true h8, Bool.true_and, List.all_map]
              rfl
            have := q H' x
            rw [e] at this
            exact this
      · have e : nameD (.str z) = false := by
          have : ¬ 1 ≤ z.length := fun y => h1 (decide_eq_true (by omega))
          simp only [nameD, decide_eq_false this, Bool.false_and]
        have := q H (Ex.refl H)
        rw [e] at this
        exact ite2 (fun _ => this) (fun y => (y rfl).elim)
    | _ => exact ite2 (fun _ => q H (Ex.refl H)) (fun h => (h rfl).elim)
end
end Lx

set_option Elab.async false
set_option maxRecDepth 100000
set_option linter.all false
set_option maxHeartbeats 4000000
/-! KitB2: which data are bodies. -/
namespace Kx
open PySem PySem.Spec PyProof.Rows L2 Evl
def one1 (p : PyData → Bool) : List PyData → Bool
  | [a] => p a
  | _ => false
theorem one1_no {p : PyData → Bool} : ∀ {r : List PyData}, r.length ≠ 1 → one1 p r = false
  | [], _ => rfl
  | [_], h => absurd rfl h
  | _ :: _ :: _, _ => rfl
section
variable (ns rs : List Str)
mutual
def bodyF (mk : Bool) : PyData → Bool
  | .list xs => stepsF mk xs
  | _ => false
def stepsF (mk : Bool) : List PyData → Bool
  | [] => true
  | d :: r => stepF mk d && stepsF mk r
def stepF (mk : Bool) : PyData → Bool
  | .tuple xs => tupF mk xs
  | _ => false
def tupF (mk : Bool) : List PyData → Bool
  | [] => false
  | w :: r => if eqS w "call" then one1 (fun a => ns.any (eqS a)) r else if eqS w "tail" then one1 (fun a => ns.any (eqS a) && !mk) r else if eqS w "check" then one1 (fun a => rs.any (eqS a)) r
    else if eqS w "back" then r.isEmpty else nestF mk w r
def nestF (mk : Bool) (w : PyData) : List PyData → Bool
  | [a] => if eqS w "loop" then bodyF mk a else false
  | [a, b] => if eqS w "either" then bodyF mk a && bodyF mk b else if eqS w "block" then (match a with
      | .bool m => bodyF (mk || m) b
      | _ => false) else false
  | _ => false
end
end
theorem depth_mem {x : PyData} : ∀ {r : List PyData}, x ∈ r → x.depth ≤ PyData.depthAll r
  | y :: r, h => by
    simp only [PyData.depthAll]
    rcases List.mem_cons.mp h with rfl | h
    · omega
    · have := depth_mem h
      omega
theorem eqS_ne {w : PyData} {a b : Str} (h : eqS w a = true) (n : (a == b) = false) : eqS w b = false := by
  cases w with
  | str y =>
    have e : y = a := eq_of_beq h
    rw [e]
    exact n
  | _ => rfl
end Kx
namespace Kx
open PySem PySem.Spec PyProof.Rows L2 Evl
def onceF (ds : List PyData) : PyData → Bool
  | .str z => decide (ds.countP (fun d => eqS d z) = 1)
  | _ => false
def choiceF (rs : List Str) : PyData → Bool
  | .list ds => decide (ds.length ≤ rs.length) && ds.all fun x => rs.any (eqS x) && onceF ds x
  | _ => false
theorem any_str {rs : List Str} {d : PyData} (h : rs.any (eqS d) = true) : ∃ z, d = .str z ∧ z ∈ rs := by
  obtain ⟨w, hw, he⟩ := List.any_eq_true.mp h
  cases d with
  | str y =>
    have : y = w := eq_of_beq he
    exact ⟨y, rfl, this ▸ hw⟩
  | _ => cases he
end Kx
namespace Kx
open PySem PySem.Spec PyProof.Rows L2 Evl
section
variable {X : Cx} {K : PySem.W.Frag} {A : Around}
theorem op_inTsK (hu : A.units + 1 < cLine) (hA : X.A = A := by rfl) (h : X.K = K := by rfl) : OpR X (compareOp .In) (rInS K false) := h ▸ op_inTs (by rw [hA]; exact hu)
theorem op_eqSK (hu : A.units < cLine) (hA : X.A = A := by rfl) (h : X.K = K := by rfl) : OpR X (compareOp .Eq) (rEqS K) := h ▸ op_eqS (by rw [hA]; exact hu)
theorem mt_countSK (hu : A.units + 1 < cLine) (hA : X.A = A := by rfl) (h : X.K = K := by rfl) : MtR X "list.count" (rCntS K) := h ▸ mt_countS (by rw [hA]; exact hu)
theorem pe_bmK {o e : Expr} {es : List Expr} {to : TE} {t : TA} {name : Str} {apos cpos : Pos} {T id : String} {r : V → List V → Hp → VK → Prop} (pa : PlainAttrs T) (slot : Slot T name id) (hty : typeOf (.builtin id) = pure (.type "method_descriptor")) (hm : MtR X id r) (ho : PE X o to) (ha : PA X (e :: es) t) (h : X.K = K := by rfl)
    (hbase : attributeBase o name X.env (eval o X.env) = eval o X.env := by rfl)
    (hfew : ((backTo cpos (starEach (e :: es) X.env)).all (fun x => !x.1) && (backToKw cpos (keywordEach [] X.env)).all (fun x => x.1.isSome)
      && decide ((e :: es).length + ([] : List Keyword).length + (if ([] : List Keyword).isEmpty then 0 else 1) < 30)) = true := by rfl)
    (hline : (apos.endLine == cpos.line) = true := by rfl) (hs : starEach (e :: es) X.env = (false, eval e X.env) :: starEach es X.env := by rfl) (hplain : (backTo cpos (starEach es X.env)).any (·.1) = false := by rfl) :
    PE X (.Call (.Attribute o name apos) (e :: es) [] cpos) (tBM K T r to t) := h ▸ pe_bm pa slot hty hm ho ha hbase hfew hline hs hplain
end
end Kx
namespace Kx
open PySem PySem.Spec PyProof.Rows L2 Evl
section
variable {X : Cx} {K : PySem.W.Frag}
theorem pg_tupK {es : List Expr} {k : Nat} {t : TGs} {n : Nat} {pos : Pos} (hc : X.calm = true) (h : PGs X es t) (hK : X.K = K := by rfl) (hn : (assignEach es X.env).length = n := by rfl) (hst : (assignEach es X.env).findIdx? (·.1) = none := by rfl) : PG X (.Tuple es k pos) (gTup K n t) := hK ▸ pg_tup hc h hn hst
theorem call_listK (h : X.K = K := by rfl) : CallR X (.type "list") (rListS K) := h ▸ call_list_of
end
end Kx

set_option Elab.async false
set_option maxRecDepth 100000
set_option linter.all false
set_option maxHeartbeats 4000000
namespace Lx
open PySem PySem.Spec PyProof.Rows L2 Evl Kx
section
variable {P : Program} {w : World} {K : PySem.W.Frag} {mg : Str → Option Value} {base : Heap} {f : Addr} {fd : FuncData}
abbrev sBd : Stmt := top 7
abbrev sSt : Stmt := top 8
abbrev sNs : Stmt := top 9
theorem scBd : FnScope ["value", "names", "rights", "marked", "step"] ["value", "names", "rights", "marked"] (defScope sBd) := ⟨rfl, rfl, rfl, by decide +kernel, rfl, by decide +kernel, by decide +kernel⟩
theorem scSt : FnScope ["value", "names", "rights", "marked", "word"] ["value", "names", "rights", "marked"] (defScope sSt) := ⟨rfl, rfl, rfl, by decide +kernel, rfl, by decide +kernel, by decide +kernel⟩
theorem scNs : FnScope ["value", "names", "rights", "marked", "word", "fits", "part"] ["value", "names", "rights", "marked"] (defScope sNs) := ⟨rfl, rfl, rfl, by decide +kernel, rfl, by decide +kernel, by decide +kernel⟩
def tupN (n : Nat) : PyData → Bool
  | .tuple xs => decide (xs.length = n)
  | _ => false
structure spTp (K : PySem.W.Frag) (vs : List V) (H : Hp) (Q : VK) (E_ : XK) : Prop where
  mk' ::
  out : ∃ v d n, vs = [v, .int (n : Nat)] ∧ Dq K H v d ∧ Q (.bl (tupN n d)) H
theorem ok_tp (F : Fun K "is_tuple_of" "is_tuple_of" sTp f fd) (mL : mg "len" = none) (mI : mg "isinstance" = none) (mT : mg "tuple" = none) : FnOk P w K mg base CX0 1 f fd ["value", "size"] (spTp K) := by
  refine F.ok scTp (fun vs H Q E h => ?_) (fun cdv A outer s H vs Q E hr h => ?_)
  · obtain ⟨_, _, _, rfl, _⟩ := h
    rfl
  · obtain ⟨v, d, n, rfl, hd, q⟩ := h
    refine ⟨_, pss_one (ps_ret (pe_and (pe_callB (isi_S (K := K)) (by rfl) mI PyProof.Rows.boot_isinstance (pa_cons (pv 0) (pa_cons (pe_bltn (v := .ty "tuple") (by rfl) mT (by decide +kernel) rfl) pa_nil)))
      (pe_one (pe_cmpR op_eq (pe_callB call_len_seq (by rfl) mL PySem.boot_len (pa_cons (pv 0) pa_nil)) (pv 1) (nomark _))))), ?_⟩
    refine ⟨_, rfl, isi_t hd ⟨_, rfl, ?_⟩⟩
    cases hd with
    | @tup a xs ds hT hx =>
      refine ite2 (fun _ => ⟨_, rfl, a, xs, rfl, .inr hT, _, rfl, rfl, ?_⟩) (fun h => (h rfl).elim)
      have e : tupN n (.tuple ds) = decide (V.int xs.length = V.int n) := by
        rw [dqa_len hx]
        simp only [tupN, V.int.injEq]
        rw [Bool.eq_iff_iff, decide_eq_true_eq, decide_eq_true_eq]
        omega
      rw [e] at q
      exact q
    | _ => exact ite2 (fun h => Bool.noConfusion h) (fun _ => q)
/-- bodies, steps and nests: n bounds how deep the data is -/
structure spV (K : PySem.W.Frag) (g : List Str → List Str → Bool → PyData → Bool) (pre : PyData → Prop) (n : Nat) (vs : List V) (H : Hp) (Q : VK) (E_ : XK) : Prop where
  mk' ::
  out : ∃ v d pn pr ns rs mk, vs = [v, .ref pn, .ref pr, .bl mk] ∧ Dq K H v d ∧ d.depth ≤ n ∧ pre d ∧ H pn = some (.lst (ns.map V.str)) ∧ H pr = some (.lst (rs.map V.str)) ∧ ∀ H2, Ex H H2 → Q (.bl (g ns rs mk d)) H2
theorem one_of {H : Hp} {v0 : V} {vr : List V} {r : List PyData} (h : decide (V.int ((v0 :: vr).length : Nat) = V.int 2) = true) (h2 : DqA K H vr r) : ∃ a1 u1, r = [a1] ∧ vr = [u1] ∧ Dq K H u1 a1 := by
  have h := of_decide_eq_true h
  simp only [V.int.injEq, List.length_cons] at h
  cases h2 with
  | nil => simp only [List.length_nil] at h; omega
  | cons x y =>
    cases y with
    | nil => exact ⟨_, _, rfl, rfl, x⟩
    | cons x' y' => simp only [List.length_cons] at h; omega
theorem not_one {H : Hp} {v0 : V} {vr : List V} {r : List PyData} (h : ¬ decide (V.int ((v0 :: vr).length : Nat) = V.int 2) = true) (h2 : DqA K H vr r) : r.length ≠ 1 := fun z => h (decide_eq_true (by
  have := dqa_len h2
  simp only [V.int.injEq, List.length_cons]
  omega))
def preN (d : PyData) : Prop := ∃ w r, d = .tuple (w :: r)
def nestG (ns rs : List Str) (mk : Bool) : PyData → Bool
  | .tuple (w :: r) => nestF ns rs mk w r
  | _ => false
theorem ok_st {n : Nat} {fN : Addr} {fdN : FuncData} (F : Fun K "is_step" "is_step" sSt f fd) (FN : FnOk P w K mg base CX0 (3 * n + 2) fN fdN ["value", "names", "rights", "marked"] (spV K nestG preN n)) (mN : mg "is_nest" = some (.ref fN)) (kN : PySem.W.keepIn K (.ref fN) = true) (bN : Binds K fdN ["value", "names", "rights", "marked"] [])
    (mL : mg "len" = none) (mI : mg "isinstance" = none) (mT : mg "tuple" = none) : FnOk P w K mg base CX0 (3 * n + 3) f fd ["value", "names", "rights", "marked"] (spV K (fun ns rs => stepF ns rs) (fun _ => True) n) := by
  refine F.ok scSt (fun vs H Q E h => ?_) (fun cdv A outer s H vs Q E hr h => ?_)
  · obtain ⟨_, _, _, _, _, _, _, rfl, _⟩ := h
    rfl
  · obtain ⟨v, d, pn, pr, ns, rs, mk, rfl, hd, hn, _, hpn, hpr, q⟩ := h
    have hu := hr.units0
    have hu1 : _ + 1 < cLine := Nat.lt_of_le_of_lt (Nat.add_le_add_left (by decide : 1 ≤ 64) _) hr.units
    refine ⟨_, pss_cons (ps_if (PW.pt (pw_or (pt_not (pt_val (pe_callB (isi_S (K := K)) (by rfl) mI PyProof.Rows.boot_isinstance (pa_cons (pv 0) (pa_cons (pe_bltn (v := .ty "tuple") (by rfl) mT (by decide +kernel) rfl) pa_nil))))) (pw_or1 (pt_cmpR op_eq (pe_callB call_len_seq (by rfl) mL PySem.boot_len (pa_cons (pv 0) pa_nil)) pe_int (nomark _))))) (pss_one (ps_ret pe_bl)) pss_nil)
      (pss_cons (ps_set (i := 4) scSt.nd rfl (Or.inl rfl) (pe_ix ix_tup (pv 0) pe_int (fun _ _ => rfl)))
      (pss_cons (ps_if (pt_cmpR (op_eqS hu) (pv 4) pe_str (nomark _)) (pss_one (ps_ret (pe_and (pe_cmpR op_eq (pe_callB call_len_seq (by rfl) mL PySem.boot_len (pa_cons (pv 0) pa_nil)) pe_int (nomark _)) (pe_one (pe_cmpR (op_inTs hu1) (pe_ix ix_tup (pv 0) pe_int (fun _ _ => rfl)) (pv 1) (by rfl)))))) pss_nil)
      (pss_cons (ps_if (pt_cmpR (op_eqS hu) (pv 4) pe_str (nomark _)) (pss_one (ps_ret (pe_and (pe_cmpR op_eq (pe_callB call_len_seq (by rfl) mL PySem.boot_len (pa_cons (pv 0) pa_nil)) pe_int (nomark _)) (pe_and (pe_cmpR (op_inTs hu1) (pe_ix ix_tup (pv 0) pe_int (fun _ _ => rfl)) (pv 1) (by rfl)) (pe_one (pe_not (pv 3))))))) pss_nil)
      (pss_cons (ps_if (pt_cmpR (op_eqS hu) (pv 4) pe_str (nomark _)) (pss_one (ps_ret (pe_and (pe_cmpR op_eq (pe_callB call_len_seq (by rfl) mL PySem.boot_len (pa_cons (pv 0) pa_nil)) pe_int (nomark _)) (pe_one (pe_cmpR (op_inTs hu1) (pe_ix ix_tup (pv 0) pe_int (fun _ _ => rfl)) (pv 2) (by rfl)))))) pss_nil)
      (pss_cons (ps_if (pt_cmpR (op_eqS hu) (pv 4) pe_str (nomark _)) (pss_one (ps_ret (pe_cmpR op_eq (pe_callB call_len_seq (by rfl) mL PySem.boot_len (pa_cons (pv 0) pa_nil)) pe_int (nomark _)))) pss_nil)
      (pss_one (ps_ret (pe_call FN hr rfl mN kN bN .nil pass0 (pa_cons (pv 0) (pa_cons (pv 1) (pa_cons (pv 2) (pa_cons (pv 3) pa_nil)))))))))))), ?_⟩
    refine ⟨_, rfl, isi_t hd ⟨_, rfl, ?_⟩⟩
    cases hd with
    | @tup a xs ds hT hx =>
      have hl := dqa_len hx
      refine ite2 (fun h => Bool.noConfusion h) (fun _ => ⟨_, rfl, a, xs, rfl, .inr hT, rfl, _, rfl, ite2 (fun h0 => ?_) (fun h0 => ?_)⟩)
      · have : ds = [] := List.eq_nil_of_length_eq_zero (by
          have := of_decide_eq_true h0
          simp only [V.int.injEq] at this
          omega)
        subst this
        have := q H (Ex.refl H)
        simp only [stepF, tupF] at this
        exact this
      · cases hx with
        | nil => exact (h0 rfl).elim
        | @cons v0 vr w r h1 h2 =>
          have hl2 := dqa_len h2
          refine ⟨_, rfl, a, _, 0, v0, rfl, rfl, hT, atI_nat (j := 0) rfl, ?_⟩
          refine ⟨_, rfl, w, _, h1, rfl, _, rfl, ite2 (fun hc => ?_) (fun hc => ?_)⟩
          · have E : stepF ns rs mk (.tuple (w :: r)) = one1 (fun a => ns.any (eqS a)) r := by simp only [stepF, tupF, hc, if_true]
            simp only [E] at q
            refine ⟨_, rfl, a, _, rfl, .inr hT, rfl, _, rfl, ite2 (fun hn2 => ?_) (fun hn2 => ?_)⟩
            · obtain ⟨a1, u1, rfl, rfl, ha1⟩ := one_of hn2 h2
              exact ⟨_, rfl, a, _, 1, u1, rfl, rfl, hT, atI_nat (j := 1) rfl, _, rfl, a1, ns, pn, ha1, rfl, SqL.of hpn, q H (Ex.refl H)⟩
            · have := q H (Ex.refl H)
              rw [one1_no (not_one hn2 h2)] at this
              exact this
          refine ⟨_, rfl, w, _, h1, rfl, _, rfl, ite2 (fun ht => ?_) (fun ht => ?_)⟩
          · have E : stepF ns rs mk (.tuple (w :: r)) = one1 (fun a => ns.any (eqS a) && !mk) r := by simp only [stepF, tupF, hc, ht, if_true]; rfl
            simp only [E] at q
            refine ⟨_, rfl, a, _, rfl, .inr hT, rfl, _, rfl, ite2 (fun hn2 => ?_) (fun hn2 => ?_)⟩
            · obtain ⟨a1, u1, rfl, rfl, ha1⟩ := one_of hn2 h2
              have q := q H (Ex.refl H)
              simp only [one1] at q
              refine ⟨_, rfl, a, _, 1, u1, rfl, rfl, hT, atI_nat (j := 1) rfl, _, rfl, a1, ns, pn, ha1, rfl, SqL.of hpn, _, rfl, ite2 (fun hi => ⟨_, rfl, _, rfl, ?_⟩) (fun hi => ?_)⟩
              · have hi : ns.any (eqS a1) = true := by simpa using hi
                rw [hi] at q
                exact q
              · have hi : ns.any (eqS a1) = false := by simpa using hi
                rw [hi] at q
                exact q
            · have := q H (Ex.refl H)
              rw [one1_no (not_one hn2 h2)] at this
              exact this
          refine ⟨_, rfl, w, _, h1, rfl, _, rfl, ite2 (fun hk => ?_) (fun hk => ?_)⟩
          · have E : stepF ns rs mk (.tuple (w :: r)) = one1 (fun a => rs.any (eqS a)) r := by simp only [stepF, tupF, hc, ht, hk, if_true]; rfl
            simp only [E] at q
            refine ⟨_, rfl, a, _, rfl, .inr hT, rfl, _, rfl, ite2 (fun hn2 => ?_) (fun hn2 => ?_)⟩
            · obtain ⟨a1, u1, rfl, rfl, ha1⟩ := one_of hn2 h2
              exact ⟨_, rfl, a, _, 1, u1, rfl, rfl, hT, atI_nat (j := 1) rfl, _, rfl, a1, rs, pr, ha1, rfl, SqL.of hpr, q H (Ex.refl H)⟩
            · have := q H (Ex.refl H)
              rw [one1_no (not_one hn2 h2)] at this
              exact this
          refine ⟨_, rfl, w, _, h1, rfl, _, rfl, ite2 (fun hb => ?_) (fun hb => ?_)⟩
          · have E : stepF ns rs mk (.tuple (w :: r)) = r.isEmpty := by simp only [stepF, tupF, hc, ht, hk, hb, if_true]; rfl
            simp only [E] at q
            refine ⟨_, rfl, a, _, rfl, .inr hT, rfl, ?_⟩
            have e : r.isEmpty = decide (V.int ((v0 :: vr).length : Nat) = V.int 1) := by
              rw [Bool.eq_iff_iff, decide_eq_true_eq, List.isEmpty_iff_length_eq_zero, V.int.injEq]
              simp only [List.length_cons]
              omega
            rw [e] at q
            exact q H (Ex.refl H)
          · have E : stepF ns rs mk (.tuple (w :: r)) = nestG ns rs mk (.tuple (w :: r)) := by simp only [stepF, tupF, nestG, hc, ht, hk, hb]; rfl
            simp only [E] at q
            exact ⟨_, rfl, _, rfl, _, rfl, _, rfl, _, _, pn, pr, ns, rs, mk, rfl, .tup hT (.cons h1 h2), hn, ⟨w, r, rfl⟩, hpn, hpr, q⟩
    | _ =>
      have := q H (Ex.refl H)
      simp only [stepF] at this
      exact ite2 (fun _ => this) (fun h => (h rfl).elim)
theorem two_of {H : Hp} {v0 : V} {vr : List V} {r : List PyData} (h : decide (V.int ((v0 :: vr).length : Nat) = V.int 3) = true) (h2 : DqA K H vr r) : ∃ a1 a2 u1 u2, r = [a1, a2] ∧ vr = [u1, u2] ∧ Dq K H u1 a1 ∧ Dq K H u2 a2 := by
  have h := of_decide_eq_true h
  simp only [V.int.injEq, List.length_cons] at h
  cases h2 with
  | nil => simp only [List.length_nil] at h; omega
  | cons x y =>
    cases y with
    | nil => simp only [List.length_cons, List.length_nil] at h; omega
    | cons x' y' =>
      cases y' with
      | nil => exact ⟨_, _, _, _, rfl, rfl, x, x'⟩
      | cons _ _ => simp only [List.length_cons] at h; omega
theorem not_two {H : Hp} {v0 : V} {vr : List V} {r : List PyData} (h : ¬ decide (V.int ((v0 :: vr).length : Nat) = V.int 3) = true) (h2 : DqA K H vr r) : r.length ≠ 2 := fun z => h (decide_eq_true (by
  have := dqa_len h2
  simp only [V.int.injEq, List.length_cons]
  omega))
def bodG (ns rs : List Str) (mk : Bool) (d : PyData) : Bool := bodyF ns rs mk d
def spVP (K : PySem.W.Frag) : Nat → Sp
  | 0 => spNo
  | n + 1 => spV K bodG (fun _ => True) n
theorem ok_ns {n : Nat} {fB : Addr} {fdB : FuncData} {ds : List Value} (F : Fun K "is_nest" "is_nest" sNs f fd) (FB : FnOk P w K mg base CX0 (3 * n + 1) fB fdB ["value", "names", "rights", "marked"] (spVP K n)) (mB : mg "is_body" = some (.ref fB)) (kB : PySem.W.keepIn K (.ref fB) = true) (bB : Binds K fdB ["value", "names", "rights", "marked"] [])
    (mL : mg "len" = none) (mI : mg "isinstance" = none) (mBo : mg "bool" = none) (mA : mg "all" = none) : FnOk P w K mg base CX0 (3 * n + 2) f fd ["value", "names", "rights", "marked"] (spV K nestG preN n) := by
  refine F.ok scNs (fun vs H Q E h => ?_) (fun cdv A outer s H vs Q E hr h => ?_)
  · obtain ⟨_, _, _, _, _, _, _, rfl, _⟩ := h
    rfl
  · obtain ⟨v, d, pn, pr, ns, rs, mk, rfl, hd, hn, ⟨w, r, rfl⟩, hpn, hpr, q⟩ := h
    have hu := hr.units0
    refine ⟨_, pss_cons (ps_set (i := 4) scNs.nd rfl (Or.inl rfl) (pe_ix ix_tup (pv 0) pe_int (fun _ _ => rfl)))
      (pss_cons (ps_if (pt_cmpR (op_eqS hu) (pv 4) pe_str (nomark _)) (pss_one (ps_ret (pe_and (pe_cmpR op_eq (pe_callB call_len_seq (by rfl) mL PySem.boot_len (pa_cons (pv 0) pa_nil)) pe_int (nomark _)) (pe_one (pe_callB (cr_all rfl) (by rfl) mA (by decide +kernel) (pa_cons (pe_lc (own := [("part", 6)]) (g := gName 6) rfl scNs.nd (pi_tup (pe_slice sl_tup (pv 0) (po_some pe_int) po_none))
            (blkOk_by (own := [("part", 6)]) (N := ["value", "names", "rights", "marked", "word", "fits", "part"]) (sc := defScope sNs) (by decide +kernel))
            (fun _ _ _ _ _ => pg_name (i := 6) scNs.nd rfl (Or.inl rfl)) (fun _ _ _ _ _ => pts_nil)
            (fun _ _ _ _ _ => pe_call FB hr rfl mB kB bB .nil pass0 (pa_cons (pv 6) (pa_cons (pv 1) (pa_cons (pv 2) (pa_cons (pv 3) pa_nil)))))) pa_nil)))))) pss_nil)
      (pss_cons (ps_if (pt_cmpR (op_eqS hu) (pv 4) pe_str (nomark _)) (pss_one (ps_ret (pe_and (pe_cmpR op_eq (pe_callB call_len_seq (by rfl) mL PySem.boot_len (pa_cons (pv 0) pa_nil)) pe_int (nomark _)) (pe_one (pe_call FB hr rfl mB kB bB .nil pass0 (pa_cons (pe_ix ix_tup (pv 0) pe_int (fun _ _ => rfl)) (pa_cons (pv 1) (pa_cons (pv 2) (pa_cons (pv 3) pa_nil))))))))) pss_nil)
      (pss_cons (ps_if (pt_cmpR (op_eqS hu) (pv 4) pe_str (nomark _))
        (pss_cons (ps_set (i := 5) scNs.nd rfl (Or.inl rfl) (pe_and (pe_cmpR op_eq (pe_callB call_len_seq (by rfl) mL PySem.boot_len (pa_cons (pv 0) pa_nil)) pe_int (nomark _)) (pe_one (pe_callB (isi_S (K := K)) (by rfl) mI PyProof.Rows.boot_isinstance (pa_cons (pe_ix ix_tup (pv 0) pe_int (fun _ _ => rfl)) (pa_cons (pe_bltn (v := .ty "bool") (by rfl) mBo (by decide +kernel) rfl) pa_nil))))))
        (pss_one (ps_ret (pe_and (pv 5) (pe_one (pe_call FB hr rfl mB kB bB .nil pass0 (pa_cons (pe_ix ix_tup (pv 0) pe_int (fun _ _ => rfl)) (pa_cons (pv 1) (pa_cons (pv 2) (pa_cons (pe_or (pv 3) (pe_one (pe_ix ix_tup (pv 0) pe_int (fun _ _ => rfl)))) pa_nil))))))))))  pss_nil)
      (pss_one (ps_ret pe_bl))))), ?_⟩
    cases hd with
    | @tup a xs _ hT hx =>
    cases hx with
    | @cons v0 vr _ _ h1 h2 =>
    have hn1 : ∀ x ∈ r, x.depth + 1 ≤ n := fun x hx => by
      have := depth_mem hx
      simp only [PyData.depth, PyData.depthAll] at hn
      omega
    refine ⟨_, rfl, a, _, 0, v0, rfl, rfl, hT, atI_nat (j := 0) rfl, ?_⟩
    refine ⟨_, rfl, w, _, h1, rfl, _, rfl, ite2 (fun he => ?_) (fun he => ?_)⟩
    · have nl := eqS_ne (b := "loop") he (by decide)
      refine ⟨_, rfl, a, _, rfl, .inr hT, rfl, _, rfl, ite2 (fun h3 => ?_) (fun h3 => ?_)⟩
      · obtain ⟨d1, d2, u1, u2, rfl, rfl, g1, g2⟩ := two_of h3 h2
        obtain ⟨m, rfl⟩ : ∃ m, n = m + 1 := ⟨n - 1, by have := hn1 d1 (List.mem_cons_self ..); omega⟩
        have E : nestG ns rs mk (.tuple [w, d1, d2]) = (bodyF ns rs mk d1 && bodyF ns rs mk d2) := by simp only [nestG, nestF, he, if_true]
        rw [E] at q
        refine ⟨_, rfl, _, rfl, a, _, rfl, hT, (fun z => absurd z.1 (by show ¬ (1 : Nat) = 0; decide)), fun tp ntp => ⟨tp, rfl, ⟨_, SqT.of upd_same⟩, fun D nD => ?_⟩⟩
        have hcut : cutV [v0, u1, u2] (some 1) none = [u1, u2] := rfl
        rw [hcut] at nD ⊢
        have e1 : Ex H (upd H tp (.tup [u1, u2])) := Ex.new ntp
        refine lc_tup (K := K) (a := tp) (xs := [u1, u2]) (fun i H' => Ex (upd H tp (.tup [u1, u2])) H' ∧ H' D = some (.lst ((([d1, d2].take i).map fun x => bodyF ns rs mk x).map V.bl))) ?_ (fun i H' _ ⟨x, _⟩ => SqT.of (x _ _ upd_same)) ?_ ?_
        · exact ⟨Ex.new nD, upd_same⟩
        · rintro i x H' hx ⟨ex, hD⟩
          obtain ⟨dx, hdx, gx⟩ := dqa_get (.cons g1 (.cons g2 .nil)) hx
          have := hn1 dx (List.mem_of_getElem? hdx)
          refine ⟨rfl, _, rfl, _, rfl, _, rfl, _, rfl, x, dx, pn, pr, ns, rs, mk, rfl, gx.mono (same_ex (e1.trans ex)), by omega, trivial, ex _ _ (e1 _ _ hpn), ex _ _ (e1 _ _ hpr), fun H3 e3 => ⟨_, e3 _ _ hD, ?_, ?_, ?_⟩⟩
          · have e3z : (5000 : Nat) < sizeLine := by decide
            rw [List.length_map, List.length_map, List.length_take]
            simp only [List.length_cons, List.length_nil]
            omega
          · intro b o hb
            rw [upd_ne (ne_of_none hb nD)]
            exact e3 _ _ (ex _ _ hb)
          · rw [upd_same, List.take_succ, hdx, List.map_append, List.map_append]
            rfl
        · rintro H' ⟨ex, hD⟩
          refine ⟨D, _, rfl, SqL.of hD, ?_⟩
          have := q H' (e1.trans ex)
          have e : (([d1, d2].take [u1, u2].length).map fun x => bodyF ns rs mk x).all id = (bodyF ns rs mk d1 && bodyF ns rs mk d2) := by
            show ((bodyF ns rs mk d1) && ((bodyF ns rs mk d2) && true)) = _
            rw [Bool.and_true]
          rw [e]
          exact this
      · have E : nestG ns rs mk (.tuple (w :: r)) = false := by
          match r, not_two h3 h2 with
          | [], _ => rfl
          | [x], _ => simp only [nestG, nestF, nl]; rfl
          | [x, y], h => exact absurd rfl h
          | _ :: _ :: _ :: _, _ => rfl
        rw [E] at q
        exact q H (Ex.refl H)
    refine ⟨_, rfl, w, _, h1, rfl, _, rfl, ite2 (fun hl => ?_) (fun hl => ?_)⟩
    · have nb := eqS_ne (b := "block") hl (by decide)
      refine ⟨_, rfl, a, _, rfl, .inr hT, rfl, _, rfl, ite2 (fun h3 => ?_) (fun h3 => ?_)⟩
      · obtain ⟨d1, u1, rfl, rfl, g1⟩ := one_of h3 h2
        obtain ⟨m, rfl⟩ : ∃ m, n = m + 1 := ⟨n - 1, by have := hn1 d1 (List.mem_cons_self ..); omega⟩
        have := hn1 d1 (List.mem_cons_self ..)
        have E : nestG ns rs mk (.tuple [w, d1]) = bodyF ns rs mk d1 := by simp only [nestG, nestF, hl, if_true]
        rw [E] at q
        exact ⟨_, rfl, a, _, 1, u1, rfl, rfl, hT, atI_nat (j := 1) rfl, _, rfl, _, rfl, _, rfl, u1, d1, pn, pr, ns, rs, mk, rfl, g1, by omega, trivial, hpn, hpr, q⟩
      · have E : nestG ns rs mk (.tuple (w :: r)) = false := by
          match r, not_one h3 h2 with
          | [], _ => rfl
          | [x], h => exact absurd rfl h
          | [x, y], _ => simp only [nestG, nestF, he, nb]; rfl
          | _ :: _ :: _ :: _, _ => rfl
        rw [E] at q
        exact q H (Ex.refl H)
    refine ⟨_, rfl, w, _, h1, rfl, _, rfl, ite2 (fun hb => ?_) (fun hb => ?_)⟩
    · refine ⟨_, rfl, a, _, rfl, .inr hT, rfl, _, rfl, ite2 (fun h3 => ?_) (fun h3 => ?_)⟩
      · obtain ⟨d1, d2, u1, u2, rfl, rfl, g1, g2⟩ := two_of h3 h2
        obtain ⟨m, rfl⟩ : ∃ m, n = m + 1 := ⟨n - 1, by have := hn1 d1 (List.mem_cons_self ..); omega⟩
        have := hn1 d2 (List.mem_cons_of_mem _ (List.mem_cons_self ..))
        refine ⟨_, rfl, a, _, 1, u1, rfl, rfl, hT, atI_nat (j := 1) rfl, isi_b g1 ⟨_, rfl, _, rfl, ?_⟩⟩
        cases g1 with
        | bl mb =>
          have E : nestG ns rs mk (.tuple [w, .bool mb, d2]) = bodyF ns rs (mk || mb) d2 := by
            simp only [nestG, nestF, he, hb, if_true]
            rfl
          rw [E] at q
          refine ite2 (fun _ => ?_) (fun h => (h rfl).elim)
          refine ⟨_, rfl, a, _, 2, u2, rfl, rfl, hT, atI_nat (j := 2) rfl, _, rfl, _, rfl, _, rfl, mk, rfl, ?_⟩
          have fin : bodG ns rs (mk || mb) d2 = bodyF ns rs (mk || mb) d2 := rfl
          cases mk with
          | true => exact ite2 (fun _ => ⟨u2, d2, pn, pr, ns, rs, true, rfl, g2, by omega, trivial, hpn, hpr, q⟩) (fun h => (h rfl).elim)
          | false => exact ite2 (fun h => Bool.noConfusion h) (fun _ => ⟨_, rfl, a, _, 1, .bl mb, rfl, rfl, hT, atI_nat (j := 1) rfl, u2, d2, pn, pr, ns, rs, mb, rfl, g2, by omega, trivial, hpn, hpr, q⟩)
        | _ =>
          refine ite2 (fun h => Bool.noConfusion h) (fun _ => ?_)
          have := q H (Ex.refl H)
          simp only [nestG, nestF, he, hb, if_true] at this
          exact this
      · refine ⟨_, rfl, _, rfl, ite2 (fun h => Bool.noConfusion h) (fun _ => ?_)⟩
        have E : nestG ns rs mk (.tuple (w :: r)) = false := by
          match r, not_two h3 h2 with
          | [], _ => rfl
          | [x], _ => simp only [nestG, nestF, hl]; rfl
          | [x, y], h => exact absurd rfl h
          | _ :: _ :: _ :: _, _ => rfl
        rw [E] at q
        exact q H (Ex.refl H)
    · have E : nestG ns rs mk (.tuple (w :: r)) = false := by
        match r with
        | [] => rfl
        | [x] => simp only [nestG, nestF, hl]; rfl
        | [x, y] => simp only [nestG, nestF, he, hb]; rfl
        | _ :: _ :: _ :: _ => rfl
      rw [E] at q
      exact q H (Ex.refl H)
theorem steps_all {ns rs : List Str} {mk : Bool} : ∀ {ds : List PyData}, stepsF ns rs mk ds = ds.all fun d => stepF ns rs mk d
  | [] => by simp only [stepsF, List.all_nil]
  | d :: r => by simp only [stepsF, List.all_cons, steps_all (ds := r)]
/-- is_body: a def with a default -/
def FunB (K : PySem.W.Frag) (f : Addr) (fd : FuncData) : Prop := FunD K "is_body" "is_body" (defArgs sBd) (defBody sBd) (defScope sBd) [.bl false] [] f fd
theorem FunB.ok {N ps : List Str} {k : Nat} {sp : Sp} (F : FunB K f fd) (S : FnScope N ps (defScope sBd)) (len : ∀ vs H Q E, sp vs H Q E → vs.length = ps.length)
    (hbody : ∀ (cdv : Value) (A : Around) (outer : List Env) (s : Shared) (H : Hp) (vs : List V) (Q : VK) (E : XK), Room k (A.deeper (envOfC "is_body" (defScope sBd) s.heap.objs.size f cdv)) → sp vs H Q E →
      ∃ t, PSs (cxOf CX0 P w K mg base N "is_body" (defScope sBd) f cdv A outer s H E).nox (defBody sBd) t ∧ t { nx := fun _ H' => Q .non H', rt := Q } (start N vs) H) : FnOk P w K mg base CX0 (k + 1) f fd ps sp :=
  FunD.ok F S len fun cdv A outer s H vs Q E hr hsp => by
    obtain ⟨t, h, q⟩ := hbody cdv A outer s H vs Q E hr hsp
    exact ⟨t, h.nox, q⟩
theorem ok_bd {n : Nat} {fS : Addr} {fdS : FuncData} (F : FunB K f fd) (FS : FnOk P w K mg base CX0 (3 * n + 3) fS fdS ["value", "names", "rights", "marked"] (spV K (fun ns rs => stepF ns rs) (fun _ => True) n)) (mS : mg "is_step" = some (.ref fS)) (kS : PySem.W.keepIn K (.ref fS) = true) (bS : Binds K fdS ["value", "names", "rights", "marked"] [])
    (mI : mg "isinstance" = none) (mLi : mg "list" = none) : FnOk P w K mg base CX0 (3 * n + 4) f fd ["value", "names", "rights", "marked"] (spV K bodG (fun _ => True) n) := by
  refine F.ok scBd (fun vs H Q E h => ?_) (fun cdv A outer s H vs Q E hr h => ?_)
  · obtain ⟨_, _, _, _, _, _, _, rfl, _⟩ := h
    rfl
  · obtain ⟨v, d, pn, pr, ns, rs, mk, rfl, hd, hn, _, hpn, hpr, q⟩ := h
    refine ⟨_, pss_cons (ps_if (pt_not (pt_val (pe_callB (isi_S (K := K)) (by rfl) mI PyProof.Rows.boot_isinstance (pa_cons (pv 0) (pa_cons (pe_bltn (v := .ty "list") (by rfl) mLi (by decide +kernel) rfl) pa_nil))))) (pss_one (ps_ret pe_bl)) pss_nil)
      (pss_cons (ps_for PassesOwn.never rfl (pi_list (pv 0)) (pg_name (i := 4) scBd.nd rfl (Or.inl rfl))
        (pss_one (ps_if (pt_not (pt_val (pe_call FS hr rfl mS kS bS .nil pass0 (pa_cons (pv 4) (pa_cons (pv 1) (pa_cons (pv 2) (pa_cons (pv 3) pa_nil))))))) (pss_one (ps_ret pe_bl)) pss_nil)))
      (pss_one (ps_ret pe_bl))), ?_⟩
    refine ⟨_, rfl, isi_l hd ⟨_, rfl, ?_⟩⟩
    cases hd with
    | @lst a xs ds ha hx =>
      refine ite2 (fun h => Bool.noConfusion h) (fun _ => ⟨_, rfl, a, rfl, ⟨_, SqL.of ha⟩, ?_⟩)
      have E : bodG ns rs mk (.list ds) = ds.all fun d => stepF ns rs mk d := by
        unfold bodG
        simp only [bodyF]
        exact steps_all
      rw [E] at q
      have hl := dqa_len hx
      refine for_list (K := K) (a := a) (xs := xs) (fun i σ H' => ∃ t : Option V, σ = [some (.ref a), some (.ref pn), some (.ref pr), some (.bl mk), t] ∧ Ex H H' ∧ ((ds.take i).all fun d => stepF ns rs mk d) = true) ?_ (fun i σ H' _ ⟨_, _, x, _⟩ => SqL.of (x _ _ ha)) ?_ ?_
      · exact ⟨none, rfl, Ex.refl H, rfl⟩
      · rintro i x σ H' hi ⟨t, rfl, ex, hal⟩
        obtain ⟨dx, hdx, gx⟩ := dqa_get hx hi
        have := depth_mem (List.mem_of_getElem? hdx)
        simp only [PyData.depth] at hn
        refine ⟨_, rfl, _, rfl, _, rfl, _, rfl, x, dx, pn, pr, ns, rs, mk, rfl, gx.mono (same_ex ex), by omega, trivial, ex _ _ hpn, ex _ _ hpr, fun H3 e3 => ⟨_, rfl, ?_⟩⟩
        have tk : ds.take (i + 1) = ds.take i ++ [dx] := by
          rw [List.take_succ, hdx]
          rfl
        cases hst : stepF ns rs mk dx with
        | true =>
          refine ite2 (fun h => ?_) (fun _ => ⟨_, rfl, ex.trans e3, ?_⟩)
          · cases h
          rw [tk, List.all_append, hal]
          simp only [List.all_cons, List.all_nil, hst]
          rfl
        | false =>
          refine ite2 (fun _ => ?_) (fun h => (h rfl).elim)
          have hf : (ds.all fun d => stepF ns rs mk d) = false := by
            rw [Bool.eq_false_iff]
            intro z
            have := List.all_eq_true.mp z dx (List.mem_of_getElem? hdx)
            rw [hst] at this
            cases this
          rw [hf] at q
          exact q H3 (ex.trans e3)
      · rintro σ H' ⟨t, rfl, ex, hal⟩
        rw [hl, List.take_of_length_le (Nat.le_refl _)] at hal
        rw [hal] at q
        exact q H' ex
    | _ => exact ite2 (fun _ => q H (Ex.refl H)) (fun h => (h rfl).elim)
theorem ok_bd0 (F : FunB K f fd) : FnOk P w K mg base CX0 1 f fd ["value", "names", "rights", "marked"] spNo :=
  F.ok scBd (fun vs H Q E h => h.elim) (fun cdv A outer s H vs Q E hr h => h.elim)
theorem ok_bodies {fB fS fN : Addr} {fdB fdS fdN : FuncData} (FB : FunB K fB fdB) (FS : Fun K "is_step" "is_step" sSt fS fdS) (FN : Fun K "is_nest" "is_nest" sNs fN fdN)
    (mB : mg "is_body" = some (.ref fB)) (kB : PySem.W.keepIn K (.ref fB) = true) (bB : Binds K fdB ["value", "names", "rights", "marked"] [])
    (mS : mg "is_step" = some (.ref fS)) (kS : PySem.W.keepIn K (.ref fS) = true) (bS : Binds K fdS ["value", "names", "rights", "marked"] [])
    (mN : mg "is_nest" = some (.ref fN)) (kN : PySem.W.keepIn K (.ref fN) = true) (bN : Binds K fdN ["value", "names", "rights", "marked"] [])
    (mL : mg "len" = none) (mI : mg "isinstance" = none) (mBo : mg "bool" = none) (mA : mg "all" = none) (mT : mg "tuple" = none) (mLi : mg "list" = none) :
    ∀ n : Nat, FnOk P w K mg base CX0 (3 * n + 4) fB fdB ["value", "names", "rights", "marked"] (spV K bodG (fun _ => True) n)
  | 0 => ok_bd FB (ok_st FS (ok_ns (ds := []) FN (ok_bd0 FB) mB kB bB mL mI mBo mA) mN kN bN mL mI mT) mS kS bS mI mLi
  | n + 1 => ok_bd FB (ok_st FS (ok_ns (ds := []) FN (ok_bodies FB FS FN mB kB bB mS kS bS mN kN bN mL mI mBo mA mT mLi n) mB kB bB mL mI mBo mA) mN kN bN mL mI mT) mS kS bS mI mLi
end
end Lx

set_option Elab.async false
set_option maxRecDepth 100000
set_option linter.all false
set_option maxHeartbeats 4000000
/-! KitN2: a comprehension in a comprehension's block. -/
namespace Kx
open PySem PySem.Spec PyProof.Rows L2
theorem lookup_map {y : Str} {f : Str × NameKind → Str × NameKind} (h1 : ∀ x, (f x).1 = x.1) : ∀ {l : List (Str × NameKind)} {k : NameKind}, List.lookup y l = some k → List.lookup y (l.map f) = some (f (y, k)).2
  | [], k, h => nomatch h
  | (n, k1) :: l, k, h => by
    rw [List.map_cons, show f (n, k1) = ((f (n, k1)).1, (f (n, k1)).2) from rfl, List.lookup_cons, h1]
    rw [List.lookup_cons] at h
    cases e : (y == n) with
    | true =>
      rw [e] at h
      have e2 : y = n := of_decide_eq_true (by simpa using e)
      subst e2
      cases h
      rfl
    | false =>
      rw [e] at h
      exact lookup_map h1 h
theorem blk_re {N : List Str} {sc scope : Scope} {env : Env} {own : List (Str × Nat)} (h : BlkOk N sc scope own) : BlkOk N (relabel sc env) scope own := by
  refine ⟨h.kind, h.uniq, h.ix, fun y hy e => ?_, h.own⟩
  rcases h.free y hy e with z | z
  · refine .inl ?_
    unfold relabel
    rw [lookup_map (fun x => by dsimp only; split <;> rfl) z]
    dsimp only
    split <;> rfl
  · unfold relabel
    rw [lookup_map (fun x => by dsimp only; split <;> rfl) z]
    dsimp only
    split
    · exact .inl rfl
    · exact .inr rfl
theorem pi_listK {X : Cx} {K : PySem.W.Frag} {tg l : Expr} {tl : TE} (hp : PE X l tl) (h : X.K = K := by rfl) : PI X tg l (iList K tl) := h ▸ pi_list hp
theorem pi_tupK {X : Cx} {K : PySem.W.Frag} {tg l : Expr} {tl : TE} (hp : PE X l tl) (h : X.K = K := by rfl) : PI X tg l (iTup K tl) := h ▸ pi_tup hp
end Kx

set_option Elab.async false
set_option maxRecDepth 100000
set_option linter.all false
set_option maxHeartbeats 4000000
namespace Lx
open PySem PySem.Spec PyProof.Rows L2 Evl Kx
section
variable {P : Program} {w : World} {K : PySem.W.Frag} {mg : Str → Option Value} {base : Heap} {f : Addr} {fd : FuncData}
abbrev sCb : Stmt := top 10
abbrev sCs : Stmt := top 11
abbrev sWi : Stmt := top 12
theorem scCb : FnScope ["body", "step"] ["body"] (defScope sCb) := ⟨rfl, rfl, rfl, by decide +kernel, rfl, by decide +kernel, by decide +kernel⟩
theorem scCs : FnScope ["step"] ["step"] (defScope sCs) := ⟨rfl, rfl, rfl, by decide +kernel, rfl, by decide +kernel, by decide +kernel⟩
theorem scWi : FnScope ["step", "change", "part", "inner"] ["step", "change"] (defScope sWi) := ⟨rfl, rfl, rfl, by decide +kernel, rfl, by decide +kernel, by decide +kernel⟩
def spCs (K : PySem.W.Frag) (d : Nat) : Sp := fun vs H Q _ => ∃ (p : Addr) (s : Stp), vs = [.ref p] ∧ Dq K H (.ref p) (stpD s) ∧ nstS s ≤ d ∧ cntS s ≤ 4096 ∧ ∀ p2 H2 M, New H H2 M → FrN K H M (.ref p2) (stpD s) → Q (.ref p2) H2
def spCb (K : PySem.W.Frag) (d : Nat) : Sp := fun vs H Q _ => ∃ (p : Addr) (b : List Stp), vs = [.ref p] ∧ Dq K H (.ref p) (.list (bodyD b)) ∧ nstB b ≤ d ∧ cntB b ≤ 4096 ∧ ∀ p2 H2 M, New H H2 M → FrN K H M (.ref p2) (.list (bodyD b)) → Q (.ref p2) H2
def spCsP (K : PySem.W.Frag) : Nat → Sp
  | 0 => spNo
  | d + 1 => spCs K d
def spWi (K : PySem.W.Frag) (fS : Addr) (d : Nat) : Sp := fun vs H Q _ => ∃ (p : Addr) (s : Stp), vs = [.ref p, .ref fS] ∧ Dq K H (.ref p) (stpD s) ∧ nstS s ≤ d ∧ cntS s ≤ 4096 ∧ ∀ p2 H2 M, New H H2 M → FrN K H M (.ref p2) (stpD s) → Q (.ref p2) H2
theorem ok_wi {d : Nat} {fS : Addr} {fdS : FuncData} (F : Fun K "with_inner" "with_inner" sWi f fd) (FS : FnOk P w K mg base CX0 (2 * d) fS fdS ["step"] (spCsP K d)) (kS : PySem.W.keepIn K (.ref fS) = true) (bS : Binds K fdS ["step"] [])
    (mT : mg "tuple" = none) (mI : mg "isinstance" = none) (mL : mg "list" = none) : FnOk P w K mg base CX0 (2 * d + 1) f fd ["step", "change"] (spWi K fS d) := by
  refine F.ok scWi (fun vs H Q E h => ?_) (fun cdv A outer s H vs Q E hr h => ?_)
  · obtain ⟨_, _, rfl, _⟩ := h
    rfl
  · obtain ⟨p, s, rfl, hv, hn, hc, q⟩ := h
    refine ⟨_, pss_one (ps_ret (pe_tupleOf (by rfl) mT (pe_lc (own := [("part", 2)]) (g := gName 2) rfl scWi.nd (pi_tup (pv 0))
            (blkOk_by (own := [("part", 2)]) (N := ["step", "change", "part", "inner"]) (sc := defScope sWi) (by decide +kernel))
            (fun _ _ _ _ _ => pg_name (i := 2) scWi.nd rfl (Or.inl rfl)) (fun _ _ _ _ _ => pts_nil)
            (fun _ _ _ _ _ => pe_ifExp (pt_val (pe_callB (isi_S (K := K)) (by rfl) mI PyProof.Rows.boot_isinstance (pa_cons (pv 2) (pa_cons (pe_bltn (v := .ty "list") (by rfl) mL (by decide +kernel) rfl) pa_nil))))
              (pe_lc (own := [("inner", 3)]) (g := gName 3) rfl scWi.nd (pi_listK (K := K) (pv 2))
                (blk_re (blkOk_by (own := [("inner", 3)]) (N := ["step", "change", "part", "inner"]) (by decide +kernel)))
                (fun _ _ _ _ _ => pg_name (i := 3) scWi.nd rfl (Or.inl rfl)) (fun _ _ _ _ _ => pts_nil)
                (fun _ _ _ _ _ => pe_callL (i := 1) FS hr rfl (Or.inr (Or.inl rfl)) kS bS .nil pass0 (pa_cons (pv 3) pa_nil))) (pv 2))))), ?_⟩
    obtain ⟨ta, ys, ep, eT, hy⟩ := step_at hv
    cases ep
    have h3 : (partsP s).length ≤ 3 := by cases s <;> simp only [partsP, List.length_cons, List.length_nil] <;> omega
    refine ⟨_, rfl, p, rfl, ⟨_, eT⟩, fun D nD => ?_⟩
    refine lc_tup (K := K) (a := p) (xs := ys) (fun j H'' => ∃ (M2 : Hp) (zs : List V), New H H'' M2 ∧ H'' D = some (.lst zs) ∧ M2 D = none ∧ FrA K H M2 zs (((partsP s).take j).map (·.1))) ?_ (fun j H'' _ ⟨_, _, z, _⟩ => sqt_ex (same_ex z.hh) eT) ?_ ?_
    · exact ⟨emp, [], New.refl.own nD, upd_same, rfl, FrA.nil⟩
    · rintro j v H'' hj ⟨M2, zs, z, hD, mD, hz⟩
      obtain ⟨⟨pd, po⟩, hpp, hvd⟩ := part_get hy hj
      have hvg := hvd
      have hvd := hvd.mono (same_ex z.hh)
      have htk : (partsP s).take (j + 1) = (partsP s).take j ++ [(pd, po)] := by
        rw [List.take_succ, hpp]
        rfl
      have hzl : zs.length < sizeLine := by
        have := dqa_len hz.dq
        rw [List.length_map, List.length_take] at this
        have e3z : (5 : Nat) < sizeLine := by decide
        omega
      have fin : ∀ (v3 : V) (H3 M3 : Hp), New H'' H3 M3 → FrN K H'' M3 v3 pd → ∃ acc, H3 D = some (.lst acc) ∧ acc.length < sizeLine ∧ ∃ (M2 : Hp) (zs : List V), New H (upd H3 D (.lst (acc ++ [v3]))) M2 ∧ (upd H3 D (.lst (acc ++ [v3]))) D = some (.lst zs) ∧ M2 D = none ∧ FrA K H M2 zs (((partsP s).take (j + 1)).map (·.1)) := by
        intro v3 H3 M3 k3 h3
        have hD3 := k3.hh _ _ hD
        have mD3 : join M2 M3 D = none := join_none mD (k3.fr _ _ hD)
        refine ⟨zs, hD3, hzl, join M2 M3, zs ++ [v3], (z.trans k3).wr nD mD3, upd_same, mD3, ?_⟩
        rw [htk, List.map_append]
        exact FrA.app z hz join_l (z.right k3) h3
      refine ⟨rfl, _, rfl, isi_l hvd ⟨_, rfl, ?_⟩⟩
      rcases parts_ok (List.mem_of_getElem? hpp) with ⟨h1, h2⟩ | ⟨b', h1, h2, h3, h4⟩
      · refine ite2 (fun h => ?_) (fun _ => ?_)
        · simp only [h1] at h
          cases h
        · exact ⟨_, rfl, fin v H'' emp New.refl (FrN.flat (parts_flat (List.mem_of_getElem? hpp) h1) (flat_dq (parts_flat (List.mem_of_getElem? hpp) h1) hvg))⟩
      · subst h1 h2
        refine ite2 (fun h => ?_) (fun h => (h rfl).elim)
        obtain ⟨d', rfl⟩ : ∃ d', d = d' + 1 := ⟨d - 1, by omega⟩
        cases hvd with
        | @lst pa xs2 _ hp2 hx2 =>
        have hlen : xs2.length = b'.length := by
          have := dqa_len hx2
          rw [bodyD_map, List.length_map] at this
          exact this
        refine ⟨_, rfl, pa, rfl, ⟨_, SqL.of hp2⟩, fun D2 nD2 => ?_⟩
        refine lc_list (K := K) (a := pa) (xs := xs2) (fun i H' => ∃ (M : Hp) (acc : List V), New H'' H' M ∧ H' D2 = some (.lst acc) ∧ M D2 = none ∧ FrA K H'' M acc (bodyD (b'.take i))) ?_ (fun i H' _ ⟨_, _, k, _⟩ => SqL.of (k.hh _ _ hp2)) ?_ ?_
        · exact ⟨emp, [], New.refl.own nD2, upd_same, rfl, by simp only [List.take_zero, bodyD]; exact FrA.nil⟩
        · rintro i x H' hi ⟨M, acc, k, hD2, mD2, ha⟩
          obtain ⟨s', hs, hv'⟩ := body_get hx2 hi
          obtain ⟨ta, ys', rfl, hT, hy'⟩ := step_at hv'
          have hst : s' ∈ b' := List.mem_of_getElem? hs
          refine ⟨rfl, rfl, _, rfl, ta, s', rfl, hv'.mono (same_ex k.hh), (by have := nst_mem hst; omega), (by have := cnt_mem hst; omega), fun p3 H3 M3 k3 h3 => ?_⟩
          have hD3 := k3.hh _ _ hD2
          have mD3 : join M M3 D2 = none := join_none mD2 (k3.fr _ _ hD2)
          refine ⟨acc, hD3, ?_, join M M3, acc ++ [.ref p3], (k.trans k3).wr nD2 mD3, upd_same, mD3, ?_⟩
          · have := dqa_len ha.dq
            rw [bodyD_map, List.length_map, List.length_take] at this
            have h2 := (List.getElem?_eq_some_iff.mp hi).1
            have h3 := len_cnt b'
            have e3z : (5000 : Nat) < sizeLine := by decide
            omega
          · rw [bodyD_map, List.take_succ, hs, List.map_append, ← bodyD_map]
            exact FrA.app k ha join_l (k.right k3) h3
        · rintro H' ⟨M, acc, k, hD2, mD2, ha⟩
          rw [hlen, List.take_of_length_le (Nat.le_refl _)] at ha
          exact fin (.ref D2) H' _ (k.frz nD2 hD2) (FrN.lst ha mD2 nD2)
    · rintro H'' ⟨M2, zs, z, hD, mD, hz⟩
      have hl : ys.length = (partsP s).length := by
        have := dqa_len hy
        rw [List.length_map] at this
        exact this
      rw [hl, List.take_of_length_le (Nat.le_refl _)] at hz
      refine .inl ⟨D, zs, rfl, SqL.of hD, fun tp ntp => q tp _ _ (z.put (o := .tup zs) ntp) ?_⟩
      rw [stpD_parts]
      exact FrN.tup hz (Ex.new (z.none ntp)) upd_same
theorem ok_cs {d : Nat} {fW : Addr} {fdW : FuncData} (F : Fun K "copy_step" "copy_step" sCs f fd) (FW : FnOk P w K mg base CX0 (2 * d + 1) fW fdW ["step", "change"] (spWi K f d)) (mW : mg "with_inner" = some (.ref fW)) (kW : PySem.W.keepIn K (.ref fW) = true) (bW : Binds K fdW ["step", "change"] [])
    (mS : mg "copy_step" = some (.ref f)) : FnOk P w K mg base CX0 (2 * d + 2) f fd ["step"] (spCs K d) := by
  refine F.ok scCs (fun vs H Q E h => ?_) (fun cdv A outer s H vs Q E hr h => ?_)
  · obtain ⟨_, _, rfl, _⟩ := h
    rfl
  · obtain ⟨p, s, rfl, hv, hn, hc, q⟩ := h
    refine ⟨_, pss_one (ps_ret (pe_call FW hr rfl mW kW bW .nil pass0 (pa_cons (pv 0) (pa_cons (pe_glob (v := .ref f) (by rfl) mS rfl) pa_nil)))), ?_⟩
    exact ⟨_, rfl, p, s, rfl, hv, hn, hc, q⟩
theorem ok_cb {d : Nat} {fS : Addr} {fdS : FuncData} (F : Fun K "copy_body" "copy_body" sCb f fd) (FS : FnOk P w K mg base CX0 (2 * d + 2) fS fdS ["step"] (spCs K d)) (mS : mg "copy_step" = some (.ref fS)) (kS : PySem.W.keepIn K (.ref fS) = true) (bS : Binds K fdS ["step"] []) :
    FnOk P w K mg base CX0 (2 * d + 3) f fd ["body"] (spCb K d) := by
  refine F.ok scCb (fun vs H Q E h => ?_) (fun cdv A outer s H vs Q E hr h => ?_)
  · obtain ⟨_, _, rfl, _⟩ := h
    rfl
  · obtain ⟨p, b, rfl, hd, hn, hc, q⟩ := h
    refine ⟨_, pss_one (ps_ret (pe_lc (own := [("step", 1)]) (g := gName 1) rfl scCb.nd (pi_list (pv 0))
            (blkOk_by (own := [("step", 1)]) (N := ["body", "step"]) (sc := defScope sCb) (by decide +kernel))
            (fun _ _ _ _ _ => pg_name (i := 1) scCb.nd rfl (Or.inl rfl)) (fun _ _ _ _ _ => pts_nil)
            (fun _ _ _ _ _ => pe_call FS hr rfl mS kS bS .nil pass0 (pa_cons (pv 1) pa_nil)))), ?_⟩
    cases hd with
    | @lst _ xs _ hp hx =>
    have hlen : xs.length = b.length := by
      have := dqa_len hx
      rw [bodyD_map, List.length_map] at this
      exact this
    refine ⟨_, rfl, p, rfl, ⟨_, SqL.of hp⟩, fun D nD => ?_⟩
    refine lc_list (K := K) (a := p) (xs := xs) (fun i H' => ∃ (M : Hp) (acc : List V), New H H' M ∧ H' D = some (.lst acc) ∧ M D = none ∧ FrA K H M acc (bodyD (b.take i))) ?_ (fun i H' _ ⟨_, _, k, _⟩ => SqL.of (k.hh _ _ hp)) ?_ ?_
    · exact ⟨emp, [], New.refl.own nD, upd_same, rfl, by simp only [List.take_zero, bodyD]; exact FrA.nil⟩
    · rintro i x H' hi ⟨M, acc, k, hD, mD, ha⟩
      obtain ⟨s, hs, hv⟩ := body_get hx hi
      obtain ⟨ta, ys, rfl, hT, hy⟩ := step_at hv
      have hst : s ∈ b := List.mem_of_getElem? hs
      refine ⟨rfl, _, rfl, ta, s, rfl, hv.mono (same_ex k.hh), (by have := nst_mem hst; omega), (by have := cnt_mem hst; omega), fun p3 H3 M3 k3 h3 => ?_⟩
      have hD3 := k3.hh _ _ hD
      have mD3 : join M M3 D = none := join_none mD (k3.fr _ _ hD)
      refine ⟨acc, hD3, ?_, join M M3, acc ++ [.ref p3], (k.trans k3).wr nD mD3, upd_same, mD3, ?_⟩
      · have := dqa_len ha.dq
        rw [bodyD_map, List.length_map, List.length_take] at this
        have h2 := (List.getElem?_eq_some_iff.mp hi).1
        have h3 := len_cnt b
        have e3z : (5000 : Nat) < sizeLine := by decide
        omega
      · rw [bodyD_map, List.take_succ, hs, List.map_append, ← bodyD_map]
        exact FrA.app k ha join_l (k.right k3) h3
    · rintro H' ⟨M, acc, k, hD, mD, ha⟩
      rw [hlen, List.take_of_length_le (Nat.le_refl _)] at ha
      exact q D H' _ (k.frz nD hD) (FrN.lst ha mD nD)
theorem no_ok {fd : FuncData} {ps : List Str} : FnOk P w K mg base CX0 0 f fd ps spNo :=
  ⟨fun _ _ _ _ h => h.elim, fun _ _ _ _ _ _ _ _ _ _ _ _ _ h => h.elim⟩
theorem ok_css {fW fS : Addr} {fdW fdS : FuncData} (FW : Fun K "with_inner" "with_inner" sWi fW fdW) (FS : Fun K "copy_step" "copy_step" sCs fS fdS)
    (mW : mg "with_inner" = some (.ref fW)) (kW : PySem.W.keepIn K (.ref fW) = true) (bW : Binds K fdW ["step", "change"] [])
    (mS : mg "copy_step" = some (.ref fS)) (kS : PySem.W.keepIn K (.ref fS) = true) (bS : Binds K fdS ["step"] [])
    (mT : mg "tuple" = none) (mI : mg "isinstance" = none) (mL : mg "list" = none) : ∀ d : Nat, FnOk P w K mg base CX0 (2 * d + 2) fS fdS ["step"] (spCs K d)
  | 0 => ok_cs FS (ok_wi (d := 0) FW no_ok kS bS mT mI mL) mW kW bW mS
  | d + 1 => ok_cs FS (ok_wi (d := d + 1) FW (ok_css FW FS mW kW bW mS kS bS mT mI mL d) kS bS mT mI mL) mW kW bW mS
theorem ok_copies {fB fS fW : Addr} {fdB fdS fdW : FuncData} (FB : Fun K "copy_body" "copy_body" sCb fB fdB) (FS : Fun K "copy_step" "copy_step" sCs fS fdS) (FW : Fun K "with_inner" "with_inner" sWi fW fdW)
    (mS : mg "copy_step" = some (.ref fS)) (kS : PySem.W.keepIn K (.ref fS) = true) (bS : Binds K fdS ["step"] []) (mW : mg "with_inner" = some (.ref fW)) (kW : PySem.W.keepIn K (.ref fW) = true) (bW : Binds K fdW ["step", "change"] [])
    (mT : mg "tuple" = none) (mI : mg "isinstance" = none) (mL : mg "list" = none) (d : Nat) : FnOk P w K mg base CX0 (2 * d + 3) fB fdB ["body"] (spCb K d) :=
  ok_cb FB (ok_css FW FS mW kW bW mS kS bS mT mI mL d) mS kS bS
end
end Lx

set_option Elab.async false
set_option maxRecDepth 100000
set_option linter.all false
set_option maxHeartbeats 4000000
namespace Lx
open PySem PySem.Spec PyProof.Rows L2 Evl Kx
def ownerF (rs : List Str) : PyData → Bool
  | .tuple [a, b] => nameD a && choiceF rs b
  | _ => false
def functionF (os ns rs : List Str) : PyData → Bool
  | .tuple [a, b, c] => nameD a && os.any (eqS b) && bodyF ns rs false c
  | _ => false
section
variable {P : Program} {w : World} {K : PySem.W.Frag} {mg : Str → Option Value} {base : Heap} {f : Addr} {fd : FuncData}
abbrev sOwn : Stmt := top 38
abbrev sCho : Stmt := top 39
abbrev sFun : Stmt := top 40
theorem scOwn : FnScope ["value", "rights"] ["value", "rights"] (defScope sOwn) := ⟨rfl, rfl, rfl, by decide +kernel, rfl, by decide +kernel, by decide +kernel⟩
theorem scCho : FnScope ["value", "rights", "right"] ["value", "rights"] (defScope sCho) := ⟨rfl, rfl, rfl, by decide +kernel, rfl, by decide +kernel, by decide +kernel⟩
theorem scFun : FnScope ["value", "owner_names", "names", "rights"] ["value", "owner_names", "names", "rights"] (defScope sFun) := ⟨rfl, rfl, rfl, by decide +kernel, rfl, by decide +kernel, by decide +kernel⟩
structure spCho (K : PySem.W.Frag) (vs : List V) (H : Hp) (Q : VK) (E_ : XK) : Prop where
  mk' ::
  out : ∃ v d pr rs, vs = [v, .ref pr] ∧ Dq K H v d ∧ H pr = some (.lst (rs.map V.str)) ∧ rs.length ≤ 4096 ∧ ∀ H2, Ex H H2 → Q (.bl (choiceF rs d)) H2
theorem ok_cho (F : Fun K "is_choice" "is_choice" sCho f fd) (mL : mg "len" = none) (mI : mg "isinstance" = none) (mLi : mg "list" = none) (mA : mg "all" = none) : FnOk P w K mg base CX0 1 f fd ["value", "rights"] (spCho K) := by
  refine F.ok scCho (fun vs H Q E h => ?_) (fun cdv A outer s H vs Q E hr h => ?_)
  · obtain ⟨_, _, _, _, rfl, _⟩ := h
    rfl
  · obtain ⟨v, d, pr, rs, rfl, hd, hpr, hrl, q⟩ := h
    have hu := hr.units0
    have hu1 : (A.deeper (envOfC "is_choice" (defScope sCho) s.heap.objs.size f cdv)).units + 1 < cLine := Nat.lt_of_le_of_lt (Nat.add_le_add_left (by decide : 1 ≤ 64) _) hr.units
    refine ⟨_, pss_cons (ps_if (PW.pt (pw_or (pt_not (pt_val (pe_callB (isi_S (K := K)) (by rfl) mI PyProof.Rows.boot_isinstance (pa_cons (pv 0) (pa_cons (pe_bltn (v := .ty "list") (by rfl) mLi (by decide +kernel) rfl) pa_nil))))) (pw_or1 (pt_cmpR op_gt (pe_callB call_len_seq (by rfl) mL PySem.boot_len (pa_cons (pv 0) pa_nil)) (pe_callB call_len_seq (by rfl) mL PySem.boot_len (pa_cons (pv 1) pa_nil)) (nomark _))))) (pss_one (ps_ret pe_bl)) pss_nil)
      (pss_one (ps_ret (pe_callB (cr_all rfl) (by rfl) mA (by decide +kernel) (pa_cons (pe_lc (own := [("right", 2)]) (g := gName 2) rfl scCho.nd (pi_list (pv 0))
            (blkOk_by (own := [("right", 2)]) (N := ["value", "rights", "right"]) (sc := defScope sCho) (by decide +kernel))
            (fun _ _ _ _ _ => pg_name (i := 2) scCho.nd rfl (Or.inl rfl)) (fun _ _ _ _ _ => pts_nil)
            (fun _ _ _ _ _ => pe_and (pe_cmpR (op_inTsK (K := K) hu1) (pv 2) (pv 1) (by rfl)) (pe_one (pe_cmpR op_eq (pe_bmK (K := K) PySem.F.plainAttrs_list PySem.F.slot_list_count PySem.F.type_list_count (mt_countSK (K := K) hu1) (pv 0) (pa_cons (pv 2) pa_nil)) pe_int (nomark _))))) pa_nil)))), ?_⟩
    refine ⟨_, rfl, isi_l hd ⟨_, rfl, ?_⟩⟩
    cases hd with
    | @lst a xs ds ha hx =>
      have hl := dqa_len hx
      have hrl2 : (rs.map V.str).length = rs.length := List.length_map ..
      refine ite2 (fun h => Bool.noConfusion h) (fun _ => ⟨_, rfl, a, xs, rfl, .inl (SqL.of ha), _, rfl, pr, _, rfl, .inl (SqL.of hpr), _, _, rfl, rfl, _, rfl, ite2 (fun hg => ?_) (fun hg => ?_)⟩)
      · have hg := of_decide_eq_true hg
        have : ¬ ds.length ≤ rs.length := by omega
        have := q H (Ex.refl H)
        simp only [choiceF, decide_eq_false ‹¬ ds.length ≤ rs.length›, Bool.false_and] at this
        exact this
      · have hg : ds.length ≤ rs.length := by
          have : ¬ ((rs.map V.str).length : Int) < (xs.length : Int) := fun z => hg (decide_eq_true z)
          omega
        simp only [choiceF, decide_eq_true hg, Bool.true_and] at q
        refine ⟨_, rfl, a, rfl, ⟨_, SqL.of ha⟩, fun D nD => ?_⟩
        refine lc_list (K := K) (a := a) (xs := xs) (fun i H' => Ex H H' ∧ H' D = some (.lst (((ds.take i).map fun x => rs.any (eqS x) && onceF ds x).map V.bl))) ?_ (fun i H' _ ⟨x, _⟩ => SqL.of (x _ _ ha)) ?_ ?_
        · exact ⟨Ex.new nD, upd_same⟩
        · rintro i x H' hx' ⟨ex, hD⟩
          obtain ⟨dx, hdx, gx⟩ := dqa_get hx hx'
          have fin : ∀ b : Bool, b = (rs.any (eqS dx) && onceF ds dx) → ∃ acc, H' D = some (.lst acc) ∧ acc.length < sizeLine ∧ Ex H (upd H' D (.lst (acc ++ [.bl b]))) ∧ (upd H' D (.lst (acc ++ [.bl b]))) D = some (.lst (((ds.take (i + 1)).map fun x => rs.any (eqS x) && onceF ds x).map V.bl)) := by
            rintro b rfl
            refine ⟨_, hD, ?_, ?_, ?_⟩
            · rw [List.length_map, List.length_map, List.length_take]
              have e3z : (5000 : Nat) < sizeLine := by decide
              omega
            · intro b o hb
              rw [upd_ne (ne_of_none hb nD)]
              exact ex _ _ hb
            · rw [upd_same, List.take_succ, hdx, List.map_append, List.map_append]
              rfl
          refine ⟨rfl, _, rfl, _, rfl, dx, rs, pr, gx.mono (same_ex ex), rfl, SqL.of (ex _ _ hpr), _, rfl, ite2 (fun hin => ?_) (fun hin => ?_)⟩
          · obtain ⟨z, rfl, hz⟩ := any_str (by simpa using hin)
            cases gx
            refine ⟨_, rfl, .inl ⟨rfl, _, SqL.of (ex _ _ ha)⟩, _, rfl, a, xs, ds, z, rfl, rfl, SqL.of (ex _ _ ha), hx.mono (same_ex ex), rfl, fin _ ?_⟩
            have hin : rs.any (eqS (.str z)) = true := by simpa using hin
            rw [hin]
            simp only [Bool.true_and, onceF, V.int.injEq]
            rw [Bool.eq_iff_iff, decide_eq_true_eq, decide_eq_true_eq]
            omega
          · refine fin _ ?_
            have hin : rs.any (eqS dx) = false := by simpa using hin
            rw [hin]
            rfl
        · rintro H' ⟨ex, hD⟩
          rw [hl, List.take_of_length_le (Nat.le_refl _)] at hD
          refine ⟨D, _, rfl, SqL.of hD, ?_⟩
          have := q H' ex
          rw [List.all_map]
          exact this
    | _ => exact ite2 (fun _ => q H (Ex.refl H)) (fun h => (h rfl).elim)
/-- the first place of a tuple is no endless text -/
def headOk (d : PyData) : Prop := ∀ x r, d = .tuple (x :: r) → strOk x
structure spOwn (K : PySem.W.Frag) (vs : List V) (H : Hp) (Q : VK) (E_ : XK) : Prop where
  mk' ::
  out : ∃ v d pr rs, vs = [v, .ref pr] ∧ Dq K H v d ∧ headOk d ∧ H pr = some (.lst (rs.map V.str)) ∧ rs.length ≤ 4096 ∧ ∀ H2, Ex H H2 → Q (.bl (ownerF rs d)) H2
theorem tp_k {v : V} {d : PyData} {n : Nat} {H : Hp} {Q : VK} {E : XK} (h : Dq K H v d) (q : Q (.bl (tupN n d)) H) : spTp K [v, .int n] H Q E := by

  exact ⟨v, d, n, rfl, h, q⟩
theorem nm_k {v : V} {d : PyData} {H : Hp} {Q : VK} {E : XK} (h : Dq K H v d) (z : strOk d) (q : ∀ H2, Ex H H2 → Q (.bl (nameD d)) H2) : spNm K [v] H Q E := by

  exact ⟨v, d, rfl, h, z, q⟩
theorem cho_k {v : V} {d : PyData} {pr : Addr} {rs : List Str} {H : Hp} {Q : VK} {E : XK} (h : Dq K H v d) (hpr : H pr = some (.lst (rs.map V.str))) (hl : rs.length ≤ 4096) (q : ∀ H2, Ex H H2 → Q (.bl (choiceF rs d)) H2) : spCho K [v, .ref pr] H Q E := by

  exact ⟨v, d, pr, rs, rfl, h, hpr, hl, q⟩
theorem ok_own {fT fN fC : Addr} {fdT fdN fdC : FuncData} (F : Fun K "is_owner" "is_owner" sOwn f fd)
    (FT : FnOk P w K mg base CX0 1 fT fdT ["value", "size"] (spTp K)) (mT : mg "is_tuple_of" = some (.ref fT)) (kT : PySem.W.keepIn K (.ref fT) = true) (bT : Binds K fdT ["value", "size"] [])
    (FN : FnOk P w K mg base CX0 1 fN fdN ["value"] (spNm K)) (mN : mg "is_name" = some (.ref fN)) (kN : PySem.W.keepIn K (.ref fN) = true) (bN : Binds K fdN ["value"] [])
    (FC : FnOk P w K mg base CX0 1 fC fdC ["value", "rights"] (spCho K)) (mC : mg "is_choice" = some (.ref fC)) (kC : PySem.W.keepIn K (.ref fC) = true) (bC : Binds K fdC ["value", "rights"] []) :
    FnOk P w K mg base CX0 2 f fd ["value", "rights"] (spOwn K) := by
  refine F.ok scOwn (fun vs H Q E h => ?_) (fun cdv A outer s H vs Q E hr h => ?_)
  · obtain ⟨_, _, _, _, rfl, _⟩ := h
    rfl
  · obtain ⟨v, d, pr, rs, rfl, hd, hz, hpr, hrl, q⟩ := h
    refine ⟨_, pss_one (ps_ret (pe_and (pe_call FT hr rfl mT kT bT .nil pass0 (pa_cons (pv 0) (pa_cons pe_int pa_nil)))
      (pe_and (pe_call FN hr rfl mN kN bN .nil pass0 (pa_cons (pe_ix ix_tup (pv 0) pe_int (fun _ _ => rfl)) pa_nil))
      (pe_one (pe_call FC hr rfl mC kC bC .nil pass0 (pa_cons (pe_ix ix_tup (pv 0) pe_int (fun _ _ => rfl)) (pa_cons (pv 1) pa_nil))))))), ?_⟩
    refine ⟨_, rfl, tp_k (n := 2) hd ⟨_, rfl, ite2 (fun h2 => ?_) (fun h2 => ?_)⟩⟩
    · obtain ⟨a, b, rfl⟩ : ∃ a b, d = .tuple [a, b] := by
        match d, h2 with
        | .tuple [a, b], _ => exact ⟨a, b, rfl⟩
        | .tuple [], h => cases h
        | .tuple [_], h => cases h
        | .tuple (_ :: _ :: _ :: _), h => simp [tupN] at h
      cases hd with
      | @tup ad xs _ hT hx =>
      cases hx with
      | @cons v0 _ _ _ g0 hx =>
      cases hx with
      | @cons v1 _ _ _ g1 hx =>
      cases hx
      refine ⟨_, rfl, ad, _, 0, v0, rfl, rfl, hT, atI_nat (j := 0) rfl, nm_k g0 (hz _ _ rfl) fun H2 e2 => ⟨_, rfl, ite2 (fun hn => ?_) (fun hn => ?_)⟩⟩
      · refine ⟨_, rfl, ad, _, 1, v1, rfl, rfl, sqt_ex (same_ex e2) hT, atI_nat (j := 1) rfl, _, rfl, cho_k (g1.mono (same_ex e2)) (e2 _ _ hpr) hrl fun H3 e3 => ?_⟩
        have := q H3 (e2.trans e3)
        simp only [ownerF, hn, Bool.true_and] at this
        exact this
      · have := q H2 e2
        have hn : nameD a = false := by simpa using hn
        simp only [ownerF, hn, Bool.false_and] at this
        exact this
    · have := q H (Ex.refl H)
      have e : ownerF rs d = false := by
        match d, h2 with
        | .tuple [a, b], h => exact absurd rfl h
        | .tuple [], _ => rfl
        | .tuple [_], _ => rfl
        | .tuple (_ :: _ :: _ :: _), _ => rfl
        | .none, _ => rfl
        | .bool _, _ => rfl
        | .int _, _ => rfl
        | .str _, _ => rfl
        | .list _, _ => rfl
        | .dict _, _ => rfl
      rw [e] at this
      exact this
structure spFun (K : PySem.W.Frag) (n : Nat) (vs : List V) (H : Hp) (Q : VK) (E_ : XK) : Prop where
  mk' ::
  out : ∃ v d po pn pr os ns rs, vs = [v, .ref po, .ref pn, .ref pr] ∧ Dq K H v d ∧ headOk d ∧ d.depth ≤ n + 1 ∧ H po = some (.lst (os.map V.str)) ∧ H pn = some (.lst (ns.map V.str)) ∧ H pr = some (.lst (rs.map V.str)) ∧ ∀ H2, Ex H H2 → Q (.bl (functionF os ns rs d)) H2
theorem bd_k {v : V} {d : PyData} {pn pr : Addr} {ns rs : List Str} {mk : Bool} {n : Nat} {H : Hp} {Q : VK} {E : XK} (h : Dq K H v d) (hn : d.depth ≤ n) (hpn : H pn = some (.lst (ns.map V.str))) (hpr : H pr = some (.lst (rs.map V.str))) (q : ∀ H2, Ex H H2 → Q (.bl (bodyF ns rs mk d)) H2) :
    spV K bodG (fun _ => True) n [v, .ref pn, .ref pr, .bl mk] H Q E := by

  exact ⟨v, d, pn, pr, ns, rs, mk, rfl, h, hn, trivial, hpn, hpr, q⟩
theorem ok_fun {n : Nat} {fT fN fB : Addr} {fdT fdN fdB : FuncData} (F : Fun K "is_function" "is_function" sFun f fd)
    (FT : FnOk P w K mg base CX0 1 fT fdT ["value", "size"] (spTp K)) (mT : mg "is_tuple_of" = some (.ref fT)) (kT : PySem.W.keepIn K (.ref fT) = true) (bT : Binds K fdT ["value", "size"] [])
    (FN : FnOk P w K mg base CX0 1 fN fdN ["value"] (spNm K)) (mN : mg "is_name" = some (.ref fN)) (kN : PySem.W.keepIn K (.ref fN) = true) (bN : Binds K fdN ["value"] [])
    (FB : FnOk P w K mg base CX0 (3 * n + 4) fB fdB ["value", "names", "rights", "marked"] (spV K bodG (fun _ => True) n)) (mB : mg "is_body" = some (.ref fB)) (kB : PySem.W.keepIn K (.ref fB) = true) (bB : Binds K fdB ["value", "names", "rights", "marked"] [.bool false]) :
    FnOk P w K mg base CX0 (3 * n + 5) f fd ["value", "owner_names", "names", "rights"] (spFun K n) := by
  refine F.ok scFun (fun vs H Q E h => ?_) (fun cdv A outer s H vs Q E hr h => ?_)
  · obtain ⟨_, _, _, _, _, _, _, _, rfl, _⟩ := h
    rfl
  · obtain ⟨v, d, po, pn, pr, os, ns, rs, rfl, hd, hz, hn, hpo, hpn, hpr, q⟩ := h
    have r1 := hr.mono (j := 1) (by omega)
    have hu1 : (A.deeper (envOfC "is_function" (defScope sFun) s.heap.objs.size f cdv)).units + 1 < cLine := Nat.lt_of_le_of_lt (Nat.add_le_add_left (by decide : 1 ≤ 64) _) hr.units
    refine ⟨_, pss_cons (ps_if (PW.pt (pw_or (pt_not (pt_val (pe_call FT r1 rfl mT kT bT .nil pass0 (pa_cons (pv 0) (pa_cons pe_int pa_nil))))) (pw_or (pt_not (pt_val (pe_call FN r1 rfl mN kN bN .nil pass0 (pa_cons (pe_ix ix_tup (pv 0) pe_int (fun _ _ => rfl)) pa_nil)))) (pw_or1 (pt_cmpR (op_notInTs hu1) (pe_ix ix_tup (pv 0) pe_int (fun _ _ => rfl)) (pv 1) (by rfl)))))) (pss_one (ps_ret pe_bl)) pss_nil)
      (pss_one (ps_ret (pe_call (dvs := [.bl false]) FB hr rfl mB kB bB (.cons rfl .nil) pass0 (pa_cons (pe_ix ix_tup (pv 0) pe_int (fun _ _ => rfl)) (pa_cons (pv 2) (pa_cons (pv 3) pa_nil)))))), ?_⟩
    refine ⟨_, rfl, tp_k (n := 3) hd ⟨_, rfl, ite2 (fun h2 => ?_) (fun h2 => ?_)⟩⟩
    · have h2 : tupN 3 d = false := by simpa using h2
      have e : functionF os ns rs d = false := by
        match d, h2 with
        | .tuple [a, b, c], h => cases h
        | .tuple [], _ => rfl
        | .tuple [_], _ => rfl
        | .tuple [_, _], _ => rfl
        | .tuple (_ :: _ :: _ :: _ :: _), _ => rfl
        | .none, _ => rfl
        | .bool _, _ => rfl
        | .int _, _ => rfl
        | .str _, _ => rfl
        | .list _, _ => rfl
        | .dict _, _ => rfl
      have := q H (Ex.refl H)
      rw [e] at this
      exact this
    · have h2 : tupN 3 d = true := by simpa using h2
      obtain ⟨a, b, c, rfl⟩ : ∃ a b c, d = .tuple [a, b, c] := by
        match d, h2 with
        | .tuple [a, b, c], _ => exact ⟨a, b, c, rfl⟩
        | .tuple [], h => cases h
        | .tuple [_], h => cases h
        | .tuple [_, _], h => cases h
        | .tuple (_ :: _ :: _ :: _ :: _), h => simp [tupN] at h
      have hc : c.depth ≤ n := by
        simp only [PyData.depth, PyData.depthAll] at hn
        omega
      cases hd with
      | @tup ad xs _ hT hx =>
      cases hx with
      | @cons v0 _ _ _ g0 hx =>
      cases hx with
      | @cons v1 _ _ _ g1 hx =>
      cases hx with
      | @cons v2 _ _ _ g2 hx =>
      cases hx
      refine ⟨_, rfl, ad, _, 0, v0, rfl, rfl, hT, atI_nat (j := 0) rfl, nm_k g0 (hz _ _ rfl) fun H2 e2 => ⟨_, rfl, ite2 (fun hn => ?_) (fun hn => ?_)⟩⟩
      · have hn : nameD a = false := by simpa using hn
        have := q H2 e2
        simp only [functionF, hn, Bool.false_and] at this
        exact this
      · have hn : nameD a = true := by simpa using hn
        refine ⟨_, rfl, ad, _, 1, v1, rfl, rfl, sqt_ex (same_ex e2) hT, atI_nat (j := 1) rfl, _, rfl, b, os, po, g1.mono (same_ex e2), rfl, SqL.of (e2 _ _ hpo), _, rfl, ite2 (fun hi => ?_) (fun hi => ?_)⟩
        · have hi : os.any (eqS b) = false := by simpa using hi
          have := q H2 e2
          simp only [functionF, hn, hi, Bool.true_and, Bool.false_and] at this
          exact this
        · have hi : os.any (eqS b) = true := by simpa using hi
          refine ⟨_, rfl, ad, _, 2, v2, rfl, rfl, sqt_ex (same_ex e2) hT, atI_nat (j := 2) rfl, _, rfl, _, rfl, bd_k (g2.mono (same_ex e2)) hc (e2 _ _ hpn) (e2 _ _ hpr) fun H3 e3 => ?_⟩
          have := q H3 (e2.trans e3)
          simp only [functionF, hn, hi, Bool.true_and] at this
          exact this
end
end Lx

set_option Elab.async false
set_option maxRecDepth 100000
set_option linter.all false
set_option maxHeartbeats 4000000
namespace Lx
open PySem PySem.Spec PyProof.Rows L2 Evl Kx
section
variable {P : Program} {w : World} {K : PySem.W.Frag} {mg : Str → Option Value} {base : Heap} {f : Addr} {fd : FuncData}
abbrev sSz : Stmt := top 34
abbrev sCkR : Stmt := top 35
theorem scSz : FnScope ["value", "most"] ["value", "most"] (defScope sSz) := ⟨rfl, rfl, rfl, by decide +kernel, rfl, by decide +kernel, by decide +kernel⟩
theorem scCkR : FnScope ["rights", "known", "item"] ["rights"] (defScope sCkR) := ⟨rfl, rfl, rfl, by decide +kernel, rfl, by decide +kernel, by decide +kernel⟩
def sizeF (m : Nat) : PyData → Bool
  | .list ds => decide (1 ≤ ds.length) && decide (ds.length ≤ m)
  | _ => false
/-- refused: C with v -/
def Refuse (H : Hp) (E : XK) (C : Addr) (v : V) : Prop := ∀ H1, Ex H H1 → ∀ d H2, XFly H1 H2 d "value" v → E (.ref C) (some d) H2
structure spSz (K : PySem.W.Frag) (CL : Addr) (vs : List V) (H : Hp) (Q : VK) (E : XK) : Prop where
  mk' ::
  out : ∃ v d m, vs = [v, .int (m : Nat)] ∧ Dq K H v d ∧ (sizeF m d = true → Q .non H) ∧ (sizeF m d = false → Refuse H E CL v)
theorem ok_sz {CL fI : Addr} {fdI : FuncData} (F : Fun K "check_size" "check_size" sSz f fd) (T : XCls P w K mg "InvalidList" "value" CL fI fdI) (mL : mg "len" = none) (mI : mg "isinstance" = none) (mLi : mg "list" = none) :
    FnOk P w K mg base (L2.CX P w) 3 f fd ["value", "most"] (spSz K CL) := by
  refine F.okX scSz (fun vs H Q E h => ?_) (fun cdv A outer s H vs Q E hr h => ?_)
  · obtain ⟨_, _, _, rfl, _⟩ := h
    rfl
  · obtain ⟨v, d, m, rfl, hd, q1, q2⟩ := h
    refine ⟨_, pss_one (ps_if (PW.pt (pw_or (pt_not (pt_val (pe_callB (isi_S (K := K)) (by rfl) mI PyProof.Rows.boot_isinstance (pa_cons (pv 0) (pa_cons (pe_bltn (v := .ty "list") (by rfl) mLi (by decide +kernel) rfl) pa_nil))))) (pw_or1 (pt_not (pt_chain op_le op_le pe_int (pe_callB call_len_seq (by rfl) mL PySem.boot_len (pa_cons (pv 0) pa_nil)) (pv 1))))))
      (pss_one (ps_raiseX rfl rfl (takes_of rfl rfl rfl rfl) T hr (by rfl) (pv 0) (fun σ H Q Q' k ⟨v, h1, h2⟩ => ⟨v, h1, k _ _ h2⟩))) pss_nil), ?_⟩
    have bad : sizeF m d = false → ∀ H1, Ex H H1 → (∀ a, H1 a = none → H a = none) ∧ ∀ d H2, XFly H1 H2 d "value" v → E (.ref CL) (some d) H2 := fun z H1 x => ⟨fun a ha => fresh_back x ha, q2 z H1 x⟩
    refine ⟨_, rfl, isi_l hd ⟨_, rfl, ?_⟩⟩
    cases hd with
    | @lst a xs ds ha hx =>
      have hl := dqa_len hx
      refine ite2 (fun h => Bool.noConfusion h) (fun _ => ⟨_, rfl, a, xs, rfl, .inl (SqL.of ha), _, _, rfl, rfl, _, rfl, ?_⟩)
      refine ite2 (fun h1 => ⟨_, rfl, _, _, rfl, rfl, _, rfl, ite2 (fun h2 => ?_) (fun h2 => ?_)⟩) (fun h1 => ⟨_, rfl, ?_⟩)
      · refine ⟨_, rfl, bad ?_ H (Ex.refl H)⟩
        have h2 : ¬ (ds.length ≤ m) := fun z => by
          have : decide ((xs.length : Int) ≤ (m : Int)) = true := decide_eq_true (by omega)
          rw [this] at h2
          cases h2
        simp only [sizeF, decide_eq_false h2, Bool.and_false]
      · have h1 := of_decide_eq_true h1
        have h2 : ds.length ≤ m := by
          cases y : decide ((xs.length : Int) ≤ (m : Int)) with
          | false => exact (h2 (by rw [y]; rfl)).elim
          | true =>
            have := of_decide_eq_true y
            omega
        have h3 : 1 ≤ ds.length := by omega
        exact q1 (by simp only [sizeF, decide_eq_true h2, decide_eq_true h3, Bool.and_self])
      · refine ite2 (fun _ => ⟨_, rfl, bad ?_ H (Ex.refl H)⟩) (fun z => (z rfl).elim)
        have h1 : ¬ 1 ≤ ds.length := fun z => h1 (decide_eq_true (by omega))
        simp only [sizeF, decide_eq_false h1, Bool.false_and]
    | _ => exact ite2 (fun _ => ⟨_, rfl, bad rfl H (Ex.refl H)⟩) (fun h => (h rfl).elim)
/-- the first right that is refused, behind those that are known -/
def rBad : List Str → List PyData → Option Nat
  | _, [] => none
  | kn, d :: r => if !nameD d || kn.any (eqS d) then some 0 else match d with
    | .str z => (rBad (kn ++ [z]) r).map (· + 1)
    | _ => some 0
theorem name_str {d : PyData} (h : nameD d = true) : ∃ z, d = .str z := by
  cases d with
  | str z => exact ⟨z, rfl⟩
  | _ => cases h
structure spCkR (K : PySem.W.Frag) (CL CI : Addr) (vs : List V) (H : Hp) (Q : VK) (E : XK) : Prop where
  mk' ::
  out : ∃ v d, vs = [v] ∧ Dq K H v d ∧ (∀ ds, d = .list ds → ∀ x ∈ ds, strOk x) ∧ (sizeF 5 d = false → Refuse H E CL v) ∧
  (∀ a xs ds, v = .ref a → H a = some (.lst xs) → d = .list ds → sizeF 5 d = true → (rBad [] ds = none → ∀ H2, Ex H H2 → Q .non H2) ∧ (∀ i x, rBad [] ds = some i → xs[i]? = some x → Refuse H E CI x))
theorem sz_k {v : V} {d : PyData} {m : Nat} {CL : Addr} {H : Hp} {Q : VK} {E : XK} (h : Dq K H v d) (q1 : sizeF m d = true → Q .non H) (q2 : sizeF m d = false → Refuse H E CL v) : spSz K CL [v, .int m] H Q E := by

  exact ⟨v, d, m, rfl, h, q1, q2⟩
theorem ok_ckR {CL CI fI fI2 fS fN : Addr} {fdI fdI2 fdS fdN : FuncData} (F : Fun K "check_rights" "check_rights" sCkR f fd) (TI : XCls P w K mg "InvalidItem" "value" CI fI2 fdI2)
    (FS : FnOk P w K mg base (L2.CX P w) 3 fS fdS ["value", "most"] (spSz K CL)) (mS : mg "check_size" = some (.ref fS)) (kS : PySem.W.keepIn K (.ref fS) = true) (bS : Binds K fdS ["value", "most"] [])
    (FN : FnOk P w K mg base CX0 1 fN fdN ["value"] (spNm K)) (mN : mg "is_name" = some (.ref fN)) (kN : PySem.W.keepIn K (.ref fN) = true) (bN : Binds K fdN ["value"] [])
    {tn : Value} (mM : mg "MOST_RIGHTS" = some tn) (rM : RelV (.int 5) tn) :
    FnOk P w K mg base (L2.CX P w) 4 f fd ["rights"] (spCkR K CL CI) := by
  refine F.okX scCkR (fun vs H Q E h => ?_) (fun cdv A outer s H vs Q E hr h => ?_)
  · obtain ⟨_, _, rfl, _⟩ := h
    rfl
  · obtain ⟨v, d, rfl, hd, hz, q1, q2⟩ := h
    have r1 := hr.mono (j := 1) (by decide)
    have r2 := hr.mono (j := 2) (by decide)
    have hu1 : (A.deeper (envOfC "check_rights" (defScope sCkR) s.heap.objs.size f cdv)).units + 1 < cLine := Nat.lt_of_le_of_lt (Nat.add_le_add_left (by decide : 1 ≤ 64) _) hr.units
    refine ⟨_, pss_cons (ps_expr (pe_callS FS hr (by rfl) mS kS bS (fun σ => passAt (takes_of rfl rfl rfl rfl) σ) (pa_cons (pv 0) (pa_cons (pe_glob (by rfl) mM rM) pa_nil))))
      (pss_cons (ps_set (i := 1) scCkR.nd rfl (Or.inl rfl) (pe_lst pa_nil))
      (pss_one (ps_for (passes_of rfl) rfl (pi_list (pv 0)) (pg_name (i := 2) scCkR.nd rfl (Or.inl rfl))
        (pss_cons (ps_if (PW.pt (pw_or (pt_not (pt_val (pe_call FN r1 rfl mN kN bN .nil pass0 (pa_cons (pv 2) pa_nil)))) (pw_or1 (pt_cmpR (op_inTs hu1) (pv 2) (pv 1) (by rfl)))))
          (pss_one (ps_raiseX rfl rfl (takes_of rfl rfl rfl rfl) TI r2 (by rfl) (pv 2) (fun σ H Q Q' k ⟨v, h1, h2⟩ => ⟨v, h1, k _ _ h2⟩))) pss_nil)
        (pss_one (ps_expr (pe_bm PySem.F.plainAttrs_list PySem.F.slot_list_append PySem.F.type_list_append mt_append (pv 1) (pa_cons (pv 2) pa_nil)))))))), ?_⟩
    refine ⟨_, rfl, sz_k (m := 5) hd (fun hs => ?_) q1⟩
    cases hd with
    | @lst a xs ds ha hx =>
      obtain ⟨qo, qb⟩ := q2 a xs ds rfl ha rfl hs
      have hz := hz ds rfl
      have h5 : ds.length ≤ 5 := by
        simp only [sizeF, Bool.and_eq_true, decide_eq_true_eq] at hs
        exact hs.2
      have hl := dqa_len hx
      refine ⟨by show 0 ≤ sizeLine; decide, fun pk npk => ?_⟩
      have e0 : Ex H (upd H pk (.lst [])) := Ex.new npk
      refine ⟨_, rfl, a, rfl, ⟨_, SqL.of (e0 _ _ ha)⟩, ?_⟩
      refine for_list (K := K) (a := a) (xs := xs) (fun i σ H' => ∃ (t : Option V) (kn : List Str), σ = [some (.ref a), some (.ref pk), t] ∧ Ex H H' ∧ H' pk = some (.lst (kn.map V.str)) ∧ kn.length = i ∧ rBad [] ds = (rBad kn (ds.drop i)).map (· + i)) ?_ (fun i σ H' _ ⟨_, _, _, x, _⟩ => SqL.of (x _ _ ha)) ?_ ?_
      · exact ⟨none, [], rfl, e0, upd_same, rfl, by rw [List.drop_zero]; cases rBad [] ds <;> rfl⟩
      · rintro i x σ H' hi ⟨t, kn, rfl, ex, hk, hkl, hb⟩
        obtain ⟨dx, hdx, gx⟩ := dqa_get hx hi
        have hil := (List.getElem?_eq_some_iff.mp hdx).1
        have hdr : ds.drop i = dx :: ds.drop (i + 1) := by
          rw [List.drop_eq_getElem_cons hil]
          congr 1
          exact (List.getElem?_eq_some_iff.mp hdx).2
        rw [hdr] at hb
        have bad : (!nameD dx || kn.any (eqS dx)) = true → ∀ H1, Ex H' H1 → (∀ b, H1 b = none → H b = none) ∧ ∀ d H2, XFly H1 H2 d "value" x → E (.ref CI) (some d) H2 := fun z H1 x1 => by
          simp only [rBad, z, if_true, Option.map_some, Nat.zero_add] at hb
          exact ⟨fun b hb' => fresh_back (ex.trans x1) hb', qb i x hb hi H1 (ex.trans x1)⟩
        refine ⟨_, rfl, nm_k (gx.mono (same_ex ex)) (hz dx (List.mem_of_getElem? hdx)) fun H2 e2 => ⟨_, rfl, ite2 (fun hn => ?_) (fun hn => ?_)⟩⟩
        · exact ⟨_, rfl, bad (by rw [hn]; rfl) H2 e2⟩
        · have hn : nameD dx = true := by simpa using hn
          refine ⟨_, rfl, _, rfl, dx, kn, pk, gx.mono (same_ex (ex.trans e2)), rfl, SqL.of (e2 _ _ hk), _, rfl, ite2 (fun hin => ?_) (fun hin => ?_)⟩
          · have hin : kn.any (eqS dx) = true := by simpa using hin
            exact ⟨_, rfl, bad (by rw [hin, Bool.or_true]) H2 e2⟩
          · have hin : kn.any (eqS dx) = false := by simpa using hin
            obtain ⟨z, rfl⟩ := name_str hn
            cases gx
            have e3z : (5000 : Nat) < sizeLine := by decide
            refine ⟨_, rfl, .inl ⟨rfl, _, SqL.of (e2 _ _ hk)⟩, _, rfl, pk, _, .str z, rfl, rfl, e2 _ _ hk, by rw [List.length_map]; omega, _, kn ++ [z], rfl, ?_, ?_, ?_, ?_⟩
            · intro b o hb'
              rw [upd_ne (ne_of_none hb' npk)]
              exact e2 _ _ (ex _ _ hb')
            · rw [upd_same, List.map_append]
              rfl
            · rw [List.length_append, hkl]
              rfl
            · rw [hb]
              have : rBad kn (.str z :: ds.drop (i + 1)) = (rBad (kn ++ [z]) (ds.drop (i + 1))).map (· + 1) := by
                simp only [rBad, hn, hin, Bool.not_true, Bool.or_self, Bool.false_eq_true, if_false]
              rw [this, Option.map_map]
              congr 1
              funext k
              show k + 1 + i = k + (i + 1)
              omega
      · rintro σ H' ⟨t, kn, rfl, ex, hk, hkl, hb⟩
        rw [hl, List.drop_of_length_le (Nat.le_refl _)] at hb
        exact qo (by rw [hb]; rfl) H' ex
    | _ => cases hs
end
end Lx

set_option Elab.async false
set_option maxRecDepth 100000
set_option linter.all false
set_option maxHeartbeats 4000000
namespace Lx
open PySem PySem.Spec PyProof.Rows L2 Evl Kx
section
variable {P : Program} {w : World} {K : PySem.W.Frag} {mg : Str → Option Value} {base : Heap} {f : Addr} {fd : FuncData}
abbrev sCkO : Stmt := top 36
theorem scCkO : FnScope ["owners", "rights", "known", "item"] ["owners", "rights"] (defScope sCkO) := ⟨rfl, rfl, rfl, by decide +kernel, rfl, by decide +kernel, by decide +kernel⟩
/-- the text at the first place of a tuple -/
def headS : PyData → Str
  | .tuple (.str z :: _) => z
  | _ => ""
/-- the first owner that is refused, behind those that are known -/
def oBad (rs : List Str) : List Str → List PyData → Option Nat
  | _, [] => none
  | kn, d :: r => if !ownerF rs d || kn.any (eqS (.str (headS d))) then some 0 else (oBad rs (kn ++ [headS d]) r).map (· + 1)
theorem owner_head {rs : List Str} {d : PyData} (h : ownerF rs d = true) : ∃ z b, d = .tuple [.str z, b] := by
  match d, h with
  | .tuple [.str z, b], _ => exact ⟨z, b, rfl⟩
  | .tuple [], h => cases h
  | .tuple [_], h => cases h
  | .tuple (_ :: _ :: _ :: _), h => simp [ownerF] at h
structure spCkO (K : PySem.W.Frag) (CL CI : Addr) (vs : List V) (H : Hp) (Q : VK) (E : XK) : Prop where
  mk' ::
  out : ∃ v d pr rs, vs = [v, .ref pr] ∧ Dq K H v d ∧ H pr = some (.lst (rs.map V.str)) ∧ rs.length ≤ 4096 ∧ (∀ ds, d = .list ds → ∀ x ∈ ds, headOk x) ∧ (sizeF 5 d = false → Refuse H E CL v) ∧
  (∀ a xs ds, v = .ref a → H a = some (.lst xs) → d = .list ds → sizeF 5 d = true → (oBad rs [] ds = none → ∀ H2, Ex H H2 → Q .non H2) ∧ (∀ i x, oBad rs [] ds = some i → xs[i]? = some x → Refuse H E CI x))
theorem own_k {v : V} {d : PyData} {pr : Addr} {rs : List Str} {H : Hp} {Q : VK} {E : XK} (h : Dq K H v d) (hz : headOk d) (hpr : H pr = some (.lst (rs.map V.str))) (hl : rs.length ≤ 4096) (q : ∀ H2, Ex H H2 → Q (.bl (ownerF rs d)) H2) : spOwn K [v, .ref pr] H Q E := by

  exact ⟨v, d, pr, rs, rfl, h, hz, hpr, hl, q⟩
theorem ok_ckO {CL CI fI2 fS fO : Addr} {fdI2 fdS fdO : FuncData} (F : Fun K "check_owners" "check_owners" sCkO f fd) (TI : XCls P w K mg "InvalidItem" "value" CI fI2 fdI2)
    (FS : FnOk P w K mg base (L2.CX P w) 3 fS fdS ["value", "most"] (spSz K CL)) (mS : mg "check_size" = some (.ref fS)) (kS : PySem.W.keepIn K (.ref fS) = true) (bS : Binds K fdS ["value", "most"] [])
    (FO : FnOk P w K mg base CX0 2 fO fdO ["value", "rights"] (spOwn K)) (mO : mg "is_owner" = some (.ref fO)) (kO : PySem.W.keepIn K (.ref fO) = true) (bO : Binds K fdO ["value", "rights"] [])
    {tn : Value} (mM : mg "MOST_OWNERS" = some tn) (rM : RelV (.int 5) tn) :
    FnOk P w K mg base (L2.CX P w) 4 f fd ["owners", "rights"] (spCkO K CL CI) := by
  refine F.okX scCkO (fun vs H Q E h => ?_) (fun cdv A outer s H vs Q E hr h => ?_)
  · obtain ⟨_, _, _, _, rfl, _⟩ := h
    rfl
  · obtain ⟨v, d, pr, rs, rfl, hd, hpr, hrl, hz, q1, q2⟩ := h
    have r2 := hr.mono (j := 2) (by decide)
    have hu1 : (A.deeper (envOfC "check_owners" (defScope sCkO) s.heap.objs.size f cdv)).units + 1 < cLine := Nat.lt_of_le_of_lt (Nat.add_le_add_left (by decide : 1 ≤ 64) _) hr.units
    refine ⟨_, pss_cons (ps_expr (pe_callS FS hr (by rfl) mS kS bS (fun σ => passAt (takes_of rfl rfl rfl rfl) σ) (pa_cons (pv 0) (pa_cons (pe_glob (by rfl) mM rM) pa_nil))))
      (pss_cons (ps_set (i := 2) scCkO.nd rfl (Or.inl rfl) (pe_lst pa_nil))
      (pss_one (ps_for (passes_of rfl) rfl (pi_list (pv 0)) (pg_name (i := 3) scCkO.nd rfl (Or.inl rfl))
        (pss_cons (ps_if (PW.pt (pw_or (pt_not (pt_val (pe_call FO r2 rfl mO kO bO .nil pass0 (pa_cons (pv 3) (pa_cons (pv 1) pa_nil))))) (pw_or1 (pt_cmpR (op_inTs hu1) (pe_ix ix_tup (pv 3) pe_int (fun _ _ => rfl)) (pv 2) (by rfl)))))
          (pss_one (ps_raiseX rfl rfl (takes_of rfl rfl rfl rfl) TI r2 (by rfl) (pv 3) (fun σ H Q Q' k ⟨v, h1, h2⟩ => ⟨v, h1, k _ _ h2⟩))) pss_nil)
        (pss_one (ps_expr (pe_bm PySem.F.plainAttrs_list PySem.F.slot_list_append PySem.F.type_list_append mt_append (pv 2) (pa_cons (pe_ix ix_tup (pv 3) pe_int (fun _ _ => rfl)) pa_nil)))))))), ?_⟩
    refine ⟨_, rfl, sz_k (m := 5) hd (fun hs => ?_) q1⟩
    cases hd with
    | @lst a xs ds ha hx =>
      obtain ⟨qo, qb⟩ := q2 a xs ds rfl ha rfl hs
      have hz := hz ds rfl
      have h5 : ds.length ≤ 5 := by
        simp only [sizeF, Bool.and_eq_true, decide_eq_true_eq] at hs
        exact hs.2
      have hl := dqa_len hx
      refine ⟨by show 0 ≤ sizeLine; decide, fun pk npk => ?_⟩
      have e0 : Ex H (upd H pk (.lst [])) := Ex.new npk
      refine ⟨_, rfl, a, rfl, ⟨_, SqL.of (e0 _ _ ha)⟩, ?_⟩
      refine for_list (K := K) (a := a) (xs := xs) (fun i σ H' => ∃ (t : Option V) (kn : List Str), σ = [some (.ref a), some (.ref pr), some (.ref pk), t] ∧ Ex H H' ∧ H' pk = some (.lst (kn.map V.str)) ∧ kn.length = i ∧ oBad rs [] ds = (oBad rs kn (ds.drop i)).map (· + i)) ?_ (fun i σ H' _ ⟨_, _, _, x, _⟩ => SqL.of (x _ _ ha)) ?_ ?_
      · exact ⟨none, [], rfl, e0, upd_same, rfl, by rw [List.drop_zero]; cases oBad rs [] ds <;> rfl⟩
      · rintro i x σ H' hi ⟨t, kn, rfl, ex, hk, hkl, hb⟩
        obtain ⟨dx, hdx, gx⟩ := dqa_get hx hi
        have hil := (List.getElem?_eq_some_iff.mp hdx).1
        have hdr : ds.drop i = dx :: ds.drop (i + 1) := by
          rw [List.drop_eq_getElem_cons hil]
          congr 1
          exact (List.getElem?_eq_some_iff.mp hdx).2
        rw [hdr] at hb
        have bad : (!ownerF rs dx || kn.any (eqS (.str (headS dx)))) = true → ∀ H1, Ex H' H1 → (∀ b, H1 b = none → H b = none) ∧ ∀ d H2, XFly H1 H2 d "value" x → E (.ref CI) (some d) H2 := fun z H1 x1 => by
          simp only [oBad, z, if_true, Option.map_some, Nat.zero_add] at hb
          exact ⟨fun b hb' => fresh_back (ex.trans x1) hb', qb i x hb hi H1 (ex.trans x1)⟩
        refine ⟨_, rfl, _, rfl, own_k (gx.mono (same_ex ex)) (hz dx (List.mem_of_getElem? hdx)) (ex _ _ hpr) hrl fun H2 e2 => ⟨_, rfl, ite2 (fun hn => ?_) (fun hn => ?_)⟩⟩
        · exact ⟨_, rfl, bad (by rw [hn]; rfl) H2 e2⟩
        · have hn : ownerF rs dx = true := by simpa using hn
          obtain ⟨z, b2, rfl⟩ := owner_head hn
          have gx2 := gx
          cases gx with
          | @tup ad ys _ hT hy =>
          cases hy with
          | @cons v0 _ _ _ g0 hy =>
          cases g0
          have hT2 := sqt_ex (same_ex (ex.trans e2)) hT
          refine ⟨_, rfl, ad, _, 0, .str z, rfl, rfl, hT2, atI_nat (j := 0) rfl, _, rfl, .str z, kn, pk, .str z, rfl, SqL.of (e2 _ _ hk), _, rfl, ite2 (fun hin => ?_) (fun hin => ?_)⟩
          · have hin : kn.any (eqS (.str z)) = true := by simpa using hin
            exact ⟨_, rfl, bad (by show (_ || kn.any (eqS (.str z))) = true; rw [hin, Bool.or_true]) H2 e2⟩
          · have hin : kn.any (eqS (.str z)) = false := by simpa using hin
            have e3z : (5000 : Nat) < sizeLine := by decide
            refine ⟨_, rfl, .inl ⟨rfl, _, SqL.of (e2 _ _ hk)⟩, _, rfl, ad, _, 0, .str z, rfl, rfl, hT2, atI_nat (j := 0) rfl, pk, _, .str z, rfl, rfl, e2 _ _ hk, by rw [List.length_map]; omega, _, kn ++ [z], rfl, ?_, ?_, ?_, ?_⟩
            · intro b o hb'
              rw [upd_ne (ne_of_none hb' npk)]
              exact e2 _ _ (ex _ _ hb')
            · rw [upd_same, List.map_append]
              rfl
            · rw [List.length_append, hkl]
              rfl
            · rw [hb]
              have : oBad rs kn (.tuple [.str z, b2] :: ds.drop (i + 1)) = (oBad rs (kn ++ [z]) (ds.drop (i + 1))).map (· + 1) := by
                simp only [oBad, headS, hn, hin, Bool.not_true, Bool.or_self, Bool.false_eq_true, if_false]
              rw [this, Option.map_map]
              congr 1
              funext k
              show k + 1 + i = k + (i + 1)
              omega
      · rintro σ H' ⟨t, kn, rfl, ex, hk, hkl, hb⟩
        rw [hl, List.drop_of_length_le (Nat.le_refl _)] at hb
        exact qo (by rw [hb]; rfl) H' ex
    | _ => cases hs
end
end Lx

set_option Elab.async false
set_option maxRecDepth 100000
set_option linter.all false
set_option maxHeartbeats 4000000
namespace Lx
open PySem PySem.Spec PyProof.Rows L2 Evl Kx
section
variable {P : Program} {w : World} {K : PySem.W.Frag} {mg : Str → Option Value} {base : Heap} {f : Addr} {fd : FuncData}
abbrev sCkF : Stmt := top 37
theorem scCkF : FnScope ["functions", "owners", "rights", "names", "owner_names", "known", "item", "owner"] ["functions", "owners", "rights"] (defScope sCkF) := ⟨rfl, rfl, rfl, by decide +kernel, rfl, by decide +kernel, by decide +kernel⟩
def nmd (d : PyData) : Bool := tupN 3 d && (match d with
  | .tuple (x :: _) => nameD x
  | _ => false)
def namesF (ds : List PyData) : List Str := (ds.filter nmd).map headS
def fBad (os ns rs : List Str) : List Str → List PyData → Option Nat
  | _, [] => none
  | kn, d :: r => if !functionF os ns rs d || kn.any (eqS (.str (headS d))) then some 0 else (fBad os ns rs (kn ++ [headS d]) r).map (· + 1)
theorem function_head {os ns rs : List Str} {d : PyData} (h : functionF os ns rs d = true) : ∃ z b c, d = .tuple [.str z, b, c] := by
  match d, h with
  | .tuple [.str z, b, c], _ => exact ⟨z, b, c, rfl⟩
  | .tuple [], h => cases h
  | .tuple [_], h => cases h
  | .tuple [_, _], h => cases h
  | .tuple (_ :: _ :: _ :: _ :: _), h => simp [functionF] at h
structure spCkF (K : PySem.W.Frag) (n : Nat) (CL CI : Addr) (vs : List V) (H : Hp) (Q : VK) (E : XK) : Prop where
  mk' ::
  out : ∃ (v : V) (d : PyData) (po pr : Addr) (os : List Own) (rs : List Str), vs = [v, .ref po, .ref pr] ∧ Dq K H v d ∧ Dq K H (.ref po) (.list (os.map ownD)) ∧ os.length ≤ 4096 ∧ H pr = some (.lst (rs.map V.str)) ∧ (∀ ds, d = .list ds → ∀ x ∈ ds, headOk x ∧ x.depth ≤ n + 1) ∧ (sizeF 6 d = false → Refuse H E CL v) ∧
  (∀ a xs ds, v = .ref a → H a = some (.lst xs) → d = .list ds → sizeF 6 d = true → (fBad (os.map (·.1)) (namesF ds) rs [] ds = none → ∀ H2, Ex H H2 → Q .non H2) ∧ (∀ i x, fBad (os.map (·.1)) (namesF ds) rs [] ds = some i → xs[i]? = some x → Refuse H E CI x))
theorem fun_k {v : V} {d : PyData} {po pn pr : Addr} {os ns rs : List Str} {n : Nat} {H : Hp} {Q : VK} {E : XK} (h : Dq K H v d) (hz : headOk d) (hn : d.depth ≤ n + 1) (hpo : H po = some (.lst (os.map V.str))) (hpn : H pn = some (.lst (ns.map V.str))) (hpr : H pr = some (.lst (rs.map V.str)))
    (q : ∀ H2, Ex H H2 → Q (.bl (functionF os ns rs d)) H2) : spFun K n [v, .ref po, .ref pn, .ref pr] H Q E := by

  exact ⟨v, d, po, pn, pr, os, ns, rs, rfl, h, hz, hn, hpo, hpn, hpr, q⟩
theorem ok_ckF {n : Nat} {CL CI fI2 fS fF fT fN : Addr} {fdI2 fdS fdF fdT fdN : FuncData} (F : Fun K "check_functions" "check_functions" sCkF f fd) (TI : XCls P w K mg "InvalidItem" "value" CI fI2 fdI2)
    (FS : FnOk P w K mg base (L2.CX P w) 3 fS fdS ["value", "most"] (spSz K CL)) (mS : mg "check_size" = some (.ref fS)) (kS : PySem.W.keepIn K (.ref fS) = true) (bS : Binds K fdS ["value", "most"] [])
    (FF : FnOk P w K mg base CX0 (3 * n + 5) fF fdF ["value", "owner_names", "names", "rights"] (spFun K n)) (mF : mg "is_function" = some (.ref fF)) (kF : PySem.W.keepIn K (.ref fF) = true) (bF : Binds K fdF ["value", "owner_names", "names", "rights"] [])
    (FT : FnOk P w K mg base CX0 1 fT fdT ["value", "size"] (spTp K)) (mT : mg "is_tuple_of" = some (.ref fT)) (kT : PySem.W.keepIn K (.ref fT) = true) (bT : Binds K fdT ["value", "size"] [])
    (FN : FnOk P w K mg base CX0 1 fN fdN ["value"] (spNm K)) (mN : mg "is_name" = some (.ref fN)) (kN : PySem.W.keepIn K (.ref fN) = true) (bN : Binds K fdN ["value"] [])
    {tn : Value} (mM : mg "MOST_FUNCTIONS" = some tn) (rM : RelV (.int 6) tn) :
    FnOk P w K mg base (L2.CX P w) (3 * n + 6) f fd ["functions", "owners", "rights"] (spCkF K n CL CI) := by
  refine F.okX scCkF (fun vs H Q E h => ?_) (fun cdv A outer s H vs Q E hr h => ?_)
  · obtain ⟨_, _, _, _, _, _, rfl, _⟩ := h
    rfl
  · obtain ⟨v, d, po, pr, os, rs, rfl, hd, ho, hol, hpr, hz, q1, q2⟩ := h
    have r3 := hr.mono (j := 3) (by omega)
    have r2 := hr.mono (j := 2) (by omega)
    have r1 := hr.mono (j := 1) (by omega)
    have hu1 : (A.deeper (envOfC "check_functions" (defScope sCkF) s.heap.objs.size f cdv)).units + 1 < cLine := Nat.lt_of_le_of_lt (Nat.add_le_add_left (by decide : 1 ≤ 64) _) hr.units
    refine ⟨_, pss_cons (ps_expr (pe_callS FS r3 (by rfl) mS kS bS (fun σ => passAt (takes_of rfl rfl rfl rfl) σ) (pa_cons (pv 0) (pa_cons (pe_glob (by rfl) mM rM) pa_nil))))
      (pss_cons (ps_setLc (i := 3) (own := [("item", 6)]) (g := gName 6) rfl scCkF.nd rfl rfl (sw_true rfl rfl rfl (by decide +kernel)) (pi_list (pv 0))
            (blkOk_by (own := [("item", 6)]) (N := ["functions", "owners", "rights", "names", "owner_names", "known", "item", "owner"]) (sc := defScope sCkF) (by decide +kernel))
            (fun _ _ _ _ _ => pg_name (i := 6) scCkF.nd rfl (Or.inl rfl)) (fun _ _ _ _ _ => pts_one (PW.pt (pw_and (pt_val (pe_call FT r1 rfl mT kT bT .nil pass0 (pa_cons (pv 6) (pa_cons pe_int pa_nil)))) (pw_and1 (pt_val (pe_call FN r1 rfl mN kN bN .nil pass0 (pa_cons (pe_ix (ixT_K (K := K)) (pv 6) pe_int (fun _ _ => rfl)) pa_nil)))))))
            (fun _ _ _ _ _ => pe_ix (ixT_K (K := K)) (pv 6) pe_int (fun _ _ => rfl)))
      (pss_cons (ps_setLc (i := 4) (own := [("owner", 7)]) (g := gName 7) rfl scCkF.nd rfl rfl (sw_true rfl rfl rfl (by decide +kernel)) (pi_list (pv 1))
            (blkOk_by (own := [("owner", 7)]) (N := ["functions", "owners", "rights", "names", "owner_names", "known", "item", "owner"]) (sc := defScope sCkF) (by decide +kernel))
            (fun _ _ _ _ _ => pg_name (i := 7) scCkF.nd rfl (Or.inl rfl)) (fun _ _ _ _ _ => pts_nil)
            (fun _ _ _ _ _ => pe_ix (ixT_K (K := K)) (pv 7) pe_int (fun _ _ => rfl)))
      (pss_cons (ps_set (i := 5) scCkF.nd rfl (Or.inl rfl) (pe_lst pa_nil))
      (pss_one (ps_for (passes_of rfl) rfl (pi_list (pv 0)) (pg_name (i := 6) scCkF.nd rfl (Or.inl rfl))
        (pss_cons (ps_if (PW.pt (pw_or (pt_not (pt_val (pe_call FF hr rfl mF kF bF .nil pass0 (pa_cons (pv 6) (pa_cons (pv 4) (pa_cons (pv 3) (pa_cons (pv 2) pa_nil))))))) (pw_or1 (pt_cmpR (op_inTs hu1) (pe_ix ix_tup (pv 6) pe_int (fun _ _ => rfl)) (pv 5) (by rfl)))))
          (pss_one (ps_raiseX rfl rfl (takes_of rfl rfl rfl rfl) TI r2 (by rfl) (pv 6) (fun σ H Q Q' k ⟨v, h1, h2⟩ => ⟨v, h1, k _ _ h2⟩))) pss_nil)
        (pss_one (ps_expr (pe_bm PySem.F.plainAttrs_list PySem.F.slot_list_append PySem.F.type_list_append mt_append (pv 5) (pa_cons (pe_ix ix_tup (pv 6) pe_int (fun _ _ => rfl)) pa_nil)))))))))), ?_⟩
    refine ⟨_, rfl, sz_k (m := 6) hd (fun hs => ?_) q1⟩
    cases hd with
    | @lst a xs ds ha hx =>
      obtain ⟨qo, qb⟩ := q2 a xs ds rfl ha rfl hs
      have hz := hz ds rfl
      have h5 : ds.length ≤ 6 := by
        simp only [sizeF, Bool.and_eq_true, decide_eq_true_eq] at hs
        exact hs.2
      have hl := dqa_len hx
      have e3z : (5000 : Nat) < sizeLine := by decide
      refine ⟨_, rfl, a, rfl, ⟨_, SqL.of ha⟩, fun pn npn => ?_⟩
      refine lc_list (K := K) (a := a) (xs := xs) (fun i H' => Ex H H' ∧ H' pn = some (.lst ((namesF (ds.take i)).map V.str))) ?_ (fun i H' _ ⟨x, _⟩ => SqL.of (x _ _ ha)) ?_ ?_
      · exact ⟨Ex.new npn, upd_same⟩
      · rintro i x H' hi ⟨ex, hD⟩
        obtain ⟨dx, hdx, gx⟩ := dqa_get hx hi
        have tk : ds.take (i + 1) = ds.take i ++ [dx] := by
          rw [List.take_succ, hdx]
          rfl
        have hlen : ((namesF (ds.take i)).map V.str).length < sizeLine := by
          rw [List.length_map, namesF, List.length_map]
          have := List.length_filter_le nmd (ds.take i)
          rw [List.length_take] at this
          omega
        refine ⟨rfl, _, rfl, tp_k (n := 3) (gx.mono (same_ex ex)) ⟨_, rfl, ite2 (fun h3 => ?_) (fun h3 => ?_)⟩⟩
        · obtain ⟨a', b', c', rfl⟩ : ∃ a b c, dx = .tuple [a, b, c] := by
            match dx, h3 with
            | .tuple [a, b, c], _ => exact ⟨a, b, c, rfl⟩
            | .tuple [], h => cases h
            | .tuple [_], h => cases h
            | .tuple [_, _], h => cases h
            | .tuple (_ :: _ :: _ :: _ :: _), h => simp [tupN] at h
          have hz1 := (hz _ (List.mem_of_getElem? hdx)).1
          cases gx with
          | @tup ad ys _ hT hy =>
          cases hy with
          | @cons v0 _ _ _ g0 hy =>
          have hT2 := sqt_ex (same_ex ex) hT
          refine ⟨_, rfl, ad, _, 0, v0, rfl, rfl, hT2, atI_nat (j := 0) rfl, nm_k (g0.mono (same_ex ex)) (hz1 _ _ rfl) fun H2 e2 => ⟨_, rfl, ite2 (fun hn => ?_) (fun hn => ?_)⟩⟩
          · obtain ⟨z, rfl⟩ := name_str hn
            cases g0
            refine ⟨_, rfl, ad, _, 0, .str z, rfl, rfl, sqt_ex (same_ex e2) hT2, atI_nat (j := 0) rfl, _, e2 _ _ hD, hlen, ?_, ?_⟩
            · intro b o hb
              rw [upd_ne (ne_of_none hb npn)]
              exact e2 _ _ (ex _ _ hb)
            · have : namesF (ds.take i ++ [.tuple [.str z, b', c']]) = namesF (ds.take i) ++ [z] := by
                simp only [namesF, List.filter_append, List.map_append]
                congr 1
                have : nmd (.tuple [.str z, b', c']) = true := hn
                rw [List.filter_cons_of_pos this]
                rfl
              rw [upd_same, tk, this, List.map_append]
              rfl
          · have hn : nameD a' = false := by simpa using hn
            have : namesF (ds.take i ++ [.tuple [a', b', c']]) = namesF (ds.take i) := by
              simp only [namesF, List.filter_append, List.map_append]
              have : nmd (.tuple [a', b', c']) = false := hn
              rw [List.filter_cons_of_neg (by rw [this]; exact Bool.false_ne_true)]
              simp only [List.filter_nil, List.map_nil, List.append_nil]
            rw [tk, this]
            exact ⟨ex.trans e2, e2 _ _ hD⟩
        · have h3 : tupN 3 dx = false := by simpa using h3
          have : namesF (ds.take i ++ [dx]) = namesF (ds.take i) := by
            simp only [namesF, List.filter_append, List.map_append]
            have : nmd dx = false := by unfold nmd; rw [h3, Bool.false_and]
            rw [List.filter_cons_of_neg (by rw [this]; exact Bool.false_ne_true)]
            simp only [List.filter_nil, List.map_nil, List.append_nil]
          rw [tk, this]
          exact ite2 (fun h => Bool.noConfusion h) (fun _ => ⟨ex, hD⟩)
      · rintro H1 ⟨e1, hpn⟩
        rw [hl, List.take_of_length_le (Nat.le_refl _)] at hpn
        have ho1 := ho.mono (same_ex e1)
        cases ho with
        | @lst _ oxs _ hpo hox =>
        refine ⟨_, rfl, po, rfl, ⟨_, SqL.of (e1 _ _ hpo)⟩, fun pw npw => ?_⟩
        refine lc_list (K := K) (a := po) (xs := oxs) (fun i H' => Ex H1 H' ∧ H' pw = some (.lst (((os.map (·.1)).take i).map V.str))) ?_ (fun i H' _ ⟨x, _⟩ => SqL.of (x _ _ (e1 _ _ hpo))) ?_ ?_
        · exact ⟨Ex.new npw, upd_same⟩
        · rintro i x H' hi ⟨ex, hD⟩
          obtain ⟨od, hod, gx⟩ := dqa_get hox hi
          rw [List.getElem?_map] at hod
          obtain ⟨ow, how, rfl⟩ : ∃ ow, os[i]? = some ow ∧ od = ownD ow := by
            cases hy : os[i]? with
            | none => rw [hy] at hod; cases hod
            | some ow => rw [hy] at hod; exact ⟨ow, rfl, (Option.some.inj hod).symm⟩
          have hw1 : (os.map (·.1))[i]? = some ow.1 := by rw [List.getElem?_map, how]; rfl
          cases gx with
          | @tup ad ys _ hT hy =>
          cases hy with
          | @cons v0 _ _ _ g0 hy =>
          cases g0
          refine ⟨rfl, _, rfl, ad, _, 0, .str ow.1, rfl, rfl, sqt_ex (same_ex (e1.trans ex)) hT, atI_nat (j := 0) rfl, _, hD, ?_, ?_, ?_⟩
          · rw [List.length_map, List.length_take, List.length_map]
            omega
          · intro b o hb
            rw [upd_ne (ne_of_none hb npw)]
            exact ex _ _ hb
          · rw [upd_same, List.take_succ, hw1, List.map_append]
            rfl
        · rintro H2 ⟨e2, hpw⟩
          have hlo : oxs.length = (os.map (·.1)).length := by
            have := dqa_len hox
            rw [List.length_map] at this ⊢
            exact this
          rw [hlo, List.take_of_length_le (Nat.le_refl _)] at hpw
          refine ⟨by show 0 ≤ sizeLine; decide, fun pk npk => ?_⟩
          have e02 := e1.trans e2
          have e0 : Ex H (upd H2 pk (.lst [])) := e02.trans (Ex.new npk)
          have e0' : Ex H2 (upd H2 pk (.lst [])) := Ex.new npk
          have npk0 := fresh_back e02 npk
          refine ⟨_, rfl, a, rfl, ⟨_, SqL.of (e0 _ _ ha)⟩, ?_⟩
          refine for_list (K := K) (a := a) (xs := xs) (fun i σ H' => ∃ (t : Option V) (kn : List Str), σ = [some (.ref a), some (.ref po), some (.ref pr), some (.ref pn), some (.ref pw), some (.ref pk), t, none] ∧ Ex H2 H' ∧ H' pk = some (.lst (kn.map V.str)) ∧ kn.length = i ∧
            fBad (os.map (·.1)) (namesF ds) rs [] ds = (fBad (os.map (·.1)) (namesF ds) rs kn (ds.drop i)).map (· + i)) ?_ (fun i σ H' _ ⟨_, _, _, x, _⟩ => SqL.of (x _ _ (e02 _ _ ha))) ?_ ?_
          · exact ⟨none, [], rfl, e0', upd_same, rfl, by rw [List.drop_zero]; cases fBad (os.map (·.1)) (namesF ds) rs [] ds <;> rfl⟩
          · rintro i x σ H' hi ⟨t, kn, rfl, ex, hk, hkl, hb⟩
            have exh := e02.trans ex
            obtain ⟨dx, hdx, gx⟩ := dqa_get hx hi
            have hil := (List.getElem?_eq_some_iff.mp hdx).1
            have hdr : ds.drop i = dx :: ds.drop (i + 1) := by
              rw [List.drop_eq_getElem_cons hil]
              congr 1
              exact (List.getElem?_eq_some_iff.mp hdx).2
            rw [hdr] at hb
            have bad : (!functionF (os.map (·.1)) (namesF ds) rs dx || kn.any (eqS (.str (headS dx)))) = true → ∀ H3, Ex H' H3 → (∀ b, H3 b = none → H b = none) ∧ ∀ d H4, XFly H3 H4 d "value" x → E (.ref CI) (some d) H4 := fun z H3 x3 => by
              simp only [fBad, z, if_true, Option.map_some, Nat.zero_add] at hb
              exact ⟨fun b hb' => fresh_back (exh.trans x3) hb', qb i x hb hi H3 (exh.trans x3)⟩
            obtain ⟨hz1, hz2⟩ := hz dx (List.mem_of_getElem? hdx)
            refine ⟨_, rfl, _, rfl, _, rfl, _, rfl, fun_k (gx.mono (same_ex exh)) hz1 hz2 (ex _ _ hpw) (ex _ _ (e2 _ _ hpn)) (exh _ _ hpr) fun H3 e3 => ⟨_, rfl, ite2 (fun hn => ?_) (fun hn => ?_)⟩⟩
            · exact ⟨_, rfl, bad (by rw [hn]; rfl) H3 e3⟩
            · have hn : functionF (os.map (·.1)) (namesF ds) rs dx = true := by simpa using hn
              obtain ⟨z, b2, c2, rfl⟩ := function_head hn
              cases gx with
              | @tup ad ys _ hT hy =>
              cases hy with
              | @cons v0 _ _ _ g0 hy =>
              cases g0
              have hT2 := sqt_ex (same_ex (exh.trans e3)) hT
              refine ⟨_, rfl, ad, _, 0, .str z, rfl, rfl, hT2, atI_nat (j := 0) rfl, _, rfl, .str z, kn, pk, .str z, rfl, SqL.of (e3 _ _ hk), _, rfl, ite2 (fun hin => ?_) (fun hin => ?_)⟩
              · have hin : kn.any (eqS (.str z)) = true := by simpa using hin
                exact ⟨_, rfl, bad (by show (_ || kn.any (eqS (.str z))) = true; rw [hin, Bool.or_true]) H3 e3⟩
              · have hin : kn.any (eqS (.str z)) = false := by simpa using hin
                refine ⟨_, rfl, .inl ⟨rfl, _, SqL.of (e3 _ _ hk)⟩, _, rfl, ad, _, 0, .str z, rfl, rfl, hT2, atI_nat (j := 0) rfl, pk, _, .str z, rfl, rfl, e3 _ _ hk, by rw [List.length_map]; omega, _, kn ++ [z], rfl, ?_, ?_, ?_, ?_⟩
                · intro b o hb'
                  rw [upd_ne (ne_of_none hb' npk)]
                  exact e3 _ _ (ex _ _ hb')
                · rw [upd_same, List.map_append]
                  rfl
                · rw [List.length_append, hkl]
                  rfl
                · rw [hb]
                  have : fBad (os.map (·.1)) (namesF ds) rs kn (.tuple [.str z, b2, c2] :: ds.drop (i + 1)) = (fBad (os.map (·.1)) (namesF ds) rs (kn ++ [z]) (ds.drop (i + 1))).map (· + 1) := by
                    simp only [fBad, headS, hn, hin, Bool.not_true, Bool.or_self, Bool.false_eq_true, if_false]
                  rw [this, Option.map_map]
                  congr 1
                  funext k
                  show k + 1 + i = k + (i + 1)
                  omega
          · rintro σ H' ⟨t, kn, rfl, ex, hk, hkl, hb⟩
            rw [hl, List.drop_of_length_le (Nat.le_refl _)] at hb
            exact qo (by rw [hb]; rfl) H' (e02.trans ex)
    | _ => cases hs
end
end Lx

set_option Elab.async false
set_option maxRecDepth 100000
set_option linter.all false
set_option maxHeartbeats 4000000
namespace Lx
open PySem PySem.Spec PyProof.Rows L2 Evl Kx
section
variable {P : Program} {w : World} {K : PySem.W.Frag} {mg : Str → Option Value} {base : Heap} {f : Addr} {fd : FuncData}
abbrev sCpO : Stmt := top 41
abbrev sCpF : Stmt := top 42
theorem scCpO : FnScope ["owners", "name", "rights"] ["owners"] (defScope sCpO) := ⟨rfl, rfl, rfl, by decide +kernel, rfl, by decide +kernel, by decide +kernel⟩
theorem scCpF : FnScope ["functions", "name", "owner", "body"] ["functions"] (defScope sCpF) := ⟨rfl, rfl, rfl, by decide +kernel, rfl, by decide +kernel, by decide +kernel⟩
structure spCpO (K : PySem.W.Frag) (vs : List V) (H : Hp) (Q : VK) (E_ : XK) : Prop where
  mk' ::
  out : ∃ (p : Addr) (os : List Own), vs = [.ref p] ∧ Dq K H (.ref p) (.list (os.map ownD)) ∧ os.length ≤ 4096 ∧ ∀ p2 H2 M, New H H2 M → FrN K H M (.ref p2) (.list (os.map ownD)) → Q (.ref p2) H2
theorem strs_back {H : Hp} : ∀ {xs : List V} {ss : List Str}, DqA K H xs (ss.map PyData.str) → xs = ss.map V.str
  | _, [], h => by cases h; rfl
  | _, s :: ss, h => by
    cases h with
    | cons a b =>
      cases a
      rw [strs_back b]
      rfl
theorem own_at {H : Hp} {xs : List V} {os : List Own} {i : Nat} {v : V} (h : DqA K H xs (os.map ownD)) (hi : xs[i]? = some v) : ∃ ow a pl, os[i]? = some ow ∧ v = .ref a ∧ SqT K H a [.str ow.1, .ref pl] ∧ H pl = some (.lst (ow.2.map V.str)) := by
  obtain ⟨od, hod, gx⟩ := dqa_get h hi
  rw [List.getElem?_map] at hod
  obtain ⟨ow, how, rfl⟩ : ∃ ow, os[i]? = some ow ∧ od = ownD ow := by
    cases hy : os[i]? with
    | none => rw [hy] at hod; cases hod
    | some ow => rw [hy] at hod; exact ⟨ow, rfl, (Option.some.inj hod).symm⟩
  cases gx with
  | tup hT hy =>
  cases hy with
  | cons g0 hy =>
  cases g0
  cases hy with
  | cons g1 hy =>
  cases hy
  cases g1 with
  | lst hl hs => exact ⟨ow, _, _, how, rfl, hT, by rw [hl, strs_back hs]⟩
theorem own_fr {H M : Hp} {l tp : Addr} {ow : Own} (h1 : M l = some (.lst (ow.2.map V.str))) (h2 : M tp = some (.tup [.str ow.1, .ref l])) (nl : H l = none) : FrN K H M (.ref tp) (ownD ow) :=
  ⟨[l], .tup h2 (.cons (as := []) (.flat rfl (.str _)) (.cons (as := [l]) (.lst h1 (strs_n _)) .nil)), List.nodup_cons.mpr ⟨(fun h => nomatch h), List.nodup_nil⟩, fun x hx => by rw [List.mem_singleton.mp hx]; exact nl⟩
theorem fn_fr {H M : Hp} {p3 tp : Addr} {g : Fn} (h : FrN K H M (.ref p3) (.list (bodyD g.2.2))) (h2 : M tp = some (.tup [.str g.1, .str g.2.1, .ref p3])) : FrN K H M (.ref tp) (fnD g) := by
  obtain ⟨as, a, b, c⟩ := h
  have := DqNA.cons (as := []) (.flat rfl (.str g.1)) (.cons (as := []) (.flat rfl (.str g.2.1)) (.cons a (.nil (K := K) (H := M))))
  rw [List.append_nil] at this
  exact ⟨as, .tup h2 this, b, c⟩
theorem ok_cpO (F : Fun K "copy_owners" "copy_owners" sCpO f fd) (mL : mg "list" = none) : FnOk P w K mg base CX0 1 f fd ["owners"] (spCpO K) := by
  refine F.ok scCpO (fun vs H Q E h => ?_) (fun cdv A outer s H vs Q E hr h => ?_)
  · obtain ⟨_, _, rfl, _⟩ := h
    rfl
  · obtain ⟨p, os, rfl, hd, hol, q⟩ := h
    refine ⟨_, pss_one (ps_ret (pe_lc (own := [("name", 1), ("rights", 2)]) (g := gTup K 2 (gCons (gName 1) (gCons (gName 2) gNil))) rfl scCpO.nd (pi_list (pv 0))
            (blkOk_by (own := [("name", 1), ("rights", 2)]) (N := ["owners", "name", "rights"]) (sc := defScope sCpO) (by decide +kernel))
            (fun _ _ _ _ _ => pg_tupK rfl (pgs_cons (pg_name (i := 1) scCpO.nd rfl (Or.inl rfl)) (pgs_cons (pg_name (i := 2) scCpO.nd rfl (Or.inl rfl)) pgs_nil))) (fun _ _ _ _ _ => pts_nil)
            (fun _ _ _ _ _ => pe_tup (pa_cons (pv 1) (pa_cons (pe_callTy (call_listK (K := K)) (by rfl) mL (by decide +kernel) (pa_cons (pv 2) pa_nil)) pa_nil))))), ?_⟩
    cases hd with
    | @lst _ xs _ hp hx =>
    have hlen : xs.length = os.length := by
      have := dqa_len hx
      rw [List.length_map] at this
      exact this
    refine ⟨_, rfl, p, rfl, ⟨_, SqL.of hp⟩, fun D nD => ?_⟩
    refine lc_list (K := K) (a := p) (xs := xs) (fun i H' => ∃ (M : Hp) (acc : List V), New H H' M ∧ H' D = some (.lst acc) ∧ M D = none ∧ FrA K H M acc ((os.take i).map ownD)) ?_ (fun i H' _ ⟨_, _, k, _⟩ => SqL.of (k.hh _ _ hp)) ?_ ?_
    · exact ⟨emp, [], New.refl.own nD, upd_same, rfl, FrA.nil⟩
    · rintro i x H' hi ⟨M, acc, k, hD, mD, ha⟩
      obtain ⟨ow, ta, pl, how, rfl, hT, hpl⟩ := own_at hx hi
      refine ⟨ta, _, rfl, sqt_ex (same_ex k.hh) hT, rfl, _, _, rfl, _, _, rfl, rfl, rfl, _, rfl, _, rfl, pl, _, rfl, .inl (SqL.of (k.hh _ _ hpl)), fun l nl => ⟨by show 2 ≤ sizeLine; decide, fun tp ntp => ?_⟩⟩
      have k2 := (k.put (o := .lst (ow.2.map V.str)) nl).put (o := .tup [.str ow.1, .ref l]) ntp
      have fl : D ≠ l := ne_of_none hD nl
      have ft : D ≠ tp := ne_of_none (show (upd H' l (.lst (ow.2.map V.str))) D = some (.lst acc) by rw [upd_ne fl]; exact hD) ntp
      have mD2 : (upd (upd M l (.lst (ow.2.map V.str))) tp (.tup [.str ow.1, .ref l])) D = none := by rw [upd_ne ft, upd_ne fl]; exact mD
      have ml : M l = none := k.none nl
      have mt : (upd M l (.lst (ow.2.map V.str))) tp = none := (k.put (o := .lst (ow.2.map V.str)) nl).none ntp
      have em : Ex M (upd (upd M l (.lst (ow.2.map V.str))) tp (.tup [.str ow.1, .ref l])) := (Ex.new ml).trans (Ex.new mt)
      refine ⟨acc, by rw [upd_ne ft, upd_ne fl]; exact hD, ?_, _, acc ++ [.ref tp], k2.wr nD mD2, upd_same, mD2, ?_⟩
      · have := dqa_len ha.dq
        rw [List.length_map, List.length_take] at this
        have h2 := (List.getElem?_eq_some_iff.mp hi).1
        have e3z : (5000 : Nat) < sizeLine := by decide
        omega
      · rw [List.take_succ, how, List.map_append]
        exact FrA.app k ha em (Ex.refl _) (own_fr (by rw [upd_ne (ne_of_none upd_same mt)]; exact upd_same) upd_same nl)
    · rintro H' ⟨M, acc, k, hD, mD, ha⟩
      rw [hlen, List.take_of_length_le (Nat.le_refl _)] at ha
      exact q D H' _ (k.frz nD hD) (FrN.lst ha mD nD)
structure spCpF (K : PySem.W.Frag) (d : Nat) (vs : List V) (H : Hp) (Q : VK) (E_ : XK) : Prop where
  mk' ::
  out : ∃ (p : Addr) (fs : List Fn), vs = [.ref p] ∧ Dq K H (.ref p) (.list (fs.map fnD)) ∧ fs.length ≤ 4096 ∧ (∀ g ∈ fs, nstB g.2.2 ≤ d ∧ cntB g.2.2 ≤ 4096) ∧ ∀ p2 H2 M, New H H2 M → FrN K H M (.ref p2) (.list (fs.map fnD)) → Q (.ref p2) H2
theorem fn_at {H : Hp} {xs : List V} {fs : List Fn} {i : Nat} {v : V} (h : DqA K H xs (fs.map fnD)) (hi : xs[i]? = some v) : ∃ g a pl, fs[i]? = some g ∧ v = .ref a ∧ SqT K H a [.str g.1, .str g.2.1, .ref pl] ∧ Dq K H (.ref pl) (.list (bodyD g.2.2)) := by
  obtain ⟨od, hod, gx⟩ := dqa_get h hi
  rw [List.getElem?_map] at hod
  obtain ⟨g, how, rfl⟩ : ∃ g, fs[i]? = some g ∧ od = fnD g := by
    cases hy : fs[i]? with
    | none => rw [hy] at hod; cases hod
    | some g => rw [hy] at hod; exact ⟨g, rfl, (Option.some.inj hod).symm⟩
  cases gx with
  | tup hT hy =>
  cases hy with
  | cons g0 hy =>
  cases g0
  cases hy with
  | cons g1 hy =>
  cases g1
  cases hy with
  | cons g2 hy =>
  cases hy
  have g2' := g2
  cases g2 with
  | lst hl hs => exact ⟨g, _, _, how, rfl, hT, g2'⟩
theorem ok_cpF {d : Nat} {fB : Addr} {fdB : FuncData} (F : Fun K "copy_functions" "copy_functions" sCpF f fd) (FB : FnOk P w K mg base CX0 (2 * d + 3) fB fdB ["body"] (spCb K d)) (mB : mg "copy_body" = some (.ref fB)) (kB : PySem.W.keepIn K (.ref fB) = true) (bB : Binds K fdB ["body"] []) :
    FnOk P w K mg base CX0 (2 * d + 4) f fd ["functions"] (spCpF K d) := by
  refine F.ok scCpF (fun vs H Q E h => ?_) (fun cdv A outer s H vs Q E hr h => ?_)
  · obtain ⟨_, _, rfl, _⟩ := h
    rfl
  · obtain ⟨p, fs, rfl, hd, hol, hfs, q⟩ := h
    refine ⟨_, pss_one (ps_ret (pe_lc (own := [("name", 1), ("owner", 2), ("body", 3)]) (g := gTup K 3 (gCons (gName 1) (gCons (gName 2) (gCons (gName 3) gNil)))) rfl scCpF.nd (pi_list (pv 0))
            (blkOk_by (own := [("name", 1), ("owner", 2), ("body", 3)]) (N := ["functions", "name", "owner", "body"]) (sc := defScope sCpF) (by decide +kernel))
            (fun _ _ _ _ _ => pg_tupK rfl (pgs_cons (pg_name (i := 1) scCpF.nd rfl (Or.inl rfl)) (pgs_cons (pg_name (i := 2) scCpF.nd rfl (Or.inl rfl)) (pgs_cons (pg_name (i := 3) scCpF.nd rfl (Or.inl rfl)) pgs_nil)))) (fun _ _ _ _ _ => pts_nil)
            (fun _ _ _ _ _ => pe_tup (pa_cons (pv 1) (pa_cons (pv 2) (pa_cons (pe_call FB hr rfl mB kB bB .nil pass0 (pa_cons (pv 3) pa_nil)) pa_nil)))))), ?_⟩
    cases hd with
    | @lst _ xs _ hp hx =>
    have hlen : xs.length = fs.length := by
      have := dqa_len hx
      rw [List.length_map] at this
      exact this
    refine ⟨_, rfl, p, rfl, ⟨_, SqL.of hp⟩, fun D nD => ?_⟩
    refine lc_list (K := K) (a := p) (xs := xs) (fun i H' => ∃ (M : Hp) (acc : List V), New H H' M ∧ H' D = some (.lst acc) ∧ M D = none ∧ FrA K H M acc ((fs.take i).map fnD)) ?_ (fun i H' _ ⟨_, _, k, _⟩ => SqL.of (k.hh _ _ hp)) ?_ ?_
    · exact ⟨emp, [], New.refl.own nD, upd_same, rfl, FrA.nil⟩
    · rintro i x H' hi ⟨M, acc, k, hD, mD, ha⟩
      obtain ⟨g, ta, pl, how, rfl, hT, hpl⟩ := fn_at hx hi
      obtain ⟨h1, h2⟩ := hfs g (List.mem_of_getElem? how)
      refine ⟨ta, _, rfl, sqt_ex (same_ex k.hh) hT, rfl, _, _, rfl, _, _, rfl, _, _, rfl, rfl, rfl, _, rfl, _, rfl, _, rfl, pl, g.2.2, rfl, hpl.mono (same_ex k.hh), h1, h2, fun p3 H3 M3 k3 h3 => ⟨by show 3 ≤ sizeLine; decide, fun tp ntp => ?_⟩⟩
      have hD3 := k3.hh _ _ hD
      have k4 := (k.trans k3).put (o := .tup [.str g.1, .str g.2.1, .ref p3]) ntp
      have ft : D ≠ tp := ne_of_none hD3 ntp
      have mt : (join M M3) tp = none := (k.trans k3).none ntp
      have mD2 : (upd (join M M3) tp (.tup [.str g.1, .str g.2.1, .ref p3])) D = none := by
        rw [upd_ne ft]
        exact join_none mD (k3.fr _ _ hD)
      refine ⟨acc, by rw [upd_ne ft]; exact hD3, ?_, _, acc ++ [.ref tp], k4.wr nD mD2, upd_same, mD2, ?_⟩
      · have := dqa_len ha.dq
        rw [List.length_map, List.length_take] at this
        have h2 := (List.getElem?_eq_some_iff.mp hi).1
        have e3z : (5000 : Nat) < sizeLine := by decide
        omega
      · rw [List.take_succ, how, List.map_append]
        exact FrA.app k ha (join_l.trans (Ex.new mt)) (Ex.refl _) (fn_fr (h3.mono ((k.right k3).trans (Ex.new mt))) upd_same)
    · rintro H' ⟨M, acc, k, hD, mD, ha⟩
      rw [hlen, List.take_of_length_le (Nat.le_refl _)] at ha
      exact q D H' _ (k.frz nD hD) (FrN.lst ha mD nD)
end
end Lx

set_option Elab.async false
set_option maxRecDepth 100000
set_option linter.all false
set_option maxHeartbeats 4000000
namespace Lx
open PySem PySem.Spec PyProof.Rows L2 Evl Kx
theorem any_eqS {ns : List Str} {n : Str} : ns.any (eqS (.str n)) = decide (n ∈ ns) := by
  rw [Bool.eq_iff_iff, decide_eq_true_eq, List.any_eq_true]
  constructor
  · rintro ⟨x, hx, h⟩
    have : n = x := eq_of_beq h
    exact this ▸ hx
  · exact fun h => ⟨n, h, beq_self_eq_true n⟩
section
variable {ns rs : List Str}
mutual
theorem stepF_ok : ∀ {mk : Bool} {s : Stp}, stepF ns rs mk (stpD s) = okS rs ns mk s
  | mk, .call n => by
    simp only [stpD, stepF, tupF, okS, ← any_eqS]
    rfl
  | mk, .tail n => by
    simp only [stpD, stepF, tupF, okS, ← any_eqS]
    rfl
  | mk, .check r => by
    simp only [stpD, stepF, tupF, okS, ← any_eqS]
    rfl
  | mk, .back => by
    simp only [stpD, stepF, tupF, okS]
    rfl
  | mk, .either a b => by
    simp only [stpD, okS, ← bodyF_ok (mk := mk) (b := a), ← bodyF_ok (mk := mk) (b := b)]
    simp only [stepF, tupF, nestF]
    rfl
  | mk, .loop b => by
    simp only [stpD, okS, ← bodyF_ok (mk := mk) (b := b)]
    simp only [stepF, tupF, nestF]
    rfl
  | mk, .block m b => by
    simp only [stpD, okS, ← bodyF_ok (mk := mk || m) (b := b)]
    simp only [stepF, tupF, nestF]
    rfl
theorem bodyF_ok : ∀ {mk : Bool} {b : List Stp}, bodyF ns rs mk (.list (bodyD b)) = okB rs ns mk b
  | mk, [] => by simp only [bodyF, bodyD, stepsF, okB]
  | mk, s :: r => by
    have h1 := stepF_ok (mk := mk) (s := s)
    have h2 := bodyF_ok (mk := mk) (b := r)
    simp only [bodyF] at h2
    simp only [bodyF, bodyD, stepsF, okB, h1, h2]
end
end
theorem sub_len : ∀ {ss rs : List Str}, ss.Nodup → (∀ s ∈ ss, s ∈ rs) → ss.length ≤ rs.length
  | [], _, _, _ => Nat.zero_le _
  | s :: ss, rs, hn, h => by
    obtain ⟨h1, h2⟩ := List.nodup_cons.mp hn
    have hs := h s (List.mem_cons_self ..)
    have := sub_len (rs := rs.erase s) h2 fun x hx => by
      have hne : x ≠ s := fun e => h1 (e ▸ hx)
      exact (List.mem_erase_of_ne hne).mpr (h x (List.mem_cons_of_mem _ hx))
    rw [List.length_erase_of_mem hs] at this
    have := List.length_pos_of_mem hs
    simp only [List.length_cons]
    omega
theorem cnt_none {z : Str} : ∀ {ss : List Str}, z ∉ ss → (ss.map PyData.str).countP (fun d => eqS d z) = 0
  | [], _ => rfl
  | s :: ss, h => by
    have h1 : eqS (.str s) z = false := by
      show (s == z) = false
      exact beq_eq_false_iff_ne.mpr fun e => h (e ▸ List.mem_cons_self ..)
    rw [List.map_cons, List.countP_cons_of_neg (by rw [h1]; exact Bool.false_ne_true)]
    exact cnt_none fun hm => h (List.mem_cons_of_mem _ hm)
theorem cnt_once {z : Str} : ∀ {ss : List Str}, ss.Nodup → z ∈ ss → (ss.map PyData.str).countP (fun d => eqS d z) = 1
  | s :: ss, hn, h => by
    obtain ⟨h1, h2⟩ := List.nodup_cons.mp hn
    rw [List.map_cons]
    by_cases e : s = z
    · subst e
      have h3 : eqS (.str s) s = true := beq_self_eq_true s
      rw [List.countP_cons_of_pos (p := fun d => eqS d s) h3, cnt_none h1]
    · have h3 : eqS (.str s) z = false := beq_eq_false_iff_ne.mpr e
      rw [List.countP_cons_of_neg (by rw [h3]; exact Bool.false_ne_true)]
      rcases List.mem_cons.mp h with h | h
      · exact (e h.symm).elim
      · exact cnt_once h2 h
theorem choice_ok {rs ss : List Str} (hn : ss.Nodup) (h : ∀ s ∈ ss, s ∈ rs) : choiceF rs (strsD ss) = true := by
  have hl : (ss.map PyData.str).length ≤ rs.length := by
    rw [List.length_map]
    exact sub_len hn h
  simp only [strsD, choiceF, decide_eq_true hl, Bool.true_and, List.all_map]
  refine List.all_eq_true.mpr fun s hs => ?_
  show (rs.any (eqS (.str s)) && onceF (ss.map PyData.str) (.str s)) = true
  rw [any_eqS, decide_eq_true (h s hs)]
  simp only [onceF, cnt_once hn hs, decide_true, Bool.and_self]
theorem rBad_ok : ∀ {ss kn : List Str}, (∀ s ∈ ss, nameD (.str s) = true) → (kn ++ ss).Nodup → rBad kn (ss.map PyData.str) = none
  | [], _, _, _ => rfl
  | s :: ss, kn, h, hn => by
    have h1 := h s (List.mem_cons_self ..)
    have h2 : kn.any (eqS (.str s)) = false := by
      rw [any_eqS]
      refine decide_eq_false fun hm => ?_
      obtain ⟨_, _, hd⟩ := List.nodup_append.mp hn
      exact hd s hm s (List.mem_cons_self ..) rfl
    rw [List.map_cons]
    simp only [rBad, h1, h2, Bool.not_true, Bool.or_self, Bool.false_eq_true, if_false]
    rw [rBad_ok (fun x hx => h x (List.mem_cons_of_mem _ hx)) (by rw [List.append_assoc]; exact hn)]
    rfl
theorem oBad_ok {rs : List Str} : ∀ {os : List Own} {kn : List Str}, (∀ o ∈ os, nameD (.str o.1) = true ∧ o.2.Nodup ∧ ∀ r ∈ o.2, r ∈ rs) → (kn ++ os.map (·.1)).Nodup → oBad rs kn (os.map ownD) = none
  | [], _, _, _ => rfl
  | o :: os, kn, h, hn => by
    obtain ⟨h1, h3, h4⟩ := h o (List.mem_cons_self ..)
    have h2 : kn.any (eqS (.str o.1)) = false := by
      rw [any_eqS]
      refine decide_eq_false fun hm => ?_
      obtain ⟨_, _, hd⟩ := List.nodup_append.mp hn
      exact hd o.1 hm o.1 (List.mem_cons_self ..) rfl
    have ho : ownerF rs (ownD o) = true := by
      simp only [ownD, ownerF, h1, choice_ok h3 h4, Bool.and_self]
    have hh : headS (ownD o) = o.1 := rfl
    rw [List.map_cons]
    simp only [oBad, ho, hh, h2, Bool.not_true, Bool.or_self, Bool.false_eq_true, if_false]
    rw [oBad_ok (fun x hx => h x (List.mem_cons_of_mem _ hx)) (by rw [List.append_assoc]; exact hn)]
    rfl
theorem fBad_ok {os ns rs : List Str} : ∀ {fs : List Fn} {kn : List Str}, (∀ g ∈ fs, nameD (.str g.1) = true ∧ g.2.1 ∈ os ∧ okB rs ns false g.2.2 = true) → (kn ++ fs.map (·.1)).Nodup → fBad os ns rs kn (fs.map fnD) = none
  | [], _, _, _ => rfl
  | g :: fs, kn, h, hn => by
    obtain ⟨h1, h3, h4⟩ := h g (List.mem_cons_self ..)
    have h2 : kn.any (eqS (.str g.1)) = false := by
      rw [any_eqS]
      refine decide_eq_false fun hm => ?_
      obtain ⟨_, _, hd⟩ := List.nodup_append.mp hn
      exact hd g.1 hm g.1 (List.mem_cons_self ..) rfl
    have ho : functionF os ns rs (fnD g) = true := by
      simp only [fnD, functionF, h1, any_eqS, decide_eq_true h3, bodyF_ok, h4, Bool.and_self]
    have hh : headS (fnD g) = g.1 := rfl
    rw [List.map_cons]
    simp only [fBad, ho, hh, h2, Bool.not_true, Bool.or_self, Bool.false_eq_true, if_false]
    rw [fBad_ok (fun x hx => h x (List.mem_cons_of_mem _ hx)) (by rw [List.append_assoc]; exact hn)]
    rfl
theorem namesF_ok : ∀ {fs : List Fn}, (∀ g ∈ fs, nameD (.str g.1) = true) → namesF (fs.map fnD) = fs.map (·.1)
  | [], _ => rfl
  | g :: fs, h => by
    have h1 : nmd (fnD g) = true := h g (List.mem_cons_self ..)
    have h2 := namesF_ok fun x hx => h x (List.mem_cons_of_mem _ hx)
    simp only [namesF] at h2 ⊢
    rw [List.map_cons, List.filter_cons_of_pos h1, List.map_cons, h2]
    rfl
end Lx

set_option Elab.async false
set_option maxRecDepth 100000
set_option linter.all false
set_option maxHeartbeats 4000000
namespace Lx
open PySem PySem.Spec PyProof.Rows L2 Evl Kx
/-! ### what is refused when a program is made -/
inductive Flt where
  | lst (k : Nat)
  | itm (k i : Nat)
def items : PyData → List PyData
  | .list ds => ds
  | _ => []
def unS : PyData → Str
  | .str z => z
  | _ => ""
def faultF (d1 d2 d3 : PyData) : Option Flt :=
  if sizeF 5 d1 = false then some (.lst 0) else
  match rBad [] (items d1) with
  | some i => some (.itm 0 i)
  | none =>
    if sizeF 5 d2 = false then some (.lst 1) else
    match oBad ((items d1).map unS) [] (items d2) with
    | some i => some (.itm 1 i)
    | none =>
      if sizeF 6 d3 = false then some (.lst 2) else
      match fBad ((items d2).map headS) (namesF (items d3)) ((items d1).map unS) [] (items d3) with
      | some i => some (.itm 2 i)
      | none => none
/-- the class and the very thing of a fault -/
def FltV (CL CI : Addr) (G : Hp) (vs : List V) : Flt → Addr → V → Prop
  | .lst k, c, v => c = CL ∧ vs[k]? = some v
  | .itm k i, c, v => c = CI ∧ ∃ a xs, vs[k]? = some (.ref a) ∧ G a = some (.lst xs) ∧ xs[i]? = some v
theorem rBad_strs : ∀ {ds : List PyData} {kn : List Str}, rBad kn ds = none → ds = (ds.map unS).map PyData.str
  | [], _, _ => rfl
  | d :: r, kn, h => by
    simp only [rBad] at h
    split at h
    · cases h
    · rename_i h1
      cases d with
      | str z =>
        simp only [Option.map_eq_none_iff] at h
        have := rBad_strs h
        simp only [List.map_cons, unS]
        rw [← this]
      | _ => cases h
theorem choice_strs {rs : List Str} {d : PyData} (h : choiceF rs d = true) : ∃ ss : List Str, d = strsD ss := by
  cases d with
  | list ds =>
    simp only [choiceF, Bool.and_eq_true] at h
    refine ⟨ds.map unS, ?_⟩
    have : ∀ {es : List PyData}, (∀ x ∈ es, rs.any (eqS x) = true) → es = (es.map unS).map PyData.str := by
      intro es
      induction es with
      | nil => intro _; rfl
      | cons e r ih =>
        intro h
        obtain ⟨z, rfl, _⟩ := any_str (h e (List.mem_cons_self ..))
        have := ih fun x hx => h x (List.mem_cons_of_mem _ hx)
        simp only [List.map_cons, unS]
        rw [← this]
    unfold strsD
    rw [← this fun x hx => by
      have := List.all_eq_true.mp h.2 x hx
      simp only [Bool.and_eq_true] at this
      exact this.1]
  | _ => cases h
theorem oBad_own {rs : List Str} : ∀ {ds : List PyData} {kn : List Str}, oBad rs kn ds = none → ∃ os : List Own, ds = os.map ownD ∧ os.map (·.1) = ds.map headS
  | [], _, _ => ⟨[], rfl, rfl⟩
  | d :: r, kn, h => by
    simp only [oBad] at h
    split at h
    · cases h
    · rename_i h1
      simp only [Option.map_eq_none_iff] at h
      obtain ⟨os, h2, h3⟩ := oBad_own h
      simp only [Bool.or_eq_true, Bool.not_eq_true', not_or, Bool.not_eq_false] at h1
      have ho := h1.1
      obtain ⟨z, b, rfl⟩ := owner_head ho
      simp only [ownerF, Bool.and_eq_true] at ho
      obtain ⟨ss, rfl⟩ := choice_strs ho.2
      exact ⟨(z, ss) :: os, by rw [h2]; rfl, by simp only [List.map_cons, h3]; rfl⟩
/-- what a program's data may be for these promises -/
structure DataOk (n : Nat) (d1 d2 d3 : PyData) : Prop where
  r : ∀ x ∈ items d1, strOk x
  o : ∀ x ∈ items d2, headOk x
  f : ∀ x ∈ items d3, headOk x ∧ x.depth ≤ n + 1
theorem items_of {d : PyData} {P : PyData → Prop} (h : ∀ x ∈ items d, P x) : ∀ ds, d = .list ds → ∀ x ∈ ds, P x := by
  rintro ds rfl x hx
  exact h x hx
def progF (a1 a2 a3 : Addr) : List (Str × V) := [("_rights", .ref a1), ("_owners", .ref a2), ("_functions", .ref a3)]
/-- at p stands a program with these parts -/
def ProgAt (K : PySem.W.Frag) (C : Addr) (H : Hp) (p : Addr) (q : Prt) : Prop := ∃ dx a1 a2 a3, H p = some (.ins C dx (progF a1 a2 a3)) ∧ H a1 = some (.lst (q.rs.map V.str)) ∧ Dq K H (.ref a2) (.list (q.os.map ownD)) ∧ Dq K H (.ref a3) (.list (q.fs.map fnD))
theorem ProgAt.mono {K : PySem.W.Frag} {C : Addr} {H H' : Hp} {p : Addr} {q : Prt} (e : Ex H H') (h : ProgAt K C H p q) : ProgAt K C H' p q :=
  let ⟨dx, a1, a2, a3, h0, h1, h2, h3⟩ := h
  ⟨dx, a1, a2, a3, e _ _ h0, e _ _ h1, h2.mono (same_ex e), h3.mono (same_ex e)⟩
/-- bounds of what is copied -/
structure PrtLe (d : Nat) (q : Prt) : Prop where
  os : q.os.length ≤ 4096
  fl : q.fs.length ≤ 4096
  fs : ∀ g ∈ q.fs, nstB g.2.2 ≤ d ∧ cntB g.2.2 ≤ 4096
structure spInit (K : PySem.W.Frag) (n d : Nat) (C CL CI : Addr) (vs : List V) (H : Hp) (Q : VK) (E : XK) : Prop where
  mk' ::
  out : ∃ (p dx : Addr) (G : Hp) (v1 v2 v3 : V) (d1 d2 d3 : PyData), vs = [.ref p, v1, v2, v3] ∧ H p = some (.ins C dx []) ∧ Ex G H ∧ G p = none ∧ Dq K G v1 d1 ∧ Dq K G v2 d2 ∧ Dq K G v3 d3 ∧ DataOk n d1 d2 d3 ∧
  (∀ f c v, faultF d1 d2 d3 = some f → FltV CL CI G [v1, v2, v3] f c v → Refuse H E c v) ∧
  (faultF d1 d2 d3 = none → ∃ q : Prt, d1 = strsD q.rs ∧ d2 = .list (q.os.map ownD) ∧ d3 = .list (q.fs.map fnD) ∧ PrtLe d q ∧
    ∀ H2 M a1 a2 a3, New H H2 M → M a1 = some (.lst (q.rs.map V.str)) → Dq K M (.ref a2) (.list (q.os.map ownD)) → Dq K M (.ref a3) (.list (q.fs.map fnD)) → Q .non (upd H2 p (.ins C dx (progF a1 a2 a3))))
/-- the class as the text has made it -/
structure PTxt (K : PySem.W.Frag) (mg : Str → Option Value) (C : Addr) : Prop where
  cl : Cls K C
  nR : NoAttr K C "_rights"
  nO : NoAttr K C "_owners"
  nF : NoAttr K C "_functions"
  mgC : mg "Program" = some (.ref C)
theorem ne_ro : ¬ (("_rights" : Str) = "_owners") := by decide +kernel
theorem ne_rf : ¬ (("_rights" : Str) = "_functions") := by decide +kernel
theorem ne_of' : ¬ (("_owners" : Str) = "_functions") := by decide +kernel
theorem putF_o (x y : V) : putF "_owners" y [("_rights", x)] = ([("_rights", x), ("_owners", y)] : List (Str × V)) := by
  show (if ("_rights" : Str) = "_owners" then _ else (("_rights" : Str), x) :: putF "_owners" y []) = ([("_rights", x), ("_owners", y)] : List (Str × V))
  rw [if_neg ne_ro]
  all_goals rfl
theorem putF_f (x y z : V) : putF "_functions" z [("_rights", x), ("_owners", y)] = ([("_rights", x), ("_owners", y), ("_functions", z)] : List (Str × V)) := by
  show (if ("_rights" : Str) = "_functions" then _ else ((("_rights" : Str), x) :: (if ("_owners" : Str) = "_functions" then _ else (("_owners" : Str), y) :: putF "_functions" z []))) = ([("_rights", x), ("_owners", y), ("_functions", z)] : List (Str × V))
  rw [if_neg ne_rf, if_neg ne_of']
  all_goals rfl
section
variable {P : Program} {w : World} {K : PySem.W.Frag} {mg : Str → Option Value} {base : Heap} {f : Addr} {fd : FuncData}
abbrev sIni : Stmt := inClass (top 33) 0
theorem scIni : FnScope ["self", "rights", "owners", "functions"] ["self", "rights", "owners", "functions"] (defScope sIni) := ⟨rfl, rfl, rfl, by decide +kernel, rfl, by decide +kernel, by decide +kernel⟩
theorem ckR_k {CL CI : Addr} {v : V} {d : PyData} {H : Hp} {Q : VK} {E : XK} (h : Dq K H v d) (hz : ∀ x ∈ items d, strOk x) (q0 : sizeF 5 d = false → Refuse H E CL v)
    (q1 : sizeF 5 d = true → rBad [] (items d) = none → ∀ H2, Ex H H2 → Q .non H2) (q2 : sizeF 5 d = true → ∀ i a xs x, rBad [] (items d) = some i → v = .ref a → H a = some (.lst xs) → xs[i]? = some x → Refuse H E CI x) : spCkR K CL CI [v] H Q E := by

  refine ⟨v, d, rfl, h, items_of hz, q0, fun a xs ds e1 e2 e3 hs => ⟨fun h1 => q1 hs (by rw [e3]; exact h1), fun i x h1 h2 => q2 hs i a xs x (by rw [e3]; exact h1) e1 e2 h2⟩⟩
theorem ckO_k {CL CI pr : Addr} {rs : List Str} {v : V} {d : PyData} {H : Hp} {Q : VK} {E : XK} (h : Dq K H v d) (hpr : H pr = some (.lst (rs.map V.str))) (hl : rs.length ≤ 4096) (hz : ∀ x ∈ items d, headOk x) (q0 : sizeF 5 d = false → Refuse H E CL v)
    (q1 : sizeF 5 d = true → oBad rs [] (items d) = none → ∀ H2, Ex H H2 → Q .non H2) (q2 : sizeF 5 d = true → ∀ i a xs x, oBad rs [] (items d) = some i → v = .ref a → H a = some (.lst xs) → xs[i]? = some x → Refuse H E CI x) : spCkO K CL CI [v, .ref pr] H Q E := by

  refine ⟨v, d, pr, rs, rfl, h, hpr, hl, items_of hz, q0, fun a xs ds e1 e2 e3 hs => ⟨fun h1 => q1 hs (by rw [e3]; exact h1), fun i x h1 h2 => q2 hs i a xs x (by rw [e3]; exact h1) e1 e2 h2⟩⟩
theorem ckF_k {CL CI po pr : Addr} {n : Nat} {os : List Own} {rs : List Str} {v : V} {d : PyData} {H : Hp} {Q : VK} {E : XK} (h : Dq K H v d) (hpo : Dq K H (.ref po) (.list (os.map ownD))) (hol : os.length ≤ 4096) (hpr : H pr = some (.lst (rs.map V.str)))
    (hz : ∀ x ∈ items d, headOk x ∧ x.depth ≤ n + 1) (q0 : sizeF 6 d = false → Refuse H E CL v)
    (q1 : sizeF 6 d = true → fBad (os.map (·.1)) (namesF (items d)) rs [] (items d) = none → ∀ H2, Ex H H2 → Q .non H2) (q2 : sizeF 6 d = true → ∀ i a xs x, fBad (os.map (·.1)) (namesF (items d)) rs [] (items d) = some i → v = .ref a → H a = some (.lst xs) → xs[i]? = some x → Refuse H E CI x) : spCkF K n CL CI [v, .ref po, .ref pr] H Q E := by

  refine ⟨v, d, po, pr, os, rs, rfl, h, hpo, hol, hpr, items_of hz, q0, fun a xs ds e1 e2 e3 hs => ⟨fun h1 => q1 hs (by rw [e3]; exact h1), fun i x h1 h2 => q2 hs i a xs x (by rw [e3]; exact h1) e1 e2 h2⟩⟩
theorem cpO_k {p : Addr} {os : List Own} {H : Hp} {Q : VK} {E : XK} (h : Dq K H (.ref p) (.list (os.map ownD))) (hl : os.length ≤ 4096) (q : ∀ p2 H2 M, New H H2 M → FrN K H M (.ref p2) (.list (os.map ownD)) → Q (.ref p2) H2) : spCpO K [.ref p] H Q E := by

  exact ⟨p, os, rfl, h, hl, q⟩
theorem cpF_k {p : Addr} {d : Nat} {fs : List Fn} {H : Hp} {Q : VK} {E : XK} (h : Dq K H (.ref p) (.list (fs.map fnD))) (hl : fs.length ≤ 4096) (hb : ∀ g ∈ fs, nstB g.2.2 ≤ d ∧ cntB g.2.2 ≤ 4096) (q : ∀ p2 H2 M, New H H2 M → FrN K H M (.ref p2) (.list (fs.map fnD)) → Q (.ref p2) H2) : spCpF K d [.ref p] H Q E := by

  exact ⟨p, fs, rfl, h, hl, hb, q⟩
theorem dq_list {v : V} {d : PyData} {H : Hp} (h : Dq K H v d) (hs : isLst d = true) : ∃ a xs, v = .ref a ∧ H a = some (.lst xs) ∧ DqA K H xs (items d) := by
  cases h with
  | lst h1 h2 => exact ⟨_, _, rfl, h1, h2⟩
  | _ => cases hs
theorem size_lst {m : Nat} {d : PyData} (h : sizeF m d = true) : isLst d = true ∧ (items d).length ≤ m := by
  cases d with
  | list ds =>
    simp only [sizeF, Bool.and_eq_true, decide_eq_true_eq] at h
    exact ⟨rfl, h.2⟩
  | _ => cases h
theorem lst_items {d : PyData} (h : isLst d = true) : d = .list (items d) := by
  cases d with
  | list ds => rfl
  | _ => cases h
theorem ok_init {n d : Nat} {C CL CI fR fO fF fCO fCF : Addr} {fdR fdO fdF fdCO fdCF : FuncData} (F : Fun K "__init__" "Program.__init__" sIni f fd) (T : PTxt K mg C) (hnd : 2 * d + 4 ≤ 3 * n + 6)
    (FR : FnOk P w K mg base (L2.CX P w) 4 fR fdR ["rights"] (spCkR K CL CI)) (mR : mg "check_rights" = some (.ref fR)) (kR : PySem.W.keepIn K (.ref fR) = true) (bR : Binds K fdR ["rights"] [])
    (FO : FnOk P w K mg base (L2.CX P w) 4 fO fdO ["owners", "rights"] (spCkO K CL CI)) (mO : mg "check_owners" = some (.ref fO)) (kO : PySem.W.keepIn K (.ref fO) = true) (bO : Binds K fdO ["owners", "rights"] [])
    (FF : FnOk P w K mg base (L2.CX P w) (3 * n + 6) fF fdF ["functions", "owners", "rights"] (spCkF K n CL CI)) (mF : mg "check_functions" = some (.ref fF)) (kF : PySem.W.keepIn K (.ref fF) = true) (bF : Binds K fdF ["functions", "owners", "rights"] [])
    (FCO : FnOk P w K mg base CX0 1 fCO fdCO ["owners"] (spCpO K)) (mCO : mg "copy_owners" = some (.ref fCO)) (kCO : PySem.W.keepIn K (.ref fCO) = true) (bCO : Binds K fdCO ["owners"] [])
    (FCF : FnOk P w K mg base CX0 (2 * d + 4) fCF fdCF ["functions"] (spCpF K d)) (mCF : mg "copy_functions" = some (.ref fCF)) (kCF : PySem.W.keepIn K (.ref fCF) = true) (bCF : Binds K fdCF ["functions"] [])
    (mL : mg "list" = none) :
    FnOk P w K mg base (L2.CX P w) (3 * n + 7) f fd ["self", "rights", "owners", "functions"] (spInit K n d C CL CI) := by
  refine F.okX scIni (fun vs H Q E h => ?_) (fun cdv A outer s H vs Q E hr h => ?_)
  · obtain ⟨_, _, _, _, _, _, _, _, _, rfl, _⟩ := h
    rfl
  · obtain ⟨p, dx, G, v1, v2, v3, d1, d2, d3, rfl, hp, eG, gp, h1, h2, h3, ok, qb, qg⟩ := h
    have r4 := hr.mono (j := 4) (by omega)
    have r1 := hr.mono (j := 1) (by omega)
    have rd := hr.mono (j := 2 * d + 4) (by omega)
    refine ⟨_, pss_cons (ps_expr (pe_callS FR r4 (by rfl) mR kR bR (fun σ => passAt (takes_of rfl rfl rfl rfl) σ) (pa_cons (pv 1) pa_nil)))
      (pss_cons (ps_expr (pe_callS FO r4 (by rfl) mO kO bO (fun σ => passAt (takes_of rfl rfl rfl rfl) σ) (pa_cons (pv 2) (pa_cons (pv 1) pa_nil))))
      (pss_cons (ps_expr (pe_callS FF hr (by rfl) mF kF bF (fun σ => passAt (takes_of rfl rfl rfl rfl) σ) (pa_cons (pv 3) (pa_cons (pv 2) (pa_cons (pv 1) pa_nil)))))
      (pss_cons (ps_fld (pv 0) (pe_callTy (call_listK (K := K)) (by rfl) mL (by decide +kernel) (pa_cons (pv 1) pa_nil)) rfl)
      (pss_cons (ps_fld (pv 0) (pe_call FCO r1 rfl mCO kCO bCO .nil pass0 (pa_cons (pv 2) pa_nil)) rfl)
      (pss_one (ps_fld (pv 0) (pe_call FCF rd rfl mCF kCF bCF .nil pass0 (pa_cons (pv 3) pa_nil)) rfl)))))), ?_⟩
    have sG := same_ex eG
    refine ⟨_, rfl, ckR_k (h1.mono sG) ok.r (fun s1 => qb (.lst 0) CL v1 (by simp only [faultF, s1, if_true]) ⟨rfl, rfl⟩) (fun s1 b1 H1 e1 => ?_) (fun s1 i a xs x b1 ea hx hi => ?_)⟩
    case refine_2 =>
      subst ea
      obtain ⟨a', xs', ea, ga, _⟩ := dq_list h1 (size_lst s1).1
      cases ea
      rw [eG _ _ ga] at hx
      cases hx
      exact qb (.itm 0 i) CI x (by simp only [faultF, s1, b1, Bool.true_eq_false, if_false]) ⟨rfl, _, _, rfl, ga, hi⟩
    obtain ⟨a1, xs1, rfl, g1, q1⟩ := dq_list h1 (size_lst s1).1
    have e1s := rBad_strs b1
    have hx1 : xs1 = ((items d1).map unS).map V.str := strs_back (by rw [← e1s]; exact q1)
    have l1 : ((items d1).map unS).length ≤ 4096 := by
      have := (size_lst s1).2
      rw [List.length_map]
      omega
    rw [hx1] at g1
    have x1 := eG.trans e1
    refine ⟨_, rfl, _, rfl, ckO_k (rs := (items d1).map unS) (h2.mono (same_ex x1)) (x1 _ _ g1) l1 ok.o (fun s2 => ?_) (fun s2 b2 H2 e2 => ?_) (fun s2 i a xs x b2 ea hx hi => ?_)⟩
    · intro H3 e3
      exact qb (.lst 1) CL v2 (by simp only [faultF, s1, b1, s2, Bool.true_eq_false, if_false, if_true]) ⟨rfl, rfl⟩ H3 (e1.trans e3)
    case refine_3 =>
      subst ea
      obtain ⟨a', xs', ea, ga, _⟩ := dq_list h2 (size_lst s2).1
      cases ea
      rw [x1 _ _ ga] at hx
      cases hx
      intro H3 e3
      exact qb (.itm 1 i) CI x (by simp only [faultF, s1, b1, s2, b2, Bool.true_eq_false, if_false]) ⟨rfl, _, _, rfl, ga, hi⟩ H3 (e1.trans e3)
    obtain ⟨os, eos, hos⟩ := oBad_own b2
    obtain ⟨a2, xs2, rfl, g2, q2⟩ := dq_list h2 (size_lst s2).1
    have e2d : d2 = .list (os.map ownD) := by rw [lst_items (size_lst s2).1, eos]
    have l2 : os.length ≤ 4096 := by
      have h1 := (size_lst s2).2
      have h2 := congrArg List.length eos
      rw [List.length_map] at h2
      omega
    have x2 := x1.trans e2
    refine ⟨_, rfl, _, rfl, _, rfl, ckF_k (os := os) (rs := (items d1).map unS) (h3.mono (same_ex x2)) (by rw [← e2d]; exact h2.mono (same_ex x2)) l2 (x2 _ _ g1) ok.f (fun s3 => ?_) (fun s3 b3 H3 e3 => ?_) (fun s3 i a xs x b3 ea hx hi => ?_)⟩
    · intro H3 e3
      exact qb (.lst 2) CL v3 (by simp only [faultF, s1, b1, s2, b2, s3, Bool.true_eq_false, if_false, if_true]) ⟨rfl, rfl⟩ H3 ((e1.trans e2).trans e3)
    case refine_3 =>
      subst ea
      obtain ⟨a', xs', ea, ga, _⟩ := dq_list h3 (size_lst s3).1
      cases ea
      rw [x2 _ _ ga] at hx
      cases hx
      intro H3 e3
      rw [hos] at b3
      exact qb (.itm 2 i) CI x (by simp only [faultF, s1, b1, s2, b2, s3, b3, Bool.true_eq_false, if_false]) ⟨rfl, _, _, rfl, ga, hi⟩ H3 ((e1.trans e2).trans e3)
    rw [hos] at b3
    obtain ⟨q, ed1, ed2, ed3, le, qg⟩ := qg (by simp only [faultF, s1, b1, s2, b2, s3, b3, Bool.true_eq_false, if_false])
    have x3 := x2.trans e3
    have er : (items d1).map unS = q.rs := by
      rw [ed1]
      simp [strsD, items, unS, List.map_map, Function.comp_def]
    have gq1 : H3 a1 = some (.lst (q.rs.map V.str)) := by
      rw [x3 _ _ g1, er]
    have hp3 : H3 p = some (.ins C dx []) := e3 _ _ (e2 _ _ (e1 _ _ hp))
    refine ⟨_, rfl, a1, _, rfl, .inl (SqL.of gq1), fun l nl => ?_⟩
    have npl : p ≠ l := ne_of_none hp3 nl
    refine ⟨_, rfl, p, C, dx, [], rfl, (by rw [upd_ne npl]; exact hp3), T.cl, T.nR, (by show 0 < 1000; decide), ?_⟩
    have k1 : New H (upd H3 l (.lst (q.rs.map V.str))) (upd emp l (.lst (q.rs.map V.str))) := (new_ofEx (e1.trans (e2.trans e3))).put nl
    have x4 : Ex G (upd H3 l (.lst (q.rs.map V.str))) := x3.trans (Ex.new nl)
    have xp : ∀ {H4 : Hp} {o : HO}, Ex G H4 → Ex G (upd H4 p o) := fun x a u e => by
      have z : a ≠ p := fun z => by rw [z, gp] at e; cases e
      rw [upd_ne z]
      exact x a u e
    obtain ⟨a3, xs3, rfl, g3, q3⟩ := dq_list h3 (size_lst s3).1
    rw [ed2] at h2
    rw [ed3] at h3
    refine ⟨_, rfl, cpO_k (os := q.os) (h2.mono (same_ex (xp x4))) le.os fun a2' H5 M5 k5 h5 => ?_⟩
    have hp5 := k5.hh _ _ (upd_same (a := p))
    refine ⟨_, rfl, p, C, dx, _, rfl, hp5, T.cl, T.nO, (by show 1 < 1000; decide), ?_⟩
    obtain ⟨k5', e5⟩ := new_swap k5 (o0 := .ins C dx []) (by rw [upd_ne npl]; exact hp3)
    generalize upd H5 p (.ins C dx []) = A5 at k5' e5
    subst e5
    have x5 : Ex G A5 := x4.trans k5'.hh
    rw [upd_upd]
    refine ⟨_, rfl, cpF_k (fs := q.fs) (h3.mono (same_ex (xp x5))) le.fl le.fs fun a3' H6 M6 k6 h6 => ?_⟩
    have hp6 := k6.hh _ _ (upd_same (a := p))
    refine ⟨_, rfl, p, C, dx, _, rfl, hp6, T.cl, T.nF, (by rw [show putF "_rights" (V.ref l) [] = ([("_rights", V.ref l)] : List (Str × V)) from rfl, putF_o]; show 2 < 1000; decide), ?_⟩
    have hp4 : (upd H3 l (.lst (q.rs.map V.str))) p = some (.ins C dx []) := by rw [upd_ne npl]; exact hp3
    obtain ⟨k6', e6⟩ := new_swap k6 (o0 := .ins C dx []) (k5'.hh _ _ hp4)
    generalize upd H6 p (.ins C dx []) = A6 at k6' e6
    subst e6
    rw [upd_upd, show putF "_rights" (V.ref l) [] = ([("_rights", V.ref l)] : List (Str × V)) from rfl, putF_o, putF_f]
    have kk := (k1.trans k5').trans k6'
    have r1' : Ex (upd emp l (.lst (q.rs.map V.str))) (join (join (upd emp l (.lst (q.rs.map V.str))) M5) M6) := join_l.trans join_l
    have r2' : Ex M5 (join (join (upd emp l (.lst (q.rs.map V.str))) M5) M6) := (k1.right k5').trans join_l
    have r3' : Ex M6 (join (join (upd emp l (.lst (q.rs.map V.str))) M5) M6) := (k1.trans k5').right k6'
    exact qg A6 _ l a2' a3' kk (r1' _ _ upd_same) (h5.dq.mono (same_ex r2')) (h6.dq.mono (same_ex r3'))
end
end Lx

set_option Elab.async false
set_option maxRecDepth 100000
set_option linter.all false
set_option maxHeartbeats 2000000
/-! KitQ: == and != of an instance whose class has its own ==, beside anything; plain data to the left of such an instance. -/
namespace KxQ
open PySem PySem.W PyProof.Rows PySem.SeqAt
section
variable {prog : Program} {w : World} {A : Around} {E : Value → Shared → Prop} {s : Shared} {K : Frag} {x C f : Addr} {ox : Obj} {od : Option Obj} {b tb : Value}
/-- x != b by the inherited != over the own == -/
theorem ne_K {Q : Value → Shared → Prop} (hu : A.units + 1 < cLine) (X : K.In s.heap) (I : InstAt s.heap x ox C od) (hb : Looks (model prog w) s.heap (typeOf b) tb) (hn : notFirst K C tb = true)
    (hne : findIn K (.ref C) "__ne__" = some (some (.builtin "object.__ne__"))) (hob : subIn K (.ref C) (.type "object") = some true)
    (hs : findIn K (.ref C) "__eq__" = some (some (.ref f))) (hf : isFn K (.ref f) = true)
    (h : wpAny (model prog w) A.in1 (call (.ref f) [.ref x, b]) (fun v s' => ∃ r, v = .bool r ∧ Q (.bool (!r)) s') E s) : wpAny (model prog w) A (richCompare .NotEq (.ref x) b) Q E s := by
  have ob := F.cmp_object
  have body : wpAny (model prog w) A.in1 (Builtin.«object.__ne__» ⟨[.ref x, b], []⟩) (fun fin s' => ∃ r, fin = .done (.ret (.bool r)) ∧ Q (.bool r) s') E s := by
    obtain ⟨hp, g, d, t, os⟩ := s
    unfold Builtin.«object.__ne__»
    repeat (first
      | with_reducible refine wpAny_cRoomFor (show A.in1.units < cLine from hu) ?_
      | (refine wpAny_bind (m := callSpecialIfBound? (.ref x) (Str.ofString "__eq__") [b])
          (ifBound_K X I hs hf (wpAny_mono h (fun r s' hr => by
            obtain ⟨b, rfl, hq⟩ := hr
            repeat (first | exact ⟨_, rfl, hq⟩ | exact wpAny_pure ⟨_, rfl, hq⟩ | exact wpAny_truthy_bool ⟨_, rfl, hq⟩ | (refine wpAny_bind (m := truthy (.bool _)) (wpAny_truthy_bool ?_)) | wp_step)) fun _ _ e => e)))
      | wp_step)
  have one : wpAny (model prog w) A (tryCompare (.ref x) "__ne__" b) (fun r s' => ∃ r', r = some (.bool r') ∧ Q (.bool r') s') E s := by
    unfold tryCompare
    refine wpAny_bind ?_
    simp only [callSpecialIfBound?, bindSpecialIfBound?]
    have fin : wpAny (model prog w) A (call (.builtin "object.__ne__") ([.ref x] ++ [b]) >>= fun v => pure (some v)) (fun r => wpAny (model prog w) A (match r with | some .notImplemented | none => pure none | some v => pure (some v)) (fun r s' => ∃ r', r = some (.bool r') ∧ Q (.bool r') s') E) E s := by
      refine wpAny_bind (wpAny_call (codeAny_call_builtin ob.ne.plain F.cmpEntry_ne (check_slot F.cmpKind_ne F.cmpSplit_ne (I.type.andThen (looks_subIn X hob)) (F.cmpArgs_ne _ _) (wpAny_mono body (fun fin s' hv => ?_) fun _ _ e => e))))
      obtain ⟨r, rfl, q⟩ := hv
      exact wpAny_pure (wpAny_pure ⟨r, rfl, q⟩)
    refine wpAny_holding (wpAny_bind (wpAny_bind (wpAny_bind (I.type.here ((looks_findIn X hne).here ?_)))))
    simp only [ob.ne.bind]
    refine wpAny_bind (wpAny_askSetting (wpAny_ite ?_))
    split
    · exact wpAny_bind (wpAny_pure (wpAny_pure fin))
    · exact wpAny_tryCatch (wpAny_bind (wpAny_pure (wpAny_pure fin)))
  unfold richCompare
  simp only [oneThing_ref]
  refine wpAny_holding (wpAny_bind (wpAny_cRoomFor (Nat.lt_of_succ_lt hu) ?_))
  refine wpAny_bind (I.type.here (wpAny_bind (hb.here ?_)))
  split
  · rename_i q
    have e : subIn K tb (.ref C) = some false := by
      rcases Bool.or_eq_true_iff.mp hn with e | e
      · rw [beq_iff_eq.mp e] at q; simp at q
      · exact beq_iff_eq.mp e
    refine wpAny_bind ((looks_subIn X e).here ?_)
    simp only [Bool.false_eq_true, if_false]
    refine wpAny_bind (wpAny_mono one (fun r s' z => ?_) fun _ _ e => e)
    obtain ⟨v, rfl, hq⟩ := z
    exact wpAny_pure hq
  · refine wpAny_bind (wpAny_pure ?_)
    simp only [Bool.false_eq_true, if_false]
    refine wpAny_bind (wpAny_mono one (fun r s' z => ?_) fun _ _ e => e)
    obtain ⟨v, rfl, hq⟩ := z
    exact wpAny_pure hq
/-- u == x, u of a built-in type that declines, x an instance with its own == -/
theorem rev_K {u : Value} {T id : String} {Q : Value → Shared → Prop} (hu : A.units < cLine) (X : K.In s.heap) (ha : s.TypeIs u T) (I : InstAt s.heap x ox C od) (hsub : subIn K (.ref C) (.type T) = some false)
    (h1 : Slot T "__eq__" id) (hc : ∀ Q' : Value → Shared → Prop, Q' .notImplemented s → wpAny (model prog w) A (call (.builtin id) [u, .ref x]) Q' E s)
    (hs : findIn K (.ref C) "__eq__" = some (some (.ref f))) (hf : isFn K (.ref f) = true)
    (h : wpAny (model prog w) A (call (.ref f) [.ref x, u]) (PySem.W.CmpBack Q) E s) : wpAny (model prog w) A (richCompare .Eq u (.ref x)) Q E s := by
  have one : wpAny (model prog w) A (tryCompare (.ref x) "__eq__" u) (fun r s' => ∃ v, r = some v ∧ Q v s') E s := by
    unfold tryCompare
    refine wpAny_bind (ifBound_K X I hs hf (wpAny_mono h (fun v s' hv => ?_) fun _ _ e => e))
    cases v <;> first | exact hv.elim | exact wpAny_pure ⟨_, rfl, hv⟩
  unfold richCompare
  simp only [ha.oneThing_none]
  refine wpAny_holding (wpAny_bind (wpAny_cRoomFor hu ?_))
  refine wpAny_bind (wpAny_typeOf ha (wpAny_bind (I.type.here ?_)))
  have hne : (Value.type T != Value.ref C) = true := rfl
  simp only [hne, if_true]
  refine wpAny_bind ((looks_subIn X hsub).here ?_)
  simp only [Bool.false_eq_true, if_false, Bool.not_false, if_true]
  refine wpAny_bind (m := tryCompare u _ (.ref x)) (wpAny_tryCompare_declines ha h1 (hc _ ⟨rfl, ?_⟩))
  refine wpAny_bind (wpAny_mono one (fun r s' z => ?_) fun _ _ e => e)
  obtain ⟨v, rfl, hq⟩ := z
  exact wpAny_pure hq
end
end KxQ

set_option Elab.async false
set_option maxRecDepth 100000
set_option linter.all false
set_option maxHeartbeats 2000000
namespace KxQ
open PySem PySem.W PyProof.Rows PySem.SeqAt
open AutoSeq1 (wpAny_loadPart')
section
variable {prog : Program} {w : World} {A : Around} {E : Value → Shared → Prop} {s : Shared} {K : Frag} {x C dx : Addr} {od : Option Obj}
theorem cut {T : String} {name : Str} {id : String} {B : Builtin} {self : Value} {rest : List Value} {Q : Value → Shared → Prop} (slot : Slot T name id) (hT : s.TypeIs self T)
    (entry : entryFor table id = some B) (args : argsOk id ⟨self :: rest, []⟩)
    (h : ∀ R : Result → Shared → Prop, R (.ok (.ret .notImplemented)) s → wpAny (model prog w) A.in1 (B ⟨self :: rest, []⟩) (GQ.FinOf prog w A R) (fun e s' => R (.error e) s') s) (q : Q .notImplemented s) :
    wpAny (model prog w) A (call (.builtin id) (self :: rest)) Q E s := GQ.call_here slot hT entry args (h _ q)
theorem dec_list {l : Addr} {items : Array Value} {n : Nat} {dd : Option Addr} {sl : Array (Option Value)} (X : K.In s.heap) (hl : s.heap.get? l = some { cls := .type "list", dict := dd, data := .seq items n, slots := sl })
    (I : InstAt s.heap x (instObj C dx) C od) (hs : subIn K (.ref C) (.type "list") = some false) {R : Result → Shared → Prop} (h : R (.ok (.ret .notImplemented)) s) :
    wpAny (model prog w) A.in1 (Builtin.«list.__eq__» ⟨[.ref l, .ref x], []⟩) (GQ.FinOf prog w A R) (fun e s' => R (.error e) s') s := by
  have L : Looks (model prog w) s.heap (isInstance (.ref x) (.type "list")) false := I.type.andThen (looks_subIn X hs)
  obtain ⟨hp, g, d, tk, os⟩ := s
  repeat (first | with_reducible refine L.here ?_ | wp_step)
  exact h
theorem dec_tup {l : Addr} {items : Array Value} {n : Nat} {dd : Option Addr} {sl : Array (Option Value)} (X : K.In s.heap) (hl : s.heap.get? l = some { cls := .type "tuple", dict := dd, data := .seq items n, slots := sl })
    (I : InstAt s.heap x (instObj C dx) C od) (hs : subIn K (.ref C) (.type "tuple") = some false) {R : Result → Shared → Prop} (h : R (.ok (.ret .notImplemented)) s) :
    wpAny (model prog w) A.in1 (Builtin.«tuple.__eq__» ⟨[.ref l, .ref x], []⟩) (GQ.FinOf prog w A R) (fun e s' => R (.error e) s') s := by
  have L : Looks (model prog w) s.heap (isInstance (.ref x) (.type "tuple")) false := I.type.andThen (looks_subIn X hs)
  obtain ⟨hp, g, d, tk, os⟩ := s
  repeat (first | with_reducible refine L.here ?_ | with_reducible refine wpAny_loadPart' hl ?_ | wp_step)
  exact h
theorem dec_dict {l : Addr} {es : Array DictEntry} {n : Nat} {dd : Option Addr} {sl : Array (Option Value)} (X : K.In s.heap) (hl : s.heap.get? l = some { cls := .type "dict", dict := dd, data := .dict es n, slots := sl })
    (I : InstAt s.heap x (instObj C dx) C od) (hs : subIn K (.ref C) (.type "dict") = some false) {R : Result → Shared → Prop} (h : R (.ok (.ret .notImplemented)) s) :
    wpAny (model prog w) A.in1 (Builtin.«dict.__eq__» ⟨[.ref l, .ref x], []⟩) (GQ.FinOf prog w A R) (fun e s' => R (.error e) s') s := by
  have L : Looks (model prog w) s.heap (isInstance (.ref x) (.type "dict")) false := I.type.andThen (looks_subIn X hs)
  obtain ⟨hp, g, d, tk, os⟩ := s
  repeat (first | with_reducible refine L.here ?_ | with_reducible refine wpAny_loadPart' hl ?_ | wp_step)
  exact h
theorem dec_str {y : Str} {u : Tok} (I : InstAt s.heap x (instObj C dx) C od) {R : Result → Shared → Prop} (h : R (.ok (.ret .notImplemented)) s) :
    wpAny (model prog w) A.in1 (Builtin.«str.__eq__» ⟨[.str y u, .ref x], []⟩) (GQ.FinOf prog w A R) (fun e s' => R (.error e) s') s := by
  have hx := I.at_
  obtain ⟨hp, g, d, tk, os⟩ := s
  repeat (first | with_reducible refine wpAny_load hx ?_ | wp_step)
  exact h
theorem dec_int {i : Int} {u : Tok} (I : InstAt s.heap x (instObj C dx) C od) {R : Result → Shared → Prop} (h : R (.ok (.ret .notImplemented)) s) :
    wpAny (model prog w) A.in1 (Builtin.«int.__eq__» ⟨[.int i u, .ref x], []⟩) (GQ.FinOf prog w A R) (fun e s' => R (.error e) s') s := by
  have hx := I.at_
  obtain ⟨hp, g, d, tk, os⟩ := s
  repeat (first | with_reducible refine wpAny_load hx ?_ | wp_step)
  exact h
theorem dec_bool {b : Bool} (I : InstAt s.heap x (instObj C dx) C od) {R : Result → Shared → Prop} (h : R (.ok (.ret .notImplemented)) s) :
    wpAny (model prog w) A.in1 (Builtin.«int.__eq__» ⟨[.bool b, .ref x], []⟩) (GQ.FinOf prog w A R) (fun e s' => R (.error e) s') s := by
  have hx := I.at_
  obtain ⟨hp, g, d, tk, os⟩ := s
  repeat (first | with_reducible refine wpAny_load hx ?_ | wp_step)
  exact h
theorem dec_none {R : Result → Shared → Prop} (h : R (.ok (.ret .notImplemented)) s) :
    wpAny (model prog w) A.in1 (Builtin.«NoneType.__eq__» ⟨[.none, .ref x], []⟩) (GQ.FinOf prog w A R) (fun e s' => R (.error e) s') s := by
  obtain ⟨hp, g, d, tk, os⟩ := s
  repeat wp_step
  exact h
end
end KxQ

set_option Elab.async false
set_option maxRecDepth 100000
set_option linter.all false
set_option maxHeartbeats 2000000
/-! KitQ3: == and != by an own ==, as rules. -/
namespace Kx
open PySem PySem.Spec PyProof.Rows L2 Evl
/-- what the text says of a class with its own == -/
structure OwnE (K : PySem.W.Frag) (C f : Addr) : Prop where
  hs : PySem.W.findIn K (.ref C) "__eq__" = some (some (.ref f))
  hf : PySem.W.isFn K (.ref f) = true
  hne : PySem.W.findIn K (.ref C) "__ne__" = some (some (.builtin "object.__ne__"))
  hob : PySem.W.subIn K (.ref C) (.type "object") = some true
section
variable {X : Cx} {CX : CXT} {n : Nat} {f C : Addr} {fd : FuncData} {ps : List Str} {sp : Sp} {E : XK} {pins : List (Addr × Obj)} {σ : L2.St} {H : Hp} {s : Shared}
theorem run_fo {A : Around} {Q : VK} {us : List Value} {vs : List V} (F : FnOk X.prog X.w X.K X.mg X.base CX n f fd ps sp) (hb : Binds X.K fd ps []) (hr : Room n A) (e0 : Env0 X.prog X.w X.K X.mg X.base A X.stack s H)
    (hx : Passes CX X E) (I : Inv X pins σ H s) (r : Vals vs us) (h : sp vs H Q E) : wpAny (model X.prog X.w) A (call (.ref f) us) (EP X pins σ Q) X.xe s := by
  have hl := F.len _ _ _ _ h
  refine wpAny_call (codeAny_mono (F.run A X.stack s H ⟨us, []⟩ us vs Q E hr e0 (by
    have := hb s us I.kIn (by rw [List.append_nil, ← r.length]; exact hl)
    rw [List.append_nil] at this
    exact this) r h) fun r s' hq => ?_)
  cases r with
  | error e => exact hx pins σ H s e s' I hq
  | ok fl =>
    cases fl with
    | ret u => exact I.after hq
    | next => exact False.elim hq
    | brk => exact False.elim hq
    | cont => exact False.elim hq
theorem looks_tyx {x : V} {u t : Value} (I : Inv X pins σ H s) (rx : RelV x u) (ty : TyX X.K H x t) : PySem.W.Looks (model X.prog X.w) s.heap (typeOf u) t := by
  obtain ⟨P, Z, p, _⟩ := kit_of I rx ty
  exact Z.ty _ _ I.kIn p
/-- x == y, x an instance with its own ==, y anything -/
def rEqO (K : PySem.W.Frag) (C : Addr) (sp : Sp) (E : XK) : R2 := fun x y H Q => ∃ (a dx : Addr) (fs : List (Str × V)) (t : Value), x = .ref a ∧ H a = some (.ins C dx fs) ∧ TyX K H y t ∧ PySem.W.notFirst K C t = true ∧ sp [x, y] H (fun v H' => ∃ b, v = .bl b ∧ Q (.bl b) H') E
def rNeO (K : PySem.W.Frag) (C : Addr) (sp : Sp) (E : XK) : R2 := fun x y H Q => ∃ (a dx : Addr) (fs : List (Str × V)) (t : Value), x = .ref a ∧ H a = some (.ins C dx fs) ∧ TyX K H y t ∧ PySem.W.notFirst K C t = true ∧ sp [x, y] H (fun v H' => ∃ b, v = .bl b ∧ Q (.bl (!b)) H') E
theorem op_eqO (O : OwnE X.K C f) (F : FnOk X.prog X.w X.K X.mg X.base CX n f fd ps sp) (hb : Binds X.K fd ps []) (hr : Room n X.A) (hx : Passes CX X E) : OpR X (compareOp .Eq) (rEqO X.K C sp E) := by
  intro pins s σ H x y v u Q I rx ry h
  obtain ⟨a, dx, fs, t, rfl, ha, ty, hn, q⟩ := h
  have ry' := ry
  cases (show v = Value.ref a from rx)
  obtain ⟨mA, J, _⟩ := ins_get I.hok ha
  obtain ⟨od, J, _⟩ := J.look
  obtain ⟨m, hF⟩ := I.fr
  show wpAny (model X.prog X.w) X.A (richCompare .Eq (.ref a) u) (EP X pins σ Q) X.xe s
  refine PySem.W.cmp_K (op := .Eq) (tb := t) hr.units0 hF I.ok.mod.kin J (looks_tyx I ry ty) hn O.hs O.hf ?_
  refine wpAny_mono (run_fo F hb hr I.env0 hx I (us := [.ref a, u]) (vs := [.ref a, y]) (.cons rfl (.cons ry' .nil)) q) (fun r s' z => ?_) fun _ _ x => x
  obtain ⟨z', H', I', rz, b, rfl, q⟩ := z
  cases (show r = Value.bool b from rz)
  exact ⟨.bl b, H', I', rfl, q⟩
theorem op_neO (O : OwnE X.K C f) (F : FnOk X.prog X.w X.K X.mg X.base CX n f fd ps sp) (hb : Binds X.K fd ps []) (hr : Room (n + 1) X.A) (hx : Passes CX X E) : OpR X (compareOp .NotEq) (rNeO X.K C sp E) := by
  intro pins s σ H x y v u Q I rx ry h
  obtain ⟨a, dx, fs, t, rfl, ha, ty, hn, q⟩ := h
  have ry' := ry
  cases (show v = Value.ref a from rx)
  obtain ⟨mA, J, _⟩ := ins_get I.hok ha
  obtain ⟨od, J, _⟩ := J.look
  show wpAny (model X.prog X.w) X.A (richCompare .NotEq (.ref a) u) (EP X pins σ Q) X.xe s
  refine KxQ.ne_K (tb := t) (Nat.lt_of_le_of_lt (Nat.add_le_add_left (by decide : 1 ≤ 64) _) hr.units) I.kIn J (looks_tyx I ry ty) hn O.hne O.hob O.hs O.hf ?_
  refine wpAny_mono (run_fo F hb hr.in1 I.env0.in1 hx I (us := [.ref a, u]) (vs := [.ref a, y]) (.cons rfl (.cons ry' .nil)) q) (fun r s' z => ?_) fun _ _ x => x
  obtain ⟨z', H', I', rz, b, rfl, q⟩ := z
  cases (show r = Value.bool b from rz)
  exact ⟨b, rfl, .bl (!b), H', I', rfl, q⟩
/-- x == y, x plain data, y an instance with its own == -/
def rEqR (K : PySem.W.Frag) (C : Addr) (sp : Sp) (E : XK) : R2 := fun x y H Q => ∃ (a dx : Addr) (fs : List (Str × V)) (d : PyData), y = .ref a ∧ H a = some (.ins C dx fs) ∧ Dq K H x d ∧ sp [y, x] H (fun v H' => ∃ b, v = .bl b ∧ Q (.bl b) H') E
def NoSub (K : PySem.W.Frag) (C : Addr) : Prop := ∀ T ∈ (["NoneType", "bool", "int", "str", "list", "tuple", "dict"] : List String), PySem.W.subIn K (.ref C) (.type T) = some false
theorem op_eqR (O : OwnE X.K C f) (N : NoSub X.K C) (FF : FnOk X.prog X.w X.K X.mg X.base CX n f fd ps sp) (hb : Binds X.K fd ps []) (hr : Room n X.A) (hx : Passes CX X E) : OpR X (compareOp .Eq) (rEqR X.K C sp E) := by
  intro pins s σ H x y v u Q I rx ry h
  obtain ⟨a, dx, fs, d, rfl, ha, hd, q⟩ := h
  have rx' := rx
  cases (show u = Value.ref a from ry)
  obtain ⟨mA, J0, _⟩ := ins_get I.hok ha
  obtain ⟨od, J, _⟩ := J0.look
  show wpAny (model X.prog X.w) X.A (richCompare .Eq v (.ref a)) (EP X pins σ Q) X.xe s
  have fin : wpAny (model X.prog X.w) X.A (call (.ref f) [.ref a, v]) (PySem.W.CmpBack (EP X pins σ Q)) X.xe s := by
    refine wpAny_mono (run_fo FF hb hr I.env0 hx I (us := [.ref a, v]) (vs := [.ref a, x]) (.cons rfl (.cons rx' .nil)) q) (fun r s' z => ?_) fun _ _ x => x
    obtain ⟨z', H', I', rz, b, rfl, q⟩ := z
    cases (show r = Value.bool b from rz)
    exact ⟨.bl b, H', I', rfl, q⟩
  cases hd with
  | non =>
    cases (show v = Value.none from rx)
    exact KxQ.rev_K (T := "NoneType") hr.units0 I.kIn rfl J (N _ (by decide)) F.slot_NoneType_eq (fun Q' q' => KxQ.cut F.slot_NoneType_eq rfl F.entry_NoneType_eq (F.args_NoneType_eq_2 _ _) (fun R h => KxQ.dec_none (prog := X.prog) (w := X.w) h) q') O.hs O.hf fin
  | bl b =>
    cases (show v = Value.bool b from rx)
    exact KxQ.rev_K (T := "bool") hr.units0 I.kIn rfl J (N _ (by decide)) F.slot_bool_eq (fun Q' q' => KxQ.cut F.slot_bool_eq rfl F.entry_int_eq (F.args_int_eq_2 _ _) (fun R h => KxQ.dec_bool (prog := X.prog) (w := X.w) J h) q') O.hs O.hf fin
  | int i =>
    obtain ⟨t, e⟩ := (show ∃ t, v = Value.int i t from rx)
    cases e
    exact KxQ.rev_K (T := "int") hr.units0 I.kIn (typeIs_int _ _ _) J (N _ (by decide)) F.slot_int_eq (fun Q' q' => KxQ.cut F.slot_int_eq (typeIs_int _ _ _) F.entry_int_eq (F.args_int_eq_2 _ _) (fun R h => KxQ.dec_int (prog := X.prog) (w := X.w) J h) q') O.hs O.hf fin
  | str z =>
    obtain ⟨t, e⟩ := (show ∃ t, v = Value.str z t from rx)
    cases e
    exact KxQ.rev_K (T := "str") hr.units0 I.kIn (typeIs_str _ _ _) J (N _ (by decide)) F.slot_str_eq (fun Q' q' => KxQ.cut F.slot_str_eq (typeIs_str _ _ _) F.entry_str_eq (F.args_str_eq_2 _ _) (fun R h => KxQ.dec_str (prog := X.prog) (w := X.w) J h) q') O.hs O.hf fin
  | @lst l xs ds hl _ =>
    cases (show v = Value.ref l from rx)
    obtain ⟨_, its, n, rv, ho⟩ := (show ObjOk X.prog X.w H s.heap l (.lst _) from I.hok l _ hl)
    exact KxQ.rev_K (T := "list") hr.units0 I.kIn ⟨_, ho, rfl⟩ J (N _ (by decide)) F.slot_list_eq (fun Q' q' => KxQ.cut F.slot_list_eq ⟨_, ho, rfl⟩ F.entry_list_eq (F.args_list_eq_2 _ _) (fun R h => KxQ.dec_list (prog := X.prog) (w := X.w) I.kIn ho J (N _ (by decide)) h) q') O.hs O.hf fin
  | @tup l xs ds hl _ =>
    cases (show v = Value.ref l from rx)
    obtain ⟨its, rv, ⟨⟨cls, dd, dt, sl⟩, ho, hc, n, hd'⟩, _⟩ := I.tuple hl
    simp only at hc hd'
    subst hc hd'
    exact KxQ.rev_K (T := "tuple") hr.units0 I.kIn ⟨_, ho, rfl⟩ J (N _ (by decide)) F.slot_tuple_eq (fun Q' q' => KxQ.cut F.slot_tuple_eq ⟨_, ho, rfl⟩ F.entry_tuple_eq (F.args_tuple_eq_2 _ _) (fun R h => KxQ.dec_tup (prog := X.prog) (w := X.w) I.kIn ho J (N _ (by decide)) h) q') O.hs O.hf fin
  | @dic l kvs ds hl _ =>
    cases (show v = Value.ref l from rx)
    obtain ⟨_, hal, vs, rv, ⟨cls, dd, dt, sl⟩, es, ep, ho, hx', hd', _⟩ := (show ObjOk X.prog X.w H s.heap l (.dK _) from I.hok l _ hl)
    have hc := hx'.1
    simp only at hc hd'
    subst hc hd'
    exact KxQ.rev_K (T := "dict") hr.units0 I.kIn ⟨_, ho, rfl⟩ J (N _ (by decide)) F.slot_dict_eq (fun Q' q' => KxQ.cut F.slot_dict_eq ⟨_, ho, rfl⟩ F.entry_dict_eq (F.args_dict_eq_2 _ _) (fun R h => KxQ.dec_dict (prog := X.prog) (w := X.w) I.kIn ho J (N _ (by decide)) h) q') O.hs O.hf fin
/-- either of two ways -/
theorem op_or {fn : Value → Value → Sem Value} {r r' : R2} (h : OpR X fn r) (h' : OpR X fn r') : OpR X fn (fun x y H Q => r x y H Q ∨ r' x y H Q) := by
  intro pins s σ H x y v u Q I rx ry q
  rcases q with q | q
  · exact h pins s σ H x y v u Q I rx ry q
  · exact h' pins s σ H x y v u Q I rx ry q
end
end Kx

set_option Elab.async false
set_option maxRecDepth 100000
set_option linter.all false
set_option maxHeartbeats 4000000
namespace Kx
open PySem PySem.Spec PyProof.Rows L2 Evl
mutual
theorem noDict_lay : ∀ {d : PyData}, d.canLay0 = true → d.hasDict = false
  | .none, _ => by simp only [PyData.hasDict]
  | .bool _, _ => by simp only [PyData.hasDict]
  | .int _, _ => by simp only [PyData.hasDict]
  | .str _, _ => by simp only [PyData.hasDict]
  | .list xs, h => by
    simp only [PyData.canLay0] at h
    simp only [PyData.hasDict]
    exact noDict_layA h
  | .tuple xs, h => by
    simp only [PyData.canLay0] at h
    simp only [PyData.hasDict]
    exact noDict_layA h
  | .dict _, h => by simp only [PyData.canLay0] at h; cases h
theorem noDict_layA : ∀ {xs : List PyData}, PyData.canLayAll0 xs = true → PyData.hasDictAll xs = false
  | [], _ => by simp only [PyData.hasDictAll]
  | x :: xs, h => by
    simp only [PyData.canLayAll0, Bool.and_eq_true] at h
    simp only [PyData.hasDictAll, noDict_lay h.1, noDict_layA h.2, Bool.or_self]
end
theorem shaped_noDict {d : PyData} (h : SeqAt.shaped d = true) : d.hasDict = false := noDict_lay (Bool.and_eq_true_iff.mp h).1
mutual
theorem eqv_self : ∀ {d : PyData}, d.hasDict = false → PyData.eqv d d = true
  | .none, _ => by simp only [PyData.eqv]
  | .bool _, _ => by simp only [PyData.eqv, beq_self_eq_true]
  | .int _, _ => by simp only [PyData.eqv, beq_self_eq_true]
  | .str _, _ => by simp only [PyData.eqv, beq_self_eq_true]
  | .list xs, h => by
    simp only [PyData.hasDict] at h
    simp only [PyData.eqv]
    exact eqv_selfA h
  | .tuple xs, h => by
    simp only [PyData.hasDict] at h
    simp only [PyData.eqv]
    exact eqv_selfA h
  | .dict _, h => by simp only [PyData.hasDict] at h; cases h
theorem eqv_selfA : ∀ {xs : List PyData}, PyData.hasDictAll xs = false → PyData.eqvAll xs xs = true
  | [], _ => by simp only [PyData.eqvAll]
  | x :: xs, h => by
    simp only [PyData.hasDictAll, Bool.or_eq_false_iff] at h
    simp only [PyData.eqvAll, eqv_self h.1, eqv_selfA h.2, Bool.and_self]
end
end Kx
namespace Lx
open PySem PySem.Spec PyProof.Rows L2 Evl Kx
/-- parts that == can compare -/
structure ShP (q : Prt) : Prop where
  r : SeqAt.shaped (strsD q.rs) = true
  o : SeqAt.shaped (.list (q.os.map ownD)) = true
  f : SeqAt.shaped (.list (q.fs.map fnD)) = true
def sameP (q q2 : Prt) : Bool := PyData.eqv (strsD q.rs) (strsD q2.rs) && PyData.eqv (.list (q.os.map ownD)) (.list (q2.os.map ownD)) && PyData.eqv (.list (q.fs.map fnD)) (.list (q2.fs.map fnD))
theorem sameP_self {q : Prt} (h : ShP q) : sameP q q = true := by
  unfold sameP
  rw [eqv_self (shaped_noDict h.r), eqv_self (shaped_noDict h.o), eqv_self (shaped_noDict h.f)]
  rfl
/-- what isinstance asks of the class -/
structure PIsi (K : PySem.W.Frag) (C : Addr) : Prop where
  ha : PySem.W.findIn K (.ref C) "__class__" = some (some (.builtin "object.__class__"))
  hn : PySem.W.specialIn K (.builtin "object.__class__") "__get__" = some (some (.builtin "getset_descriptor.__get__"))
  ht : PySem.W.takesIn K (.builtin "object.__class__") = some true
  hm : PySem.W.mroIn K C (.type "object") = some true
  no : ∀ T ∈ (["NoneType", "bool", "int", "str", "list", "tuple", "dict"] : List String), PySem.W.kitOne K (.type T) (.ref C) = some false
theorem tyN_mem (d : PyData) : tyN d ∈ (["NoneType", "bool", "int", "str", "list", "tuple", "dict"] : List String) := by cases d <;> simp [tyN]
section
variable {P : Program} {w : World} {K : PySem.W.Frag} {mg : Str → Option Value} {base : Heap} {f : Addr} {fd : FuncData}
theorem lk_r (a1 a2 a3 : Addr) : (progF a1 a2 a3).lookup ("_rights" : Str) = some (.ref a1) := rfl
theorem lk_o (a1 a2 a3 : Addr) : (progF a1 a2 a3).lookup ("_owners" : Str) = some (.ref a2) := by
  have h1 : (("_owners" : Str) == ("_rights" : Str)) = false := by decide +kernel
  have h2 : (("_owners" : Str) == ("_owners" : Str)) = true := by decide +kernel
  unfold progF
  simp only [List.lookup, h1, h2]
theorem lk_f (a1 a2 a3 : Addr) : (progF a1 a2 a3).lookup ("_functions" : Str) = some (.ref a3) := by
  have h1 : (("_functions" : Str) == ("_rights" : Str)) = false := by decide +kernel
  have h2 : (("_functions" : Str) == ("_owners" : Str)) = false := by decide +kernel
  have h3 : (("_functions" : Str) == ("_functions" : Str)) = true := by decide +kernel
  unfold progF
  simp only [List.lookup, h1, h2, h3]
theorem isi_p {C p : Addr} {H : Hp} {q : Prt} {Q : VK} (T : PTxt K mg C) (I : PIsi K C) (h : ProgAt K C H p q) (q' : Q (.bl true) H) : rIsiS K [.ref p, .ref C] H Q := by
  obtain ⟨dx, a1, a2, a3, h0, _⟩ := h
  exact ⟨.ref p, .ref C, .ref C, .ref C, true, rfl, .own C, .base (.ins h0 T.cl I.ha I.hn I.ht I.hm), by unfold PySem.W.kitOne; rw [if_pos (beq_self_eq_true _)], q'⟩
theorem isi_d {C : Addr} {H : Hp} {v : V} {d : PyData} {Q : VK} (I : PIsi K C) (h : Dq K H v d) (q' : Q (.bl false) H) : rIsiS K [v, .ref C] H Q :=
  ⟨v, .ref C, .type (tyN d), .ref C, false, rfl, .own C, dq_tyx h, I.no _ (tyN_mem d), q'⟩
abbrev sRi : Stmt := inClass (top 33) 1
abbrev sOs : Stmt := inClass (top 33) 2
abbrev sFs : Stmt := inClass (top 33) 3
abbrev sEq : Stmt := inClass (top 33) 4
theorem scRi : FnScope ["self"] ["self"] (defScope sRi) := ⟨rfl, rfl, rfl, by decide +kernel, rfl, by decide +kernel, by decide +kernel⟩
theorem scOs : FnScope ["self"] ["self"] (defScope sOs) := ⟨rfl, rfl, rfl, by decide +kernel, rfl, by decide +kernel, by decide +kernel⟩
theorem scFs : FnScope ["self"] ["self"] (defScope sFs) := ⟨rfl, rfl, rfl, by decide +kernel, rfl, by decide +kernel, by decide +kernel⟩
theorem scEq : FnScope ["self", "other"] ["self", "other"] (defScope sEq) := ⟨rfl, rfl, rfl, by decide +kernel, rfl, by decide +kernel, by decide +kernel⟩
structure spRi (K : PySem.W.Frag) (C : Addr) (vs : List V) (H : Hp) (Q : VK) (E_ : XK) : Prop where
  mk' ::
  out : ∃ p q, vs = [.ref p] ∧ ProgAt K C H p q ∧ ∀ l H2 M, New H H2 M → M l = some (.lst (q.rs.map V.str)) → Q (.ref l) H2
structure spOs (K : PySem.W.Frag) (C : Addr) (vs : List V) (H : Hp) (Q : VK) (E_ : XK) : Prop where
  mk' ::
  out : ∃ p q, vs = [.ref p] ∧ ProgAt K C H p q ∧ q.os.length ≤ 4096 ∧ ∀ l H2 M, New H H2 M → FrN K H M (.ref l) (.list (q.os.map ownD)) → Q (.ref l) H2
structure spFs (K : PySem.W.Frag) (C : Addr) (d : Nat) (vs : List V) (H : Hp) (Q : VK) (E_ : XK) : Prop where
  mk' ::
  out : ∃ p q, vs = [.ref p] ∧ ProgAt K C H p q ∧ PrtLe d q ∧ ∀ l H2 M, New H H2 M → FrN K H M (.ref l) (.list (q.fs.map fnD)) → Q (.ref l) H2
structure spEqP (K : PySem.W.Frag) (C : Addr) (vs : List V) (H : Hp) (Q : VK) (E_ : XK) : Prop where
  mk' ::
  out : ∃ p v q, vs = [.ref p, v] ∧ ProgAt K C H p q ∧ ShP q ∧ ((∃ p2 q2, v = .ref p2 ∧ ProgAt K C H p2 q2 ∧ ShP q2 ∧ Q (.bl (sameP q q2)) H) ∨ (∃ d, Dq K H v d ∧ Q (.bl false) H))
theorem ok_ri {C : Addr} (F : Fun K "rights" "Program.rights" sRi f fd) (T : PTxt K mg C) (mL : mg "list" = none) : FnOk P w K mg base CX0 1 f fd ["self"] (spRi K C) := by
  refine F.ok scRi (fun vs H Q E h => ?_) (fun cdv A outer s H vs Q E hr h => ?_)
  · obtain ⟨_, _, rfl, _⟩ := h
    rfl
  · obtain ⟨p, q, rfl, ⟨dx, a1, a2, a3, h0, h1, h2, h3⟩, k⟩ := h
    refine ⟨_, pss_one (ps_ret (pe_callTy (call_listK (K := K)) (by rfl) mL (by decide +kernel) (pa_cons (pe_fld (pv 0) rfl) pa_nil))), ?_⟩
    exact ⟨_, rfl, p, C, dx, _, _, rfl, h0, T.cl, T.nR, lk_r _ _ _, a1, _, rfl, .inl (SqL.of h1), fun l nl => k l _ _ (New.refl.put nl) upd_same⟩
theorem ok_os {C fC : Addr} {fdC : FuncData} (F : Fun K "owners" "Program.owners" sOs f fd) (T : PTxt K mg C)
    (FC : FnOk P w K mg base CX0 1 fC fdC ["owners"] (spCpO K)) (mC : mg "copy_owners" = some (.ref fC)) (kC : PySem.W.keepIn K (.ref fC) = true) (bC : Binds K fdC ["owners"] []) : FnOk P w K mg base CX0 2 f fd ["self"] (spOs K C) := by
  refine F.ok scOs (fun vs H Q E h => ?_) (fun cdv A outer s H vs Q E hr h => ?_)
  · obtain ⟨_, _, rfl, _⟩ := h
    rfl
  · obtain ⟨p, q, rfl, ⟨dx, a1, a2, a3, h0, h1, h2, h3⟩, hl, k⟩ := h
    refine ⟨_, pss_one (ps_ret (pe_call FC hr rfl mC kC bC .nil pass0 (pa_cons (pe_fld (pv 0) rfl) pa_nil))), ?_⟩
    exact ⟨_, rfl, p, C, dx, _, _, rfl, h0, T.cl, T.nO, lk_o _ _ _, cpO_k (os := q.os) h2 hl k⟩
theorem ok_fs {d : Nat} {C fC : Addr} {fdC : FuncData} (F : Fun K "functions" "Program.functions" sFs f fd) (T : PTxt K mg C)
    (FC : FnOk P w K mg base CX0 (2 * d + 4) fC fdC ["functions"] (spCpF K d)) (mC : mg "copy_functions" = some (.ref fC)) (kC : PySem.W.keepIn K (.ref fC) = true) (bC : Binds K fdC ["functions"] []) : FnOk P w K mg base CX0 (2 * d + 5) f fd ["self"] (spFs K C d) := by
  refine F.ok scFs (fun vs H Q E h => ?_) (fun cdv A outer s H vs Q E hr h => ?_)
  · obtain ⟨_, _, rfl, _⟩ := h
    rfl
  · obtain ⟨p, q, rfl, ⟨dx, a1, a2, a3, h0, h1, h2, h3⟩, le, k⟩ := h
    refine ⟨_, pss_one (ps_ret (pe_call FC hr rfl mC kC bC .nil pass0 (pa_cons (pe_fld (pv 0) rfl) pa_nil))), ?_⟩
    exact ⟨_, rfl, p, C, dx, _, _, rfl, h0, T.cl, T.nF, lk_f _ _ _, cpF_k (fs := q.fs) h3 le.fl le.fs k⟩
theorem ok_eqP {C : Addr} (F : Fun K "__eq__" "Program.__eq__" sEq f fd) (T : PTxt K mg C) (I : PIsi K C) (mI : mg "isinstance" = none) : FnOk P w K mg base CX0 1 f fd ["self", "other"] (spEqP K C) := by
  refine F.ok scEq (fun vs H Q E h => ?_) (fun cdv A outer s H vs Q E hr h => ?_)
  · obtain ⟨_, _, _, rfl, _⟩ := h
    rfl
  · obtain ⟨p, v, q, rfl, hp, sq, k⟩ := h
    have hu := hr.units
    refine ⟨_, pss_cons (ps_if (pt_not (pt_val (pe_callB (isi_S (K := K)) (by rfl) mI PyProof.Rows.boot_isinstance (pa_cons (pv 1) (pa_cons (pe_cls (by rfl) T.mgC) pa_nil))))) (pss_one (ps_ret pe_bl)) pss_nil)
      (pss_cons (ps_if (PW.pt (pw_or (pt_cmpR (op_neD hu) (pe_fld (pv 0) rfl) (pe_fld (pv 1) rfl) (nomark _)) (pw_or1 (pt_cmpR (op_neD hu) (pe_fld (pv 0) rfl) (pe_fld (pv 1) rfl) (nomark _))))) (pss_one (ps_ret pe_bl)) pss_nil)
      (pss_one (ps_ret (pe_cmpR (op_eqD hu) (pe_fld (pv 0) rfl) (pe_fld (pv 1) rfl) (nomark _))))), ?_⟩
    rcases k with ⟨p2, q2, rfl, hp2, sq2, k⟩ | ⟨d, hd, k⟩
    · refine ⟨_, rfl, isi_p T I hp2 ⟨_, rfl, iteF ?_⟩⟩
      obtain ⟨dx, a1, a2, a3, h0, h1, h2, h3⟩ := hp
      obtain ⟨dy, b1, b2, b3, g0, g1, g2, g3⟩ := hp2
      refine ⟨_, rfl, p, C, dx, _, _, rfl, h0, T.cl, T.nR, lk_r _ _ _, _, rfl, p2, C, dy, _, _, rfl, g0, T.cl, T.nR, lk_r _ _ _, _, _, dp_of (dq_strs h1) (shaped_noDict sq.r), dp_of (dq_strs g1) (shaped_noDict sq2.r), sq.r, sq2.r, ?_⟩
      refine ⟨_, rfl, ite2 (fun e1 => ?_) (fun e1 => ?_)⟩
      · have : sameP q q2 = false := by
          unfold sameP
          rw [show PyData.eqv (strsD q.rs) (strsD q2.rs) = false by simpa using e1]
          rfl
        rw [this] at k
        exact k
      · have e1 : PyData.eqv (strsD q.rs) (strsD q2.rs) = true := by simpa using e1
        refine ⟨_, rfl, p, C, dx, _, _, rfl, h0, T.cl, T.nO, lk_o _ _ _, _, rfl, p2, C, dy, _, _, rfl, g0, T.cl, T.nO, lk_o _ _ _, _, _, dp_of h2 (shaped_noDict sq.o), dp_of g2 (shaped_noDict sq2.o), sq.o, sq2.o, ?_⟩
        refine ⟨_, rfl, ite2 (fun e2 => ?_) (fun e2 => ?_)⟩
        · have : sameP q q2 = false := by
            unfold sameP
            rw [e1, show PyData.eqv (.list (q.os.map ownD)) (.list (q2.os.map ownD)) = false by simpa using e2]
            rfl
          rw [this] at k
          exact k
        · have e2 : PyData.eqv (.list (q.os.map ownD)) (.list (q2.os.map ownD)) = true := by simpa using e2
          refine ⟨_, rfl, p, C, dx, _, _, rfl, h0, T.cl, T.nF, lk_f _ _ _, _, rfl, p2, C, dy, _, _, rfl, g0, T.cl, T.nF, lk_f _ _ _, _, _, dp_of h3 (shaped_noDict sq.f), dp_of g3 (shaped_noDict sq2.f), sq.f, sq2.f, ?_⟩
          unfold sameP at k
          rw [e1, e2, Bool.true_and, Bool.true_and] at k
          exact k
    · exact ⟨_, rfl, isi_d I hd ⟨_, rfl, iteT k⟩⟩
end
end Lx

set_option Elab.async false
set_option maxRecDepth 100000
set_option linter.all false
set_option maxHeartbeats 4000000
namespace Lx
open PySem PySem.Spec PyProof.Rows L2 Evl Kx
/-- parts that make a program -/
structure Good (n d : Nat) (q : Prt) : Prop where
  ok : DataOk n (strsD q.rs) (.list (q.os.map ownD)) (.list (q.fs.map fnD))
  no : faultF (strsD q.rs) (.list (q.os.map ownD)) (.list (q.fs.map fnD)) = none
  le : PrtLe d q
  sh : ShP q
theorem prt_at {K : PySem.W.Frag} {H : Hp} {p : Addr} {q : Prt} (h : Dq K H (.ref p) (prtD q)) : ∃ a1 a2 a3, H p = some (.lst [.ref a1, .ref a2, .ref a3]) ∧ H a1 = some (.lst (q.rs.map V.str)) ∧ Dq K H (.ref a2) (.list (q.os.map ownD)) ∧ Dq K H (.ref a3) (.list (q.fs.map fnD)) := by
  cases h with
  | lst h0 hs =>
  cases hs with
  | cons g1 hs =>
  cases hs with
  | cons g2 hs =>
  cases hs with
  | cons g3 hs =>
  cases hs
  have g2' := g2
  have g3' := g3
  cases g1 with
  | lst k1 s1 =>
  cases g2 with
  | lst k2 s2 =>
  cases g3 with
  | lst k3 s3 => exact ⟨_, _, _, h0, by rw [k1, strs_back s1], g2', g3'⟩
theorem mk_prt {K : PySem.W.Frag} {H : Hp} {p a1 a2 a3 : Addr} {q : Prt} (h0 : H p = some (.lst [.ref a1, .ref a2, .ref a3])) (h1 : H a1 = some (.lst (q.rs.map V.str))) (h2 : Dq K H (.ref a2) (.list (q.os.map ownD))) (h3 : Dq K H (.ref a3) (.list (q.fs.map fnD))) : Dq K H (.ref p) (prtD q) :=
  .lst h0 (.cons (dq_strs h1) (.cons h2 (.cons h3 .nil)))
section
variable {P : Program} {w : World} {K : PySem.W.Frag} {mg : Str → Option Value} {base : Heap} {f : Addr} {fd : FuncData}
abbrev sPgm : Stmt := top 75
theorem scPgm : FnScope ["parts", "owners", "name", "rights", "owner", "body"] ["parts"] (defScope sPgm) := ⟨rfl, rfl, rfl, by decide +kernel, rfl, by decide +kernel, by decide +kernel⟩
structure spPgm (K : PySem.W.Frag) (n d : Nat) (C : Addr) (vs : List V) (H : Hp) (Q : VK) (E_ : XK) : Prop where
  mk' ::
  out : ∃ (p : Addr) (q : Prt), vs = [.ref p] ∧ Dq K H (.ref p) (prtD q) ∧ Good n d q ∧ ∀ p2 H2 M, New H H2 M → ProgAt K C M p2 q → Q (.ref p2) H2
theorem cop_k {p : Addr} {d : Nat} {b : List Stp} {G H : Hp} {Q : VK} {E : XK} (e : Ex G H) (h : Dq K G (.ref p) (.list (bodyD b))) (h1 : nstB b ≤ d) (h2 : cntB b ≤ 4096) (q : ∀ p2 H2 M, New H H2 M → FrN K H M (.ref p2) (.list (bodyD b)) → Q (.ref p2) H2) : spCop K d [.ref p] H Q E := by

  exact ⟨p, G, b, rfl, e, h, h1, h2, q⟩
/-- a program is made of good parts -/
theorem init_k {n d : Nat} {C CL CI p dx a1 a2 a3 : Addr} {q : Prt} {H : Hp} {Q : VK} {E : XK} (hp : H p = none) (hd : H dx = none) (ne : dx ≠ p) (g : Good n d q) (h1 : H a1 = some (.lst (q.rs.map V.str))) (h2 : Dq K H (.ref a2) (.list (q.os.map ownD))) (h3 : Dq K H (.ref a3) (.list (q.fs.map fnD)))
    (k : ∀ H2 M, New H H2 M → ProgAt K C M p q → Q .non H2) : spInit K n d C CL CI [.ref p, .ref a1, .ref a2, .ref a3] (upd (upd H dx (.own p)) p (.ins C dx [])) Q E := by

  have hp2 : (upd H dx (.own p)) p = none := by rw [upd_ne ne.symm]; exact hp
  refine ⟨p, dx, H, .ref a1, .ref a2, .ref a3, _, _, _, rfl, upd_same, (Ex.new hd).trans (Ex.new hp2), hp, dq_strs h1, h2, h3, g.ok, (fun f c v e => by rw [g.no] at e; cases e), fun _ => ⟨q, rfl, rfl, rfl, g.le, fun H2 M b1 b2 b3 k2 m1 m2 m3 => ?_⟩⟩
  have mp : M p = none := k2.fr p _ upd_same
  have mdx : M dx = none := k2.fr dx (.own p) (by rw [upd_ne ne]; exact upd_same)
  have mm : New H (upd H2 p (.ins C dx (progF b1 b2 b3))) (upd M p (.ins C dx (progF b1 b2 b3))) := by
    refine ⟨fun a u e => ?_, fun a u e => ?_, fun a u e => ?_⟩
    · have z : a ≠ p := ne_of_none e hp
      have z2 : a ≠ dx := ne_of_none e hd
      rw [upd_ne z]
      exact k2.hh a u (by rw [upd_ne z, upd_ne z2]; exact e)
    · by_cases z : a = p
      · rw [z, upd_same] at e ⊢
        exact e
      · rw [upd_ne z] at e ⊢
        exact k2.mh a u e
    · have z : a ≠ p := ne_of_none e hp
      have z2 : a ≠ dx := ne_of_none e hd
      rw [upd_ne z]
      exact k2.fr a u (by rw [upd_ne z, upd_ne z2]; exact e)
  have em : Ex M (upd M p (.ins C dx (progF b1 b2 b3))) := Ex.new mp
  exact k _ _ mm ⟨dx, b1, b2, b3, upd_same, em _ _ m1, m2.mono (same_ex em), m3.mono (same_ex em)⟩
theorem ok_pgm {n d : Nat} {C CL CI fB fI : Addr} {fdB fdI : FuncData} (F : Fun K "_law_program" "_law_program" sPgm f fd) (T : PTxt K mg C) (hnd : d + 2 ≤ 3 * n + 8) (FB : FnOk P w K mg base CX0 (d + 2) fB fdB ["body"] (spCop K d)) (mB : mg "_law_copied" = some (.ref fB)) (kB : PySem.W.keepIn K (.ref fB) = true) (bB : Binds K fdB ["body"] [])
    (M0 : Mk K C fI) (FI : FnOk P w K mg base (L2.CX P w) (3 * n + 7) fI fdI ["self", "rights", "owners", "functions"] (spInit K n d C CL CI)) (bI : Binds K fdI ["self", "rights", "owners", "functions"] []) (mL : mg "list" = none) : FnOk P w K mg base CX0 (3 * n + 9) f fd ["parts"] (spPgm K n d C) := by
  refine F.ok scPgm (fun vs H Q E h => ?_) (fun cdv A outer s H vs Q E hr h => ?_)
  · obtain ⟨_, _, rfl, _⟩ := h
    rfl
  · obtain ⟨p, q, rfl, hd, g, fin⟩ := h
    have le := g.le
    have rB := hr.mono (j := d + 2) (by omega)
    refine ⟨_, pss_cons (ps_setLc (i := 1) (own := [("name", 2), ("rights", 3)]) (g := gTup K 2 (gCons (gName 2) (gCons (gName 3) gNil))) rfl scPgm.nd rfl rfl (sw_true rfl rfl rfl (by decide +kernel)) (pi_list (pe_ix ix_list (pv 0) pe_int (fun _ _ => rfl)))
            (blkOk_by (own := [("name", 2), ("rights", 3)]) (N := ["parts", "owners", "name", "rights", "owner", "body"]) (sc := defScope sPgm) (by decide +kernel))
            (fun _ _ _ _ _ => pg_tupK rfl (pgs_cons (pg_name (i := 2) scPgm.nd rfl (Or.inl rfl)) (pgs_cons (pg_name (i := 3) scPgm.nd rfl (Or.inl rfl)) pgs_nil))) (fun _ _ _ _ _ => pts_nil)
            (fun _ _ _ _ _ => pe_tup (pa_cons (pv 2) (pa_cons (pe_callTy (call_listK (K := K)) (by rfl) mL (by decide +kernel) (pa_cons (pv 3) pa_nil)) pa_nil))))
      (pss_one (ps_ret (pe_make M0 FI hr rfl T.mgC bI .nil (no_passes rfl rfl) (pa_cons (pe_callTy (call_listK (K := K)) (by rfl) mL (by decide +kernel) (pa_cons (pe_ix ix_list (pv 0) pe_int (fun _ _ => rfl)) pa_nil)) (pa_cons (pv 1) (pa_cons (pe_lc (own := [("name", 2), ("owner", 4), ("body", 5)]) (g := gTup K 3 (gCons (gName 2) (gCons (gName 4) (gCons (gName 5) gNil)))) rfl scPgm.nd (pi_list (pe_ix ix_list (pv 0) pe_int (fun _ _ => rfl)))
            (blkOk_by (own := [("name", 2), ("owner", 4), ("body", 5)]) (N := ["parts", "owners", "name", "rights", "owner", "body"]) (sc := defScope sPgm) (by decide +kernel))
            (fun _ _ _ _ _ => pg_tupK rfl (pgs_cons (pg_name (i := 2) scPgm.nd rfl (Or.inl rfl)) (pgs_cons (pg_name (i := 4) scPgm.nd rfl (Or.inl rfl)) (pgs_cons (pg_name (i := 5) scPgm.nd rfl (Or.inl rfl)) pgs_nil)))) (fun _ _ _ _ _ => pts_nil)
            (fun _ _ _ _ _ => pe_tup (pa_cons (pv 2) (pa_cons (pv 4) (pa_cons (pe_call FB rB rfl mB kB bB .nil pass0 (pa_cons (pv 5) pa_nil)) pa_nil))))) pa_nil)))))), ?_⟩
    obtain ⟨a1, a2, a3, h0, h1, h2, h3⟩ := prt_at hd
    have h2' := h2
    have h3' := h3
    cases h2 with
    | @lst _ xsO _ hpO hxO =>
    cases h3 with
    | @lst _ xsF _ hpF hxF =>
    have hlO : xsO.length = q.os.length := by
      have := dqa_len hxO
      rw [List.length_map] at this
      exact this
    have hlF : xsF.length = q.fs.length := by
      have := dqa_len hxF
      rw [List.length_map] at this
      exact this
    have leo := le.os
    have lef := le.fl
    refine ⟨_, rfl, p, _, _, _, rfl, rfl, SqL.of h0, rfl, a2, rfl, ⟨_, SqL.of hpO⟩, fun D nD => ?_⟩
    refine lc_list (K := K) (a := a2) (xs := xsO) (fun i H' => ∃ (M : Hp) (acc : List V), New H H' M ∧ H' D = some (.lst acc) ∧ M D = none ∧ FrA K H M acc ((q.os.take i).map ownD)) ?_ (fun i H' _ ⟨_, _, k, _⟩ => SqL.of (k.hh _ _ hpO)) ?_ ?_
    · exact ⟨emp, [], New.refl.own nD, upd_same, rfl, FrA.nil⟩
    · rintro i x H' hi ⟨M, acc, k, hD, mD, ha⟩
      obtain ⟨ow, ta, pl, how, rfl, hT, hpl⟩ := own_at hxO hi
      refine ⟨ta, _, rfl, sqt_ex (same_ex k.hh) hT, rfl, _, _, rfl, _, _, rfl, rfl, rfl, _, rfl, _, rfl, pl, _, rfl, .inl (SqL.of (k.hh _ _ hpl)), fun l nl => ⟨by show 2 ≤ sizeLine; decide, fun tp ntp => ?_⟩⟩
      have k2 := (k.put (o := .lst (ow.2.map V.str)) nl).put (o := .tup [.str ow.1, .ref l]) ntp
      have fl : D ≠ l := ne_of_none hD nl
      have ft : D ≠ tp := ne_of_none (show (upd H' l (.lst (ow.2.map V.str))) D = some (.lst acc) by rw [upd_ne fl]; exact hD) ntp
      have mD2 : (upd (upd M l (.lst (ow.2.map V.str))) tp (.tup [.str ow.1, .ref l])) D = none := by rw [upd_ne ft, upd_ne fl]; exact mD
      have ml : M l = none := k.none nl
      have mt : (upd M l (.lst (ow.2.map V.str))) tp = none := (k.put (o := .lst (ow.2.map V.str)) nl).none ntp
      have em : Ex M (upd (upd M l (.lst (ow.2.map V.str))) tp (.tup [.str ow.1, .ref l])) := (Ex.new ml).trans (Ex.new mt)
      refine ⟨acc, by rw [upd_ne ft, upd_ne fl]; exact hD, ?_, _, acc ++ [.ref tp], k2.wr nD mD2, upd_same, mD2, ?_⟩
      · have := dqa_len ha.dq
        rw [List.length_map, List.length_take] at this
        have h2 := (List.getElem?_eq_some_iff.mp hi).1
        have e3z : (5000 : Nat) < sizeLine := by decide
        omega
      · rw [List.take_succ, how, List.map_append]
        exact FrA.app k ha em (Ex.refl _) (own_fr (by rw [upd_ne (ne_of_none upd_same mt)]; exact upd_same) upd_same nl)
    · rintro H' ⟨M, acc, k, hD, mD, ha⟩
      rw [hlO, List.take_of_length_le (Nat.le_refl _)] at ha
      have kO := k.frz nD hD
      have dO : FrN K H (upd M D (.lst acc)) (.ref D) (.list (q.os.map ownD)) := FrN.lst ha mD nD
      generalize upd M D (.lst acc) = MO at kO dO
      have x1 := kO.hh
      have h1' := x1 _ _ h1
      refine ⟨_, rfl, p, _, _, _, rfl, rfl, SqL.of (x1 _ _ h0), rfl, a1, _, rfl, .inl (SqL.of h1'), fun l nl => ?_⟩
      have kl := kO.put (o := .lst (q.rs.map V.str)) nl
      have mOl : MO l = none := kO.none nl
      have dO2 := dO.mono (Ex.new (o := .lst (q.rs.map V.str)) mOl)
      have nlO : ∀ as, DqN K MO (.ref D) (.list (q.os.map ownD)) as → l ∉ as := fun as a hl => by
        obtain ⟨xs, e⟩ := a.is l hl
        rw [mOl] at e
        cases e
      obtain ⟨asO, aO, bO, cO⟩ := dO
      have nlO := nlO _ aO
      have aO2 := aO.mono (Ex.new (o := .lst (q.rs.map V.str)) mOl)
      have hlO2 : ∀ a ∈ asO, (upd H' l (.lst (q.rs.map V.str))) a ≠ none := fun a ha => by
        obtain ⟨xs, e⟩ := aO2.is a ha
        rw [kl.mh _ _ e]
        exact fun z => nomatch z
      have nl0 : H l = none := fresh_back x1 nl
      generalize hMl : upd MO l (.lst (q.rs.map V.str)) = Ml at kl dO2 aO2
      have ml : Ml l = some (.lst (q.rs.map V.str)) := by rw [← hMl]; exact upd_same
      have xF : Ex H (upd H' l (.lst (q.rs.map V.str))) := kl.hh
      have hpF2 := xF _ _ hpF
      have hLl : (upd H' l (.lst (q.rs.map V.str))) l ≠ none := by rw [upd_same]; exact fun z => nomatch z
      generalize upd H' l (.lst (q.rs.map V.str)) = HL at kl xF hpF2 hlO2 hLl ⊢
      refine ⟨_, rfl, _, rfl, p, _, _, _, rfl, rfl, SqL.of (xF _ _ h0), rfl, a3, rfl, ⟨_, SqL.of hpF2⟩, fun D2 nD2 => ?_⟩
      refine lc_list (K := K) (a := a3) (xs := xsF) (fun i H' => ∃ (M : Hp) (acc : List V), New HL H' M ∧ H' D2 = some (.lst acc) ∧ M D2 = none ∧ FrA K HL M acc ((q.fs.take i).map fnD)) ?_ (fun i H' _ ⟨_, _, k, _⟩ => SqL.of (k.hh _ _ hpF2)) ?_ ?_
      · exact ⟨emp, [], New.refl.own nD2, upd_same, rfl, FrA.nil⟩
      · rintro i x H' hi ⟨M, acc, k, hD, mD, ha⟩
        obtain ⟨g, ta, pl, how, rfl, hT, hpl⟩ := fn_at hxF hi
        obtain ⟨h1, h2⟩ := le.fs g (List.mem_of_getElem? how)
        refine ⟨ta, _, rfl, sqt_ex (same_ex (xF.trans k.hh)) hT, rfl, _, _, rfl, _, _, rfl, _, _, rfl, rfl, rfl, _, rfl, _, rfl, _, rfl, cop_k (G := H) (xF.trans k.hh) hpl h1 h2 fun p3 H3 M3 k3 h3 => ⟨by show 3 ≤ sizeLine; decide, fun tp ntp => ?_⟩⟩
        have hD3 := k3.hh _ _ hD
        have k4 := (k.trans k3).put (o := .tup [.str g.1, .str g.2.1, .ref p3]) ntp
        have ft : D2 ≠ tp := ne_of_none hD3 ntp
        have mt : (join M M3) tp = none := (k.trans k3).none ntp
        have mD2 : (upd (join M M3) tp (.tup [.str g.1, .str g.2.1, .ref p3])) D2 = none := by
          rw [upd_ne ft]
          exact join_none mD (k3.fr _ _ hD)
        refine ⟨acc, by rw [upd_ne ft]; exact hD3, ?_, _, acc ++ [.ref tp], k4.wr nD2 mD2, upd_same, mD2, ?_⟩
        · have := dqa_len ha.dq
          rw [List.length_map, List.length_take] at this
          have h2 := (List.getElem?_eq_some_iff.mp hi).1
          have e3z : (5000 : Nat) < sizeLine := by decide
          have := le.fl
          omega
        · rw [List.take_succ, how, List.map_append]
          exact FrA.app k ha (join_l.trans (Ex.new mt)) (Ex.refl _) (fn_fr (h3.mono ((k.right k3).trans (Ex.new mt))) upd_same)
      · rintro H' ⟨M, acc, k, hD, mD, ha⟩
        rw [hlF, List.take_of_length_le (Nat.le_refl _)] at ha
        have kF := k.frz nD2 hD
        have dF : FrN K HL (upd M D2 (.lst acc)) (.ref D2) (.list (q.fs.map fnD)) := FrN.lst ha mD nD2
        generalize upd M D2 (.lst acc) = MF at kF dF
        have kk := kl.trans kF
        intro px dx npx ndx nex
        have x2 := kk.mh
        refine init_k npx ndx nex g (x2 _ _ (join_l _ _ ml)) (dO2.dq.mono (same_ex (join_l.trans x2))) (dF.dq.mono (same_ex ((kl.right kF).trans x2))) fun H2 M k2 hp => ⟨rfl, ?_⟩
        exact fin px H2 _ (kk.trans k2) (hp.mono (kk.right k2))
end
end Lx

set_option Elab.async false
set_option maxRecDepth 100000
set_option linter.all false
set_option maxHeartbeats 4000000
namespace Lx
open PySem PySem.Spec PyProof.Rows L2 Evl Kx
def strOkB : PyData → Bool
  | .str z => decide (z.length ≤ sizeLine)
  | _ => true
theorem strOk_of {d : PyData} (h : strOkB d = true) : strOk d := by
  rintro z rfl
  exact of_decide_eq_true h
def headOkB : PyData → Bool
  | .tuple (x :: _) => strOkB x
  | _ => true
theorem headOk_of {d : PyData} (h : headOkB d = true) : headOk d := by
  rintro x r rfl
  exact strOk_of h
theorem strs_unS (rs : List Str) : (items (strsD rs)).map unS = rs := by simp [strsD, items, unS, List.map_map, Function.comp_def]
theorem own_head (os : List Own) : (os.map ownD).map headS = os.map (·.1) := by simp [List.map_map, Function.comp_def, ownD, headS]
end Lx

set_option Elab.async false
set_option maxRecDepth 100000
set_option linter.all false
set_option maxHeartbeats 4000000
namespace Lx
open PySem PySem.Spec PyProof.Rows L2 Evl Kx
/-! ### equal data without numbers are the same -/
mutual
def pureD : PyData → Bool
  | .none => true
  | .bool _ => true
  | .int _ => false
  | .str _ => true
  | .list xs => pureA xs
  | .tuple xs => pureA xs
  | .dict _ => false
def pureA : List PyData → Bool
  | [] => true
  | x :: xs => pureD x && pureA xs
end
mutual
theorem eqv_eq : ∀ {d e : PyData}, pureD d = true → pureD e = true → PyData.eqv d e = true → d = e
  | .none, .none, _, _, _ => rfl
  | .bool a, .bool b, _, _, h => by simp only [PyData.eqv, beq_iff_eq] at h; rw [h]
  | .str a, .str b, _, _, h => by simp only [PyData.eqv, beq_iff_eq] at h; rw [h]
  | .list xs, .list ys, p, q, h => by
    simp only [pureD] at p q
    simp only [PyData.eqv] at h
    rw [eqvA_eq p q h]
  | .tuple xs, .tuple ys, p, q, h => by
    simp only [pureD] at p q
    simp only [PyData.eqv] at h
    rw [eqvA_eq p q h]
  | .int _, _, p, _, _ => by simp only [pureD] at p; cases p
  | .dict _, _, p, _, _ => by simp only [pureD] at p; cases p
  | _, .int _, _, q, _ => by simp only [pureD] at q; cases q
  | _, .dict _, _, q, _ => by simp only [pureD] at q; cases q
  | .none, .bool _, _, _, h => by simp only [PyData.eqv] at h; cases h
  | .none, .str _, _, _, h => by simp only [PyData.eqv] at h; cases h
  | .none, .list _, _, _, h => by simp only [PyData.eqv] at h; cases h
  | .none, .tuple _, _, _, h => by simp only [PyData.eqv] at h; cases h
  | .bool _, .none, _, _, h => by simp only [PyData.eqv] at h; cases h
  | .bool _, .str _, _, _, h => by simp only [PyData.eqv] at h; cases h
  | .bool _, .list _, _, _, h => by simp only [PyData.eqv] at h; cases h
  | .bool _, .tuple _, _, _, h => by simp only [PyData.eqv] at h; cases h
  | .str _, .none, _, _, h => by simp only [PyData.eqv] at h; cases h
  | .str _, .bool _, _, _, h => by simp only [PyData.eqv] at h; cases h
  | .str _, .list _, _, _, h => by simp only [PyData.eqv] at h; cases h
  | .str _, .tuple _, _, _, h => by simp only [PyData.eqv] at h; cases h
  | .list _, .none, _, _, h => by simp only [PyData.eqv] at h; cases h
  | .list _, .bool _, _, _, h => by simp only [PyData.eqv] at h; cases h
  | .list _, .str _, _, _, h => by simp only [PyData.eqv] at h; cases h
  | .list _, .tuple _, _, _, h => by simp only [PyData.eqv] at h; cases h
  | .tuple _, .none, _, _, h => by simp only [PyData.eqv] at h; cases h
  | .tuple _, .bool _, _, _, h => by simp only [PyData.eqv] at h; cases h
  | .tuple _, .str _, _, _, h => by simp only [PyData.eqv] at h; cases h
  | .tuple _, .list _, _, _, h => by simp only [PyData.eqv] at h; cases h
theorem eqvA_eq : ∀ {xs ys : List PyData}, pureA xs = true → pureA ys = true → PyData.eqvAll xs ys = true → xs = ys
  | [], [], _, _, _ => rfl
  | x :: xs, y :: ys, p, q, h => by
    simp only [pureA, Bool.and_eq_true] at p q
    simp only [PyData.eqvAll, Bool.and_eq_true] at h
    rw [eqv_eq p.1 q.1 h.1, eqvA_eq p.2 q.2 h.2]
  | [], _ :: _, _, _, h => by simp only [PyData.eqvAll] at h; cases h
  | _ :: _, [], _, _, h => by simp only [PyData.eqvAll] at h; cases h
end
theorem pureA_of : ∀ {xs : List PyData}, (∀ x ∈ xs, pureD x = true) → pureA xs = true
  | [], _ => by simp only [pureA]
  | x :: xs, h => by simp only [pureA, h x (List.mem_cons_self ..), pureA_of fun y hy => h y (List.mem_cons_of_mem _ hy), Bool.and_self]
theorem pure_strs (ss : List Str) : pureD (strsD ss) = true := by
  simp only [strsD, pureD]
  exact pureA_of fun x hx => by
    obtain ⟨s, _, rfl⟩ := List.mem_map.mp hx
    simp only [pureD]
theorem pure_own (o : Own) : pureD (ownD o) = true := by
  simp only [ownD, pureD, pureA, pure_strs, Bool.and_self]
mutual
theorem pure_stp : ∀ s : Stp, pureD (stpD s) = true
  | .call _ => by simp only [stpD, pureD, pureA, Bool.and_self]
  | .tail _ => by simp only [stpD, pureD, pureA, Bool.and_self]
  | .check _ => by simp only [stpD, pureD, pureA, Bool.and_self]
  | .back => by simp only [stpD, pureD, pureA, Bool.and_self]
  | .either a b => by simp only [stpD, pureD, pureA, pure_body a, pure_body b, Bool.and_self]
  | .loop b => by simp only [stpD, pureD, pureA, pure_body b, Bool.and_self]
  | .block _ b => by simp only [stpD, pureD, pureA, pure_body b, Bool.and_self]
theorem pure_body : ∀ b : List Stp, pureA (bodyD b) = true
  | [] => by simp only [bodyD, pureA]
  | s :: r => by simp only [bodyD, pureA, pure_stp s, pure_body r, Bool.and_self]
end
theorem pure_fn (g : Fn) : pureD (fnD g) = true := by
  simp only [fnD, pureD, pureA, pure_body, Bool.and_self]
mutual
theorem stp_inj : ∀ {s t : Stp}, stpD s = stpD t → s = t
  | .call a, t, h => by
    cases t with
    | call b => simp [stpD] at h; rw [h]
    | tail b => simp [stpD] at h; exact absurd h.1 (by decide +kernel)
    | check b => simp [stpD] at h; exact absurd h.1 (by decide +kernel)
    | _ => simp [stpD] at h
  | .tail a, t, h => by
    cases t with
    | call b => simp [stpD] at h; exact absurd h.1 (by decide +kernel)
    | tail b => simp [stpD] at h; rw [h]
    | check b => simp [stpD] at h; exact absurd h.1 (by decide +kernel)
    | _ => simp [stpD] at h
  | .check a, t, h => by
    cases t with
    | call b => simp [stpD] at h; exact absurd h.1 (by decide +kernel)
    | tail b => simp [stpD] at h; exact absurd h.1 (by decide +kernel)
    | check b => simp [stpD] at h; rw [h]
    | _ => simp [stpD] at h
  | .back, t, h => by cases t <;> simp_all [stpD]
  | .either a b, t, h => by
    cases t with
    | either c d =>
      simp only [stpD, PyData.tuple.injEq, List.cons.injEq, PyData.list.injEq, and_true, true_and] at h
      rw [body_inj h.1, body_inj h.2]
    | _ => simp [stpD] at h
  | .loop b, t, h => by
    cases t with
    | loop d =>
      simp only [stpD, PyData.tuple.injEq, List.cons.injEq, PyData.list.injEq, and_true, true_and] at h
      rw [body_inj h]
    | _ => simp [stpD] at h
  | .block m b, t, h => by
    cases t with
    | block n d =>
      simp only [stpD, PyData.tuple.injEq, List.cons.injEq, PyData.list.injEq, PyData.bool.injEq, and_true, true_and] at h
      rw [h.1, body_inj h.2]
    | _ => simp [stpD] at h
theorem body_inj : ∀ {a b : List Stp}, bodyD a = bodyD b → a = b
  | [], [], _ => rfl
  | [], _ :: _, h => by simp only [bodyD] at h; cases h
  | _ :: _, [], h => by simp only [bodyD] at h; cases h
  | s :: a, t :: b, h => by
    simp only [bodyD, List.cons.injEq] at h
    rw [stp_inj h.1, body_inj h.2]
end
theorem map_inj {α : Type} {f : α → PyData} (hf : ∀ a b, f a = f b → a = b) : ∀ {xs ys : List α}, xs.map f = ys.map f → xs = ys
  | [], [], _ => rfl
  | [], _ :: _, h => by cases h
  | _ :: _, [], h => by cases h
  | x :: xs, y :: ys, h => by
    simp only [List.map_cons, List.cons.injEq] at h
    rw [hf _ _ h.1, map_inj hf h.2]
theorem strs_inj {a b : List Str} (h : strsD a = strsD b) : a = b := by
  simp only [strsD, PyData.list.injEq] at h
  exact map_inj (fun a b h => by simpa using h) h
theorem own_inj (a b : Own) (h : ownD a = ownD b) : a = b := by
  simp only [ownD, PyData.tuple.injEq, List.cons.injEq, PyData.str.injEq, and_true] at h
  exact Prod.ext h.1 (strs_inj h.2)
theorem fn_inj (a b : Fn) (h : fnD a = fnD b) : a = b := by
  simp only [fnD, PyData.tuple.injEq, List.cons.injEq, PyData.str.injEq, PyData.list.injEq, and_true] at h
  exact Prod.ext h.1 (Prod.ext h.2.1 (body_inj h.2.2))
theorem same_eq {q o : Prt} (h : sameP q o = true) : q.rs = o.rs ∧ q.os = o.os ∧ q.fs = o.fs := by
  unfold sameP at h
  simp only [Bool.and_eq_true] at h
  refine ⟨strs_inj (eqv_eq (pure_strs _) (pure_strs _) h.1.1), ?_, ?_⟩
  · have := eqv_eq (by simp only [pureD]; exact pureA_of fun x hx => by obtain ⟨s, _, rfl⟩ := List.mem_map.mp hx; exact pure_own s) (by simp only [pureD]; exact pureA_of fun x hx => by obtain ⟨s, _, rfl⟩ := List.mem_map.mp hx; exact pure_own s) h.1.2
    exact map_inj own_inj (by simpa using this)
  · have := eqv_eq (by simp only [pureD]; exact pureA_of fun x hx => by obtain ⟨s, _, rfl⟩ := List.mem_map.mp hx; exact pure_fn s) (by simp only [pureD]; exact pureA_of fun x hx => by obtain ⟨s, _, rfl⟩ := List.mem_map.mp hx; exact pure_fn s) h.2
    exact map_inj fn_inj (by simpa using this)
theorem rev_ne {α : Type} {l : List α} (hn : l.Nodup) (h : 1 < l.length) : l.reverse ≠ l := fun e => by
  have h0 : l[0]? = l.reverse[0]? := by rw [e]
  rw [List.getElem?_reverse (by omega)] at h0
  have h1 : 0 < l.length := by omega
  have h2 : l.length - 1 - 0 < l.length := by omega
  rw [List.getElem?_eq_getElem h1, List.getElem?_eq_getElem h2] at h0
  exact (List.pairwise_iff_getElem.mp hn) 0 (l.length - 1 - 0) h1 h2 (by omega) (Option.some.inj h0)
end Lx

set_option Elab.async false
set_option maxRecDepth 100000
set_option linter.all false
set_option maxHeartbeats 4000000
namespace Lx
open PySem PySem.Spec PyProof.Rows L2 Evl Kx
def rightsN : List Str := rights3 ++ [("zz" : Str)]
def namesO : List Str := names3 ++ [("zz" : Str)]
def namesG : List Str := names4 ++ [("zz" : Str)]
structure Nice (q : Prt) : Prop where
  rn : q.rs.Nodup
  re : 1 ≤ q.rs.length
  rl : q.rs.length ≤ 5
  rm : ∀ r ∈ q.rs, r ∈ rightsN
  on : (q.os.map (·.1)).Nodup
  oe : 1 ≤ q.os.length
  ol : q.os.length ≤ 5
  om : ∀ o ∈ q.os, o.1 ∈ namesO ∧ o.2.Nodup ∧ ∀ r ∈ o.2, r ∈ q.rs
  fn : (q.fs.map (·.1)).Nodup
  fe : 1 ≤ q.fs.length
  fl : q.fs.length ≤ 6
  fm : ∀ g ∈ q.fs, g.1 ∈ namesG ∧ g.2.1 ∈ q.os.map (·.1) ∧ Kx.okB q.rs (q.fs.map (·.1)) false g.2.2 = true ∧ nstB g.2.2 ≤ 4 ∧ cntB g.2.2 ≤ 100
def goodS (x : Str) : Bool := strOkB (.str x) && nameD (.str x) && PySem.PyData.strOk x
theorem all_names : ((rightsN ++ namesO ++ namesG).all goodS) = true := by decide +kernel
theorem good_of {x : Str} (h : x ∈ rightsN ∨ x ∈ namesO ∨ x ∈ namesG) : strOk (.str x) ∧ nameD (.str x) = true ∧ PySem.PyData.strOk x = true := by
  have := List.all_eq_true.mp all_names x (by
    simp only [List.mem_append]
    rcases h with h | h | h
    · exact .inl (.inl h)
    · exact .inl (.inr h)
    · exact .inr h)
  simp only [goodS, Bool.and_eq_true] at this
  exact ⟨strOk_of this.1.1, this.1.2, this.2⟩
mutual
theorem dep_stp : ∀ s : Stp, (stpD s).depth ≤ 2 * nstS s + 2
  | .call _ => by simp [stpD, PyData.depth, PyData.depthAll]
  | .tail _ => by simp [stpD, PyData.depth, PyData.depthAll]
  | .check _ => by simp [stpD, PyData.depth, PyData.depthAll]
  | .back => by simp [stpD, PyData.depth, PyData.depthAll]
  | .either a b => by
    have h1 := dep_body a
    have h2 := dep_body b
    simp only [stpD, PyData.depth, PyData.depthAll, nstS]
    omega
  | .loop b => by
    have h2 := dep_body b
    simp only [stpD, PyData.depth, PyData.depthAll, nstS]
    omega
  | .block _ b => by
    have h2 := dep_body b
    simp only [stpD, PyData.depth, PyData.depthAll, nstS]
    omega
theorem dep_body : ∀ b : List Stp, PyData.depthAll (bodyD b) ≤ 2 * nstB b + 2
  | [] => by simp [bodyD, PyData.depthAll]
  | s :: r => by
    have h1 := dep_stp s
    have h2 := dep_body r
    simp only [bodyD, PyData.depthAll, nstB]
    omega
end
mutual
theorem lay_stp {rs ns : List Str} (hr : ∀ r ∈ rs, PySem.PyData.strOk r = true) (hn : ∀ r ∈ ns, PySem.PyData.strOk r = true) : ∀ {mk : Bool} {s : Stp}, okS rs ns mk s = true → (stpD s).canLay0 = true
  | _, .call n, h => by
    simp only [okS, decide_eq_true_eq] at h
    have w : PySem.PyData.strOk ("call" : Str) = true := by decide +kernel
    simp only [stpD, PyData.canLay0, PyData.canLayAll0, hn n h, w, Bool.and_self]
  | _, .tail n, h => by
    simp only [okS, Bool.and_eq_true, decide_eq_true_eq] at h
    have w : PySem.PyData.strOk ("tail" : Str) = true := by decide +kernel
    simp only [stpD, PyData.canLay0, PyData.canLayAll0, hn n h.1, w, Bool.and_self]
  | _, .check r, h => by
    simp only [okS, decide_eq_true_eq] at h
    have w : PySem.PyData.strOk ("check" : Str) = true := by decide +kernel
    simp only [stpD, PyData.canLay0, PyData.canLayAll0, hr r h, w, Bool.and_self]
  | _, .back, h => by
    have w : PySem.PyData.strOk ("back" : Str) = true := by decide +kernel
    simp only [stpD, PyData.canLay0, PyData.canLayAll0, w, Bool.and_self]
  | _, .either a b, h => by
    simp only [okS, Bool.and_eq_true] at h
    have w : PySem.PyData.strOk ("either" : Str) = true := by decide +kernel
    simp only [stpD, PyData.canLay0, PyData.canLayAll0, lay_body hr hn h.1, lay_body hr hn h.2, w, Bool.and_self]
  | _, .loop b, h => by
    simp only [okS] at h
    have w : PySem.PyData.strOk ("loop" : Str) = true := by decide +kernel
    simp only [stpD, PyData.canLay0, PyData.canLayAll0, lay_body hr hn h, w, Bool.and_self]
  | _, .block m b, h => by
    simp only [okS] at h
    have w : PySem.PyData.strOk ("block" : Str) = true := by decide +kernel
    simp only [stpD, PyData.canLay0, PyData.canLayAll0, lay_body hr hn h, w, Bool.and_self]
theorem lay_body {rs ns : List Str} (hr : ∀ r ∈ rs, PySem.PyData.strOk r = true) (hn : ∀ r ∈ ns, PySem.PyData.strOk r = true) : ∀ {mk : Bool} {b : List Stp}, Kx.okB rs ns mk b = true → PyData.canLayAll0 (bodyD b) = true
  | _, [], _ => by simp only [bodyD, PyData.canLayAll0]
  | _, s :: r, h => by
    simp only [Kx.okB, Bool.and_eq_true] at h
    simp only [bodyD, PyData.canLayAll0, lay_stp hr hn h.1, lay_body hr hn h.2, Bool.and_self]
end
theorem layA_of : ∀ {xs : List PyData}, (∀ x ∈ xs, x.canLay0 = true) → PyData.canLayAll0 xs = true
  | [], _ => by simp only [PyData.canLayAll0]
  | x :: xs, h => by simp only [PyData.canLayAll0, h x (List.mem_cons_self ..), layA_of fun y hy => h y (List.mem_cons_of_mem _ hy), Bool.and_self]
theorem depA_of {n : Nat} : ∀ {xs : List PyData}, (∀ x ∈ xs, x.depth ≤ n) → PyData.depthAll xs ≤ n
  | [], _ => by simp only [PyData.depthAll]; omega
  | x :: xs, h => by
    have h1 := h x (List.mem_cons_self ..)
    have h2 := depA_of fun y hy => h y (List.mem_cons_of_mem _ hy)
    simp only [PyData.depthAll]
    omega
theorem dep_strs (ss : List Str) : (strsD ss).depth ≤ 2 := by
  have : PyData.depthAll (ss.map PyData.str) ≤ 1 := depA_of fun x hx => by
    obtain ⟨s, _, rfl⟩ := List.mem_map.mp hx
    simp [PyData.depth]
  simp only [strsD, PyData.depth]
  omega
theorem lay_strs {ss : List Str} (h : ∀ s ∈ ss, PySem.PyData.strOk s = true) : (strsD ss).canLay0 = true := by
  simp only [strsD, PyData.canLay0]
  exact layA_of fun x hx => by
    obtain ⟨s, hs, rfl⟩ := List.mem_map.mp hx
    simp only [PyData.canLay0, h s hs]
theorem dep_own (o : Own) : (ownD o).depth ≤ 4 := by
  have := dep_strs o.2
  simp only [ownD, PyData.depth, PyData.depthAll]
  omega
theorem dep_fn {g : Fn} (h : nstB g.2.2 ≤ 4) : (fnD g).depth ≤ 13 := by
  have := dep_body g.2.2
  simp only [fnD, PyData.depth, PyData.depthAll]
  omega
theorem Nice.good {q : Prt} (n : Nice q) : Good 12 4 q := by
  have ns : ∀ x ∈ q.fs.map (·.1), x ∈ namesG := fun x hx => by
    obtain ⟨g, hg, rfl⟩ := List.mem_map.mp hx
    exact (n.fm g hg).1
  have lr : ∀ r ∈ q.rs, PySem.PyData.strOk r = true := fun r hr => (good_of (.inl (n.rm r hr))).2.2
  have ln : ∀ r ∈ q.fs.map (·.1), PySem.PyData.strOk r = true := fun r hr => (good_of (.inr (.inr (ns r hr)))).2.2
  refine ⟨⟨fun x hx => ?_, fun x hx => ?_, fun x hx => ?_⟩, ?_, ⟨by have := n.ol; omega, by have := n.fl; omega, fun g hg => ⟨(n.fm g hg).2.2.2.1, by have := (n.fm g hg).2.2.2.2; omega⟩⟩, ⟨?_, ?_, ?_⟩⟩
  · obtain ⟨r, hr, rfl⟩ := List.mem_map.mp hx
    exact (good_of (.inl (n.rm r hr))).1
  · obtain ⟨o, ho, rfl⟩ := List.mem_map.mp hx
    intro y r e
    cases e
    exact (good_of (.inr (.inl (n.om o ho).1))).1
  · obtain ⟨g, hg, rfl⟩ := List.mem_map.mp hx
    refine ⟨fun y r e => ?_, dep_fn (n.fm g hg).2.2.2.1⟩
    cases e
    exact (good_of (.inr (.inr (n.fm g hg).1))).1
  · have s1 : sizeF 5 (strsD q.rs) = true := by
      simp only [strsD, sizeF, List.length_map, decide_eq_true n.re, decide_eq_true n.rl, Bool.and_self]
    have s2 : sizeF 5 (.list (q.os.map ownD)) = true := by
      simp only [sizeF, List.length_map, decide_eq_true n.oe, decide_eq_true n.ol, Bool.and_self]
    have s3 : sizeF 6 (.list (q.fs.map fnD)) = true := by
      simp only [sizeF, List.length_map, decide_eq_true n.fe, decide_eq_true n.fl, Bool.and_self]
    have b1 : rBad [] (items (strsD q.rs)) = none := rBad_ok (fun s hs => (good_of (.inl (n.rm s hs))).2.1) (by simpa using n.rn)
    have b2 : oBad ((items (strsD q.rs)).map unS) [] (items (.list (q.os.map ownD))) = none := by
      rw [strs_unS]
      exact oBad_ok (fun o ho => ⟨(good_of (.inr (.inl (n.om o ho).1))).2.1, (n.om o ho).2⟩) (by simpa using n.on)
    have b3 : fBad ((items (.list (q.os.map ownD))).map headS) (namesF (items (.list (q.fs.map fnD)))) ((items (strsD q.rs)).map unS) [] (items (.list (q.fs.map fnD))) = none := by
      rw [strs_unS]
      show fBad ((q.os.map ownD).map headS) (namesF (q.fs.map fnD)) q.rs [] (q.fs.map fnD) = none
      rw [own_head, namesF_ok fun g hg => (good_of (.inr (.inr (n.fm g hg).1))).2.1]
      exact fBad_ok (fun g hg => ⟨(good_of (.inr (.inr (n.fm g hg).1))).2.1, (n.fm g hg).2.1, (n.fm g hg).2.2.1⟩) (by simpa using n.fn)
    simp only [faultF, s1, b1, s2, b2, s3, b3, Bool.true_eq_false, if_false]
  · unfold SeqAt.shaped
    have := dep_strs q.rs
    rw [lay_strs lr, decide_eq_true (by omega)]
    rfl
  · unfold SeqAt.shaped
    have h1 : PyData.depthAll (q.os.map ownD) ≤ 4 := depA_of fun x hx => by
      obtain ⟨o, ho, rfl⟩ := List.mem_map.mp hx
      exact dep_own o
    have h2 : PyData.canLayAll0 (q.os.map ownD) = true := layA_of fun x hx => by
      obtain ⟨o, ho, rfl⟩ := List.mem_map.mp hx
      simp only [ownD, PyData.canLay0, PyData.canLayAll0, (good_of (.inr (.inl (n.om o ho).1))).2.2, lay_strs fun s hs => lr s ((n.om o ho).2.2 s hs), Bool.and_self]
    rw [show (PyData.list _).canLay0 = true by simp only [PyData.canLay0]; exact h2, decide_eq_true (show (PyData.list _).depth ≤ 64 by simp only [PyData.depth]; omega)]
    rfl
  · unfold SeqAt.shaped
    have h1 : PyData.depthAll (q.fs.map fnD) ≤ 13 := depA_of fun x hx => by
      obtain ⟨g, hg, rfl⟩ := List.mem_map.mp hx
      exact dep_fn (n.fm g hg).2.2.2.1
    have h2 : PyData.canLayAll0 (q.fs.map fnD) = true := layA_of fun x hx => by
      obtain ⟨g, hg, rfl⟩ := List.mem_map.mp hx
      have ho : PySem.PyData.strOk g.2.1 = true := by
        obtain ⟨o, ho, e⟩ := List.mem_map.mp (n.fm g hg).2.1
        rw [← e]
        exact (good_of (.inr (.inl (n.om o ho).1))).2.2
      simp only [fnD, PyData.canLay0, PyData.canLayAll0, (good_of (.inr (.inr (n.fm g hg).1))).2.2, ho, lay_body lr ln (n.fm g hg).2.2.1, Bool.and_self]
    rw [show (PyData.list _).canLay0 = true by simp only [PyData.canLay0]; exact h2, decide_eq_true (show (PyData.list _).depth ≤ 64 by simp only [PyData.depth]; omega)]
    rfl
end Lx

set_option Elab.async false
set_option maxRecDepth 100000
set_option linter.all false
set_option maxHeartbeats 4000000
namespace Lx
open PySem PySem.Spec PyProof.Rows L2 Evl Kx
theorem take_nd {α : Type} {l : List α} {n : Nat} (h : l.Nodup) : (l.take n).Nodup := (List.take_sublist n l).nodup h
theorem PrtOk.nice {m : Nat} {q : Prt} (h : PrtOk m q) (h1 : 1 ≤ m) (h4 : m ≤ 4) : Nice q := by
  obtain ⟨k, hk, hr⟩ := h.rs
  have hlf : q.fs.length = m := by
    have := congrArg List.length h.ns
    rw [List.length_map, List.length_take] at this
    have e : names4.length = 4 := rfl
    omega
  refine ⟨?_, ?_, ?_, fun r hr' => ?_, h.os.nd, ?_, by have := h.os.le; omega, fun o ho => ?_, ?_, by omega, by omega, fun g hg => ?_⟩
  · rw [hr]; exact take_nd (by decide)
  · rw [hr, List.length_take]; have e : rights3.length = 3 := rfl; omega
  · rw [hr, List.length_take]; omega
  · rw [hr] at hr'
    exact List.mem_append_left _ (List.mem_of_mem_take hr')
  · exact List.length_pos_iff.mpr h.os.ne
  · obtain ⟨a, b, c⟩ := h.os.ok o ho
    exact ⟨List.mem_append_left _ a, b, c⟩
  · rw [h.ns]; exact take_nd (by decide)
  · obtain ⟨a, b, c, d⟩ := h.fs g hg
    refine ⟨?_, a, by rw [h.ns]; exact b, by omega, by omega⟩
    have : g.1 ∈ q.fs.map (·.1) := List.mem_map.mpr ⟨g, hg, rfl⟩
    rw [h.ns] at this
    exact List.mem_append_left _ (List.mem_of_mem_take this)
/-- another program than q, and one that can be made -/
def Oth (q o : Prt) : Prop := Nice o ∧ sameP q o = false
theorem oth_of {q o : Prt} (n : Nice o) (h : ¬ (q.rs = o.rs ∧ q.os = o.os ∧ q.fs = o.fs)) : Oth q o := ⟨n, by
  cases e : sameP q o with
  | false => rfl
  | true => exact (h (same_eq e)).elim⟩
section
variable {q : Prt} (n : Nice q)
include n
theorem nice_fs {fs : List Fn} (hn : (fs.map (·.1)).Nodup) (he : 1 ≤ fs.length) (hl : fs.length ≤ 6) (hm : ∀ g ∈ fs, g.1 ∈ namesG ∧ g.2.1 ∈ q.os.map (·.1) ∧ Kx.okB q.rs (fs.map (·.1)) false g.2.2 = true ∧ nstB g.2.2 ≤ 4 ∧ cntB g.2.2 ≤ 100) : Nice ⟨q.rs, q.os, fs⟩ :=
  ⟨n.rn, n.re, n.rl, n.rm, n.on, n.oe, n.ol, n.om, hn, he, hl, hm⟩
theorem nice_os {os : List Own} (hn : (os.map (·.1)).Nodup) (he : 1 ≤ os.length) (hl : os.length ≤ 5) (hm : ∀ o ∈ os, o.1 ∈ namesO ∧ o.2.Nodup ∧ ∀ r ∈ o.2, r ∈ q.rs) (hs : ∀ x ∈ q.os.map (·.1), x ∈ os.map (·.1)) : Nice ⟨q.rs, os, q.fs⟩ :=
  ⟨n.rn, n.re, n.rl, n.rm, hn, he, hl, hm, n.fn, n.fe, n.fl, fun g hg => ⟨(n.fm g hg).1, hs _ (n.fm g hg).2.1, (n.fm g hg).2.2⟩⟩
theorem nice_rs {rs : List Str} (hn : rs.Nodup) (he : 1 ≤ rs.length) (hl : rs.length ≤ 5) (hm : ∀ r ∈ rs, r ∈ rightsN) (hs : ∀ x ∈ q.rs, x ∈ rs) : Nice ⟨rs, q.os, q.fs⟩ :=
  ⟨hn, he, hl, hm, n.on, n.oe, n.ol, fun o ho => ⟨(n.om o ho).1, (n.om o ho).2.1, fun r hr => hs r ((n.om o ho).2.2 r hr)⟩, n.fn, n.fe, n.fl, fun g hg => ⟨(n.fm g hg).1, (n.fm g hg).2.1, okB_mono hs (fun _ h => h) (n.fm g hg).2.2.1, (n.fm g hg).2.2.2⟩⟩
/-- the last function with another owner or body -/
theorem oth_last {fi : List Fn} {g : Fn} {o : Str} {b : List Stp} (hf : q.fs = fi ++ [g]) (ho : o ∈ q.os.map (·.1)) (hb : Kx.okB q.rs (q.fs.map (·.1)) false b = true) (h1 : nstB b ≤ 4) (h2 : cntB b ≤ 100) (hne : ¬ (o = g.2.1 ∧ b = g.2.2)) : Oth q ⟨q.rs, q.os, fi ++ [(g.1, o, b)]⟩ := by
  have en : (fi ++ [(g.1, o, b)]).map (·.1) = q.fs.map (·.1) := by rw [hf]; simp
  have el : (fi ++ [(g.1, o, b)]).length = q.fs.length := by rw [hf]; simp
  refine oth_of (nice_fs n (by rw [en]; exact n.fn) (by rw [el]; exact n.fe) (by rw [el]; exact n.fl) fun x hx => ?_) fun ⟨_, _, e⟩ => ?_
  · rw [en]
    rcases List.mem_append.mp hx with hx | hx
    · exact n.fm x (by rw [hf]; exact List.mem_append_left _ hx)
    · rw [List.mem_singleton.mp hx]
      exact ⟨(n.fm g (by rw [hf]; exact List.mem_append_right _ (List.mem_singleton.mpr rfl))).1, ho, hb, h1, h2⟩
  · have e2 : fi ++ [g] = fi ++ [(g.1, o, b)] := hf.symm.trans e
    have e3 := List.append_cancel_left e2
    simp only [List.cons.injEq, and_true] at e3
    exact hne ⟨(congrArg (·.2.1) e3).symm, (congrArg (·.2.2) e3).symm⟩
theorem oth_zzr (hl : q.rs.length ≤ 4) (hz : ("zz" : Str) ∉ q.rs) : Oth q ⟨q.rs ++ [("zz" : Str)], q.os, q.fs⟩ := by
  refine oth_of (nice_rs n ?_ ?_ ?_ (fun r hr => ?_) fun x hx => List.mem_append_left _ hx) fun ⟨e, _⟩ => ?_
  · exact List.nodup_append.mpr ⟨n.rn, by simp, fun a ha b hb e => hz (by rw [← List.mem_singleton.mp hb, ← e]; exact ha)⟩
  · rw [List.length_append]; exact Nat.le_trans n.re (Nat.le_add_right _ _)
  · rw [List.length_append]; show q.rs.length + 1 ≤ 5; omega
  · rcases List.mem_append.mp hr with hr | hr
    · exact n.rm r hr
    · exact List.mem_append_right _ hr
  · have := congrArg List.length e
    simp at this
theorem oth_zzo (hl : q.os.length ≤ 4) (hz : ("zz" : Str) ∉ q.os.map (·.1)) : Oth q ⟨q.rs, q.os ++ [(("zz" : Str), ([] : List Str))], q.fs⟩ := by
  refine oth_of (nice_os n ?_ ?_ ?_ (fun r hr => ?_) fun x hx => by rw [List.map_append]; exact List.mem_append_left _ hx) fun ⟨_, e, _⟩ => ?_
  · rw [List.map_append]
    exact List.nodup_append.mpr ⟨n.on, by simp, fun a ha b hb e => hz (by simp at hb; rw [← hb, ← e]; exact ha)⟩
  · rw [List.length_append]; exact Nat.le_trans n.oe (Nat.le_add_right _ _)
  · rw [List.length_append]; show q.os.length + 1 ≤ 5; omega
  · rcases List.mem_append.mp hr with hr | hr
    · exact n.om r hr
    · rw [List.mem_singleton.mp hr]
      exact ⟨List.mem_append_right _ (List.mem_singleton.mpr rfl), List.nodup_nil, fun r h => nomatch h⟩
  · have := congrArg List.length e
    simp at this
theorem oth_zzf {o : Str} (hl : q.fs.length ≤ 5) (hz : ("zz" : Str) ∉ q.fs.map (·.1)) (ho : o ∈ q.os.map (·.1)) : Oth q ⟨q.rs, q.os, q.fs ++ [(("zz" : Str), o, ([] : List Stp))]⟩ := by
  refine oth_of (nice_fs n ?_ ?_ ?_ fun g hg => ?_) fun ⟨_, _, e⟩ => ?_
  · rw [List.map_append]
    exact List.nodup_append.mpr ⟨n.fn, by simp, fun a ha b hb e => hz (by simp at hb; rw [← hb, ← e]; exact ha)⟩
  · rw [List.length_append]; exact Nat.le_trans n.fe (Nat.le_add_right _ _)
  · rw [List.length_append]; show q.fs.length + 1 ≤ 6; omega
  · rcases List.mem_append.mp hg with hg | hg
    · obtain ⟨a, b, c, d⟩ := n.fm g hg
      exact ⟨a, b, okB_mono (fun _ h => h) (fun x h => by rw [List.map_append]; exact List.mem_append_left _ h) c, d⟩
    · rw [List.mem_singleton.mp hg]
      exact ⟨List.mem_append_right _ (List.mem_singleton.mpr rfl), ho, by simp only [Kx.okB], by simp only [nstB]; omega, by simp only [cntB]; omega⟩
  · have := congrArg List.length e
    simp at this
/-- one owner with other rights -/
theorem oth_own {oi oj : List Own} {o : Own} {l : List Str} (hos : q.os = oi ++ o :: oj) (h1 : l.Nodup) (h2 : ∀ r ∈ l, r ∈ q.rs) (hne : l ≠ o.2) : Oth q ⟨q.rs, oi ++ (o.1, l) :: oj, q.fs⟩ := by
  have en : (oi ++ (o.1, l) :: oj).map (·.1) = q.os.map (·.1) := by rw [hos]; simp
  have el : (oi ++ (o.1, l) :: oj).length = q.os.length := by rw [hos]; simp
  refine oth_of (nice_os n (by rw [en]; exact n.on) (by rw [el]; exact n.oe) (by rw [el]; exact n.ol) (fun x hx => ?_) fun x hx => by rw [en]; exact hx) fun ⟨_, e, _⟩ => ?_
  · rcases List.mem_append.mp hx with hx | hx
    · exact n.om x (by rw [hos]; exact List.mem_append_left _ hx)
    · rcases List.mem_cons.mp hx with rfl | hx
      · exact ⟨(n.om o (by rw [hos]; exact List.mem_append_right _ (List.mem_cons_self ..))).1, h1, h2⟩
      · exact n.om x (by rw [hos]; exact List.mem_append_right _ (List.mem_cons_of_mem _ hx))
  · have e3 := List.append_cancel_left (hos.symm.trans e)
    simp only [List.cons.injEq] at e3
    exact hne (congrArg (·.2) e3.1).symm
theorem oth_revr (h : 1 < q.rs.length) : Oth q ⟨q.rs.reverse, q.os, q.fs⟩ :=
  oth_of (nice_rs n (nodup_rev n.rn) (by rw [List.length_reverse]; exact n.re) (by rw [List.length_reverse]; exact n.rl) (fun r hr => n.rm r (List.mem_reverse.mp hr)) fun x hx => List.mem_reverse.mpr hx) fun ⟨e, _⟩ => rev_ne n.rn h e.symm
theorem oth_revo (h : 1 < q.os.length) : Oth q ⟨q.rs, q.os.reverse, q.fs⟩ :=
  oth_of (nice_os n (by rw [List.map_reverse]; exact nodup_rev n.on) (by rw [List.length_reverse]; exact n.oe) (by rw [List.length_reverse]; exact n.ol) (fun o ho => n.om o (List.mem_reverse.mp ho)) fun x hx => by rw [List.map_reverse]; exact List.mem_reverse.mpr hx) fun ⟨_, e, _⟩ =>
    rev_ne n.on (by rw [List.length_map]; exact h) (by rw [← List.map_reverse]; exact congrArg (List.map _) e.symm)
theorem oth_revf (h : 1 < q.fs.length) : Oth q ⟨q.rs, q.os, q.fs.reverse⟩ :=
  oth_of (nice_fs n (by rw [List.map_reverse]; exact nodup_rev n.fn) (by rw [List.length_reverse]; exact n.fe) (by rw [List.length_reverse]; exact n.fl) (fun g hg => by
    obtain ⟨a, b, c, d⟩ := n.fm g (List.mem_reverse.mp hg)
    exact ⟨a, b, okB_mono (fun _ h => h) (fun x hx => by rw [List.map_reverse]; exact List.mem_reverse.mpr hx) c, d⟩)) fun ⟨_, _, e⟩ =>
    rev_ne n.fn (by rw [List.length_map]; exact h) (by rw [← List.map_reverse]; exact congrArg (List.map _) e.symm)
end
end Lx

set_option Elab.async false
set_option maxRecDepth 100000
set_option linter.all false
set_option maxHeartbeats 2000000
/-! KitH: tuples of whole numbers as data: told, put together, cut. -/
namespace Kx
open PySem PySem.Spec PyProof.Rows L2 Evl
def ptD (p : List Int) : PyData := .tuple (p.map PyData.int)
section
variable {K : PySem.W.Frag} {H : Hp}
theorem nopart_k {σ : L2.St} {Q : Option Int → Hp → Prop} (h : Q none H) : tNoPart σ H Q := h
theorem ints_d : ∀ p : List Int, DqA K H (p.map V.int) (p.map PyData.int)
  | [] => .nil
  | i :: p => .cons (.int i) (ints_d p)
theorem ints_back : ∀ {p : List Int} {vs : List V}, DqA K H vs (p.map PyData.int) → vs = p.map V.int
  | [], _, h => by cases h; rfl
  | i :: p, _, h => by
    cases h with
    | cons a b =>
      cases a
      rw [ints_back b]
      rfl
theorem pt_of {a : Addr} {p : List Int} (h : SqT K H a (p.map V.int)) : Dq K H (.ref a) (ptD p) := .tup h (ints_d p)
theorem pt_at {v : V} {p : List Int} (h : Dq K H v (ptD p)) : ∃ a, v = .ref a ∧ SqT K H a (p.map V.int) := by
  unfold ptD at h
  cases h with
  | tup hT hy =>
    rw [ints_back hy] at hT
    exact ⟨_, rfl, hT⟩
theorem map_int_nil {p : List Int} : p.map V.int = [] ↔ p = [] := by cases p <;> simp
/-- t + u -/
theorem cat_k {x y : V} {p r : List Int} {G : Hp} {Q : VK} (e : Ex G H) (h1 : Dq K G x (ptD p)) (h2 : Dq K G y (ptD r)) (hl : p.length + r.length ≤ 4096) (q : ∀ v G2 H2, Ext G H G2 H2 → Dq K G2 v (ptD (p ++ r)) → Q v H2) : rCatA K x y H Q := by
  obtain ⟨a, rfl, ha⟩ := pt_at h1
  obtain ⟨b, rfl, hb⟩ := pt_at h2
  refine ⟨a, b, _, _, rfl, rfl, sqt_ex (same_ex e) ha, sqt_ex (same_ex e) hb, by rw [List.length_map, List.length_map]; exact Nat.le_trans hl (by decide), fun z => ?_, fun n z => ?_, fun n m c nc => ?_⟩
  · rw [map_int_nil] at z
    subst z
    exact q _ G H (Kx.Ext.refl e) h2
  · rw [map_int_nil] at z
    subst z
    refine q _ G H (Kx.Ext.refl e) ?_
    rw [List.append_nil]
    exact h1
  · refine q _ _ _ (Kx.Ext.new e nc (Ex.new nc) upd_same) (pt_of (.inl (.inl ?_)))
    rw [upd_same, List.map_append]
/-- a list's part -/
def cutL {α : Type} (xs : List α) (lo hi : Option Int) : List α := (xs.drop (HT.sIx xs.length 0 lo)).take (HT.sIx xs.length xs.length hi - HT.sIx xs.length 0 lo)
theorem cutV_map (p : List Int) (lo hi : Option Int) : cutV (p.map V.int) lo hi = (cutL p lo hi).map V.int := by
  unfold cutV cutL
  rw [List.length_map, List.map_take, List.map_drop]
theorem cutL_whole {α : Type} {xs : List α} {lo hi : Option Int} (h : HT.sIx xs.length 0 lo = 0 ∧ HT.sIx xs.length xs.length hi = xs.length) : cutL xs lo hi = xs := by
  unfold cutL
  rw [h.1, h.2, List.drop_zero, Nat.sub_zero, List.take_length]
theorem cutL_hi {α : Type} (xs : List α) (k : Nat) : cutL xs none (some (k : Int)) = xs.take k := by
  unfold cutL
  rw [HT.sIx_none, HT.sIx_nat, List.drop_zero, Nat.sub_zero, List.take_eq_take_iff]
  omega
theorem cutL_lo {α : Type} (xs : List α) (k : Nat) : cutL xs (some (k : Int)) none = xs.drop k := by
  unfold cutL
  rw [HT.sIx_none, HT.sIx_nat]
  by_cases h : k ≤ xs.length
  · rw [Nat.min_eq_left h, List.take_of_length_le (by rw [List.length_drop]; omega)]
  · rw [Nat.min_eq_right (by omega), List.drop_of_length_le (Nat.le_refl _), List.drop_of_length_le (by omega), List.take_nil]
theorem sl_k {x : V} {p : List Int} {lo hi : Option Int} {G : Hp} {Q : VK} (e : Ex G H) (h : Dq K G x (ptD p)) (q : ∀ v G2 H2, Ext G H G2 H2 → Dq K G2 v (ptD (cutL p lo hi)) → Q v H2) : rSlA K x lo hi H Q := by
  obtain ⟨a, rfl, ha⟩ := pt_at h
  refine ⟨a, _, rfl, sqt_ex (same_ex e) ha, fun z => ?_, fun z c nc => ?_⟩
  · rw [List.length_map] at z
    have := q (.ref a) G H (Kx.Ext.refl e)
    rw [cutL_whole z] at this
    exact this h
  · refine q _ _ _ (Kx.Ext.new e nc (Ex.new nc) upd_same) (pt_of (.inl (.inl ?_)))
    rw [upd_same, cutV_map]
theorem ints_dep : ∀ l : List Int, PyData.depthAll (l.map PyData.int) ≤ 1
  | [] => by simp [PyData.depthAll]
  | i :: l => by
    have := ints_dep l
    simp only [List.map_cons, PyData.depthAll, PyData.depth]
    omega
theorem pt_dep (p : List Int) : (ptD p).depth ≤ 2 := by
  have := ints_dep p
  simp only [ptD, PyData.depth]
  omega
theorem ints_lay : ∀ l : List Int, PyData.canLayAll0 (l.map PyData.int) = true
  | [] => by simp only [List.map_nil, PyData.canLayAll0]
  | i :: l => by simp only [List.map_cons, PyData.canLayAll0, PyData.canLay0, ints_lay l, Bool.and_self]
theorem pt_lay (p : List Int) : (ptD p).canLay0 = true := by simp only [ptD, PyData.canLay0, ints_lay p]
theorem pt_shaped (p : List Int) : SeqAt.shaped (ptD p) = true := by
  unfold SeqAt.shaped
  rw [pt_lay, decide_eq_true (show (ptD p).depth ≤ 64 by have := pt_dep p; omega)]
  rfl
theorem ints_noDict : ∀ l : List Int, PyData.hasDictAll (l.map PyData.int) = false
  | [] => by simp only [List.map_nil, PyData.hasDictAll]
  | i :: l => by simp only [List.map_cons, PyData.hasDictAll, PyData.hasDict, ints_noDict l, Bool.or_self]
theorem pt_noDict (p : List Int) : (ptD p).hasDict = false := by simp only [ptD, PyData.hasDict, ints_noDict p]
theorem ints_eqv : ∀ p r : List Int, PyData.eqvAll (p.map PyData.int) (r.map PyData.int) = decide (p = r)
  | [], [] => rfl
  | [], _ :: _ => rfl
  | _ :: _, [] => rfl
  | i :: p, j :: r => by
    simp only [List.map_cons, PyData.eqvAll, PyData.eqv, ints_eqv p r]
    by_cases h : i = j
    · subst h; simp
    · simp [h]
theorem pt_eqv (p r : List Int) : PyData.eqv (ptD p) (ptD r) = decide (p = r) := by
  simp only [ptD, PyData.eqv, ints_eqv]
/-- x == y, tuples of whole numbers -/
theorem ptEq_k {x y : V} {p r : List Int} {Q : VK} (h1 : Dq K H x (ptD p)) (h2 : Dq K H y (ptD r)) (q : Q (.bl (decide (p = r))) H) : rEqD K x y H Q := by
  rw [← pt_eqv] at q
  exact ⟨_, _, dp_of h1 (pt_noDict p), dp_of h2 (pt_noDict r), pt_shaped p, pt_shaped r, q⟩
end
end Kx

set_option Elab.async false
set_option maxRecDepth 100000
set_option linter.all false
set_option maxHeartbeats 4000000
namespace Lx
open PySem PySem.Spec PyProof.Rows L2 Evl Kx
section
variable {P : Program} {w : World} {K : PySem.W.Frag} {mg : Str → Option Value} {base : Heap} {f : Addr} {fd : FuncData}
abbrev sIb : Stmt := top 13
theorem scIb : FnScope ["step", "word"] ["step"] (defScope sIb) := ⟨rfl, rfl, rfl, by decide +kernel, rfl, by decide +kernel, by decide +kernel⟩
def wordS : Stp → Str
  | .call _ => "call" | .tail _ => "tail" | .check _ => "check" | .back => "back" | .either _ _ => "either" | .loop _ => "loop" | .block _ _ => "block"
/-- the bodies of a step, each behind what a path has between the step's number and the path in that body -/
def innP : Stp → List (List Int × List Stp)
  | .either a b => [([0], a), ([1], b)]
  | .loop b => [([], b)]
  | .block _ b => [([], b)]
  | _ => []

def innD (s : Stp) : PyData := .list ((innP s).map fun x => .tuple [ptD x.1, .list (bodyD x.2)])
structure spIb (K : PySem.W.Frag) (vs : List V) (H : Hp) (Q : VK) (E : XK) : Prop where
  mk' ::
  out : ∃ G p s, vs = [.ref p] ∧ Ex G H ∧ Dq K G (.ref p) (stpD s) ∧ ∀ v G2 H2, Ext G H G2 H2 → Dq K G2 v (innD s) → Q v H2
theorem w_ne {a b : Str} (h : ¬ a = b) : ¬ decide (V.str a = V.str b) = true := fun z => h (by have := of_decide_eq_true z; injection this)
theorem ok_ib (F : Fun K "inner_bodies" "inner_bodies" sIb f fd) : FnOk P w K mg base CX0 1 f fd ["step"] (spIb K) := by
  refine F.ok scIb (fun vs H Q E h => ?_) (fun cdv A outer s H vs Q E hr h => ?_)
  · obtain ⟨_, _, _, rfl, _⟩ := h
    rfl
  · obtain ⟨G, p, s, rfl, eG, hv, q⟩ := h
    refine ⟨_, pss_cons (ps_set (i := 1) scIb.nd rfl (Or.inl rfl) (pe_ix ix_tup (pv 0) pe_int (fun _ _ => rfl)))
      (pss_cons (ps_if (pt_cmpR op_eq (pv 1) pe_str (nomark _)) (pss_one (ps_ret (pe_lst (pa_cons (pe_tup (pa_cons (pe_tup (pa_cons pe_int pa_nil)) (pa_cons (pe_ix ix_tup (pv 0) pe_int (fun _ _ => rfl)) pa_nil))) (pa_cons (pe_tup (pa_cons (pe_tup (pa_cons pe_int pa_nil)) (pa_cons (pe_ix ix_tup (pv 0) pe_int (fun _ _ => rfl)) pa_nil))) pa_nil))))) pss_nil)
      (pss_cons (ps_if (pt_cmpR op_eq (pv 1) pe_str (nomark _)) (pss_one (ps_ret (pe_lst (pa_cons (pe_tup (pa_cons (pe_tup pa_nil) (pa_cons (pe_ix ix_tup (pv 0) pe_int (fun _ _ => rfl)) pa_nil))) pa_nil)))) pss_nil)
      (pss_cons (ps_if (pt_cmpR op_eq (pv 1) pe_str (nomark _)) (pss_one (ps_ret (pe_lst (pa_cons (pe_tup (pa_cons (pe_tup pa_nil) (pa_cons (pe_ix ix_tup (pv 0) pe_int (fun _ _ => rfl)) pa_nil))) pa_nil)))) pss_nil)
      (pss_one (ps_ret (pe_lst pa_nil)))))), ?_⟩
    obtain ⟨ta, ys, ep, hT, hy⟩ := step_at hv
    cases ep
    have fin : ∀ {te : TE} {σ : L2.St}, EvD K te σ G (innD s) → te σ H Q := fun e => e H eG Q q
    have w0 : ys[0]? = some (.str (wordS s)) := by
      cases s <;> (cases hy with | cons a b => cases a; rfl)
    refine ⟨_, rfl, p, ys, 0, .str (wordS s), rfl, rfl, sqt_ex (same_ex eG) hT, atI_nat (j := 0) w0, ?_⟩
    have ix : ∀ {j : Nat} {v : V} {d : PyData} {o : Option V}, ys[j]? = some v → Dq K G v d → EvD K (tOp (rIxT K) (tVar 0) (tC (.int (j : Int)))) [some (.ref p), o] G d := fun h hd =>
      ed_ev (ev_op (ev_var rfl) ev_c (rv_ixT hT (atI_nat h))) hd
    cases s with
    | either a b =>
      cases hy with
      | cons _ hy =>
      cases hy with
      | cons h1 hy =>
      cases hy with
      | cons h2 hy =>
      refine ⟨_, rfl, rfl, _, rfl, ite2 (fun _ => ?_) (fun h => absurd rfl h)⟩
      exact fin (ed_lst (eda_cons (ed_tup (eda_cons (ed_tup (eda_cons (ed_ev ev_c (.int 0)) fun _ _ => eda_nil) (by simp [innP, ptD])) fun G1 e => eda_cons ((ix (j := 1) rfl h1).mono e) fun _ _ => eda_nil) (by simp [innP, ptD]))
        fun G1 e => eda_cons (ed_tup (eda_cons (ed_tup (eda_cons (ed_ev ev_c (.int 1)) fun _ _ => eda_nil) (by simp [innP, ptD])) fun G2 e2 => eda_cons ((ix (j := 2) rfl h2).mono (e.trans e2)) fun _ _ => eda_nil) (by simp [innP, ptD])) fun _ _ => eda_nil) (by simp [innP, ptD]))
    | loop b =>
      cases hy with
      | cons _ hy =>
      cases hy with
      | cons h1 hy =>
      refine ⟨_, rfl, rfl, _, rfl, ite2 (fun h => absurd h (w_ne (by simp only [wordS]; decide +kernel))) (fun _ => ?_)⟩
      refine ⟨_, rfl, rfl, _, rfl, ite2 (fun _ => ?_) (fun h => absurd rfl h)⟩
      exact fin (ed_lst (eda_cons (ed_tup (eda_cons (ed_tup eda_nil (by simp [innP, ptD])) fun G1 e => eda_cons ((ix (j := 1) rfl h1).mono e) fun _ _ => eda_nil) (by simp [innP, ptD])) fun _ _ => eda_nil) (by simp [innP, ptD]))
    | block m b =>
      cases hy with
      | cons _ hy =>
      cases hy with
      | cons _ hy =>
      cases hy with
      | cons h2 hy =>
      refine ⟨_, rfl, rfl, _, rfl, ite2 (fun h => absurd h (w_ne (by simp only [wordS]; decide +kernel))) (fun _ => ?_)⟩
      refine ⟨_, rfl, rfl, _, rfl, ite2 (fun h => absurd h (w_ne (by simp only [wordS]; decide +kernel))) (fun _ => ?_)⟩
      refine ⟨_, rfl, rfl, _, rfl, ite2 (fun _ => ?_) (fun h => absurd rfl h)⟩
      exact fin (ed_lst (eda_cons (ed_tup (eda_cons (ed_tup eda_nil (by simp [innP, ptD])) fun G1 e => eda_cons ((ix (j := 2) rfl h2).mono e) fun _ _ => eda_nil) (by simp [innP, ptD])) fun _ _ => eda_nil) (by simp [innP, ptD]))
    | _ =>
      refine ⟨_, rfl, rfl, _, rfl, ite2 (fun h => absurd h (w_ne (by simp only [wordS]; decide +kernel))) (fun _ => ?_)⟩
      refine ⟨_, rfl, rfl, _, rfl, ite2 (fun h => absurd h (w_ne (by simp only [wordS]; decide +kernel))) (fun _ => ?_)⟩
      refine ⟨_, rfl, rfl, _, rfl, ite2 (fun h => absurd h (w_ne (by simp only [wordS]; decide +kernel))) (fun _ => ?_)⟩
      exact fin (σ := []) (ed_lst eda_nil (by simp [innP, ptD]))
end
end Lx

set_option Elab.async false
set_option maxRecDepth 100000
set_option linter.all false
set_option maxHeartbeats 4000000
namespace Lx
open PySem PySem.Spec PyProof.Rows L2 Evl Kx
section
variable {P : Program} {w : World} {K : PySem.W.Frag} {mg : Str → Option Value} {base : Heap} {f : Addr} {fd : FuncData}
abbrev sIn : Stmt := top 14
theorem scIn : FnScope ["step", "rest", "turn", "body"] ["step", "rest"] (defScope sIn) := ⟨rfl, rfl, rfl, by decide +kernel, rfl, by decide +kernel, by decide +kernel⟩
def innQ (r : List Int) (x : List Int × List Stp) : Bool := decide (r.take x.1.length = x.1)
/-- the one of a step's bodies in which the rest of a path goes on -/
def innF (s : Stp) (r : List Int) : Option (List Int × List Stp) := (innP s).find? (innQ r)
def inxD (x : List Int × List Stp) : PyData := .tuple [ptD x.1, .list (bodyD x.2)]
structure spIn (K : PySem.W.Frag) (vs : List V) (H : Hp) (Q : VK) (E : XK) : Prop where
  mk' ::
  out : ∃ G p pr s r, vs = [.ref p, pr] ∧ Ex G H ∧ Dq K G (.ref p) (stpD s) ∧ Dq K G pr (ptD r) ∧ (innF s r = none → ∀ H2, Ex H H2 → Q .non H2) ∧ (∀ x, innF s r = some x → ∀ v G2 H2, Ext G H G2 H2 → Dq K G2 v (inxD x) → Q v H2)
theorem ib_k {p : Addr} {s : Stp} {G H : Hp} {Q : VK} {E : XK} (e : Ex G H) (h : Dq K G (.ref p) (stpD s)) (q : ∀ v G2 H2, Ext G H G2 H2 → Dq K G2 v (innD s) → Q v H2) : spIb K [.ref p] H Q E := ⟨G, p, s, rfl, e, h, q⟩
theorem inx_at {H : Hp} {v : V} {x : List Int × List Stp} (h : Dq K H v (inxD x)) : ∃ a v1 v2, v = .ref a ∧ SqT K H a [v1, v2] ∧ Dq K H v1 (ptD x.1) ∧ Dq K H v2 (.list (bodyD x.2)) := by
  unfold inxD at h
  cases h with
  | tup hT hy =>
  cases hy with
  | cons h1 hy =>
  cases hy with
  | cons h2 hy =>
  cases hy
  exact ⟨_, _, _, rfl, hT, h1, h2⟩
theorem ok_in {fI : Addr} {fdI : FuncData} (F : Fun K "inner_body" "inner_body" sIn f fd) (FI : FnOk P w K mg base CX0 1 fI fdI ["step"] (spIb K)) (mI : mg "inner_bodies" = some (.ref fI)) (kI : PySem.W.keepIn K (.ref fI) = true) (bI : Binds K fdI ["step"] [])
    (mL : mg "len" = none) : FnOk P w K mg base CX0 2 f fd ["step", "rest"] (spIn K) := by
  refine F.ok scIn (fun vs H Q E h => ?_) (fun cdv A outer s H vs Q E hr h => ?_)
  · obtain ⟨_, _, _, _, _, rfl, _⟩ := h
    rfl
  · obtain ⟨G, p, pr, st, r, rfl, eG, hv, hp, q0, q1⟩ := h
    have hu := hr.units
    refine ⟨_, pss_cons (ps_for PassesOwn.never rfl (pi_list (pe_call FI hr rfl mI kI bI .nil pass0 (pa_cons (pv 0) pa_nil))) (pg_tupK (K := K) rfl (pgs_cons (pg_name (i := 2) scIn.nd rfl (Or.inl rfl)) (pgs_cons (pg_name (i := 3) scIn.nd rfl (Or.inl rfl)) pgs_nil)))
        (pss_one (ps_if (pt_cmpR (op_eqD hu) (pe_slice sl_tupA (pv 1) po_none (po_some (pe_callB call_len_seq (by rfl) mL PySem.boot_len (pa_cons (pv 2) pa_nil)))) (pv 2) (nomark _)) (pss_one (ps_ret (pe_tup (pa_cons (pv 2) (pa_cons (pv 3) pa_nil))))) pss_nil)))
      (pss_one (ps_ret pe_non)), ?_⟩
    refine ⟨_, rfl, ib_k eG hv fun v G2 H2 x2 hd => ?_⟩
    obtain ⟨l, xs, rfl, hl, hx⟩ := dq_list hd rfl
    refine ⟨l, rfl, ⟨_, SqL.of (x2.gh _ _ hl)⟩, ?_⟩
    refine for_list (K := K) (a := l) (xs := xs) (fun i σ H' => ∃ o2 o3, σ = [some (.ref p), some pr, o2, o3] ∧ Ex H2 H' ∧ innF st r = ((innP st).drop i).find? (innQ r)) ⟨_, _, rfl, Ex.refl _, rfl⟩ (fun i σ H' _ ⟨_, _, _, x, _⟩ => SqL.of (x _ _ (x2.gh _ _ hl))) ?_ ?_
    · rintro i x σ H' hi ⟨o2, o3, rfl, ex, hf⟩
      obtain ⟨d, hdx, gx⟩ := dqa_get hx hi
      obtain ⟨z, hz, rfl⟩ : ∃ z, (innP st)[i]? = some z ∧ inxD z = d := by
        have : items (innD st) = (innP st).map inxD := rfl
        rw [this, List.getElem?_map] at hdx
        cases h : (innP st)[i]? with
        | none => rw [h] at hdx; cases hdx
        | some z => rw [h] at hdx; exact ⟨z, rfl, Option.some.inj hdx⟩
      obtain ⟨ta, v1, v2, rfl, hT, h1, h2⟩ := inx_at gx
      have xg : Ex G2 H' := x2.gh.trans ex
      refine ⟨ta, _, rfl, sqt_ex (same_ex xg) hT, rfl, _, _, rfl, _, _, rfl, rfl, ?_⟩
      obtain ⟨a1, rfl, hT1⟩ := pt_at h1
      have hH : Ex H H' := x2.hh.trans ex
      refine ⟨_, rfl, _, rfl, a1, _, rfl, .inr (sqt_ex (same_ex xg) hT1), _, rfl, sl_k (eG.trans hH) hp fun v3 G3 H3 y3 hv3 => ?_⟩
      have e3 := y3.hh
      have hv3 := hv3.mono (same_ex y3.gh)
      rw [cutL_hi, List.length_map] at hv3
      refine ⟨_, rfl, ptEq_k hv3 (h1.mono (same_ex (xg.trans e3))) ⟨_, rfl, ite2 (fun hc => ?_) (fun hc => ?_)⟩⟩
      · have hq : innQ r z = true := hc
        have hf2 : innF st r = some z := by
          rw [hf]
          rw [List.drop_eq_getElem_cons (List.getElem?_eq_some_iff.mp hz).1, (List.getElem?_eq_some_iff.mp hz).2, List.find?_cons_of_pos hq]
        refine ⟨_, rfl, _, rfl, by show 2 ≤ sizeLine; decide, fun t nt => ?_⟩
        have x3 : Ext G H G2 H3 := ⟨x2.hh.trans (ex.trans e3), x2.gg, x2.gh.trans (ex.trans e3), x2.ag⟩
        refine q1 z hf2 _ (upd G2 t (.tup [.ref a1, v2])) _ (x3.more nt (Ex.new nt) upd_same) ?_
        have eN : Ex G2 (upd G2 t (.tup [.ref a1, v2])) := Ex.new (fresh_back x3.gh nt)
        exact .tup (.inl (.inl upd_same)) (.cons (h1.mono (same_ex eN)) (.cons (h2.mono (same_ex eN)) .nil))
      · refine ⟨_, _, rfl, ex.trans e3, ?_⟩
        have hq : innQ r z = false := by
          cases h : innQ r z with
          | false => rfl
          | true => exact absurd h hc
        rw [hf, List.drop_eq_getElem_cons (List.getElem?_eq_some_iff.mp hz).1, (List.getElem?_eq_some_iff.mp hz).2, List.find?_cons_of_neg (by rw [hq]; exact Bool.false_ne_true)]
    · rintro σ H' ⟨o2, o3, rfl, ex, hf⟩
      have hl := dqa_len hx
      have hl2 : (items (innD st)).length = (innP st).length := by simp [innD, items]
      rw [hl, hl2, List.drop_of_length_le (Nat.le_refl _)] at hf
      exact q0 hf H' (x2.hh.trans ex)
end
end Lx

set_option Elab.async false
set_option maxRecDepth 100000
set_option linter.all false
set_option maxHeartbeats 4000000
namespace Lx
open PySem PySem.Spec PyProof.Rows L2 Evl Kx
section
variable {P : Program} {w : World} {K : PySem.W.Frag} {mg : Str → Option Value} {base : Heap} {f : Addr} {fd : FuncData}
abbrev sOn : Stmt := top 17
theorem scOn : FnScope ["body", "path", "step", "rest", "found", "turn", "inner"] ["body", "path"] (defScope sOn) := ⟨rfl, rfl, rfl, by decide +kernel, rfl, by decide +kernel, by decide +kernel⟩
/-- the step of a body at a path -/
def onF (b : List Stp) : List Int → Option Stp
  | [] => none
  | i :: r => if 0 ≤ i ∧ i < b.length then match b[i.toNat]? with
      | none => none
      | some s => if r = [] then some s else match innF s r with
        | none => none
        | some x => onF x.2 (r.drop x.1.length)
    else none
termination_by p => p.length
decreasing_by
  rw [List.length_drop, List.length_cons]
  omega
theorem inn_nst {s : Stp} {x : List Int × List Stp} (h : x ∈ innP s) : nstB x.2 + 1 ≤ nstS s := by
  cases s <;> simp only [innP, List.mem_cons, List.not_mem_nil, or_false] at h
  · rcases h with rfl | rfl <;> simp only [nstS] <;> omega
  · subst h
    simp only [nstS]
    omega
  · subst h
    simp only [nstS]
    omega
theorem innF_mem {s : Stp} {r : List Int} {x : List Int × List Stp} (h : innF s r = some x) : x ∈ innP s ∧ r.take x.1.length = x.1 := by
  unfold innF at h
  have h2 := List.find?_some h
  exact ⟨List.mem_of_find?_eq_some h, of_decide_eq_true h2⟩
structure spOn (K : PySem.W.Frag) (d : Nat) (vs : List V) (H : Hp) (Q : VK) (E : XK) : Prop where
  mk' ::
  out : ∃ G pb pv b p, vs = [.ref pb, pv] ∧ Ex G H ∧ Dq K G (.ref pb) (.list (bodyD b)) ∧ Dq K G pv (ptD p) ∧ nstB b ≤ d ∧ (onF b p = none → ∀ H2, Ex H H2 → Q .non H2) ∧ (∀ s, onF b p = some s → ∀ v G2 H2, Ext G H G2 H2 → Dq K G2 v (stpD s) → Q v H2)
def spOnP (K : PySem.W.Frag) : Nat → Sp
  | 0 => spNo
  | d + 1 => spOn K d
theorem in_k {p : Addr} {pr : V} {s : Stp} {r : List Int} {G H : Hp} {Q : VK} {E : XK} (e : Ex G H) (h : Dq K G (.ref p) (stpD s)) (h2 : Dq K G pr (ptD r)) (q0 : innF s r = none → ∀ H2, Ex H H2 → Q .non H2) (q1 : ∀ x, innF s r = some x → ∀ v G2 H2, Ext G H G2 H2 → Dq K G2 v (inxD x) → Q v H2) : spIn K [.ref p, pr] H Q E := ⟨G, p, pr, s, r, rfl, e, h, h2, q0, q1⟩
theorem ok_on {d : Nat} {fI : Addr} {fdI : FuncData} (F : Fun K "step_on" "step_on" sOn f fd) (FO : FnOk P w K mg base CX0 (d + 2) f fd ["body", "path"] (spOnP K d)) (mO : mg "step_on" = some (.ref f)) (kO : PySem.W.keepIn K (.ref f) = true) (bO : Binds K fd ["body", "path"] [])
    (FI : FnOk P w K mg base CX0 2 fI fdI ["step", "rest"] (spIn K)) (mI : mg "inner_body" = some (.ref fI)) (kI : PySem.W.keepIn K (.ref fI) = true) (bI : Binds K fdI ["step", "rest"] [])
    (mL : mg "len" = none) : FnOk P w K mg base CX0 (d + 3) f fd ["body", "path"] (spOn K d) := by
  refine F.ok scOn (fun vs H Q E h => ?_) (fun cdv A outer s H vs Q E hr h => ?_)
  · obtain ⟨_, _, _, _, _, rfl, _⟩ := h
    rfl
  · obtain ⟨G, pb, pv', b, p, rfl, eG, hb, hp, hn, q0, q1⟩ := h
    have hu := hr.units
    have r2 := hr.mono (j := 2) (by omega)
    refine ⟨_, pss_cons (ps_if (PW.pt (pw_or (pt_cmpR op_eq (pe_callB call_len_seq (by rfl) mL PySem.boot_len (pa_cons (pv 1) pa_nil)) pe_int (nomark _))
          (pw_or1 (pt_not (pt_chain op_le op_lt pe_int (pe_ix ix_tup (pv 1) pe_int (fun _ _ => rfl)) (pe_callB call_len_seq (by rfl) mL PySem.boot_len (pa_cons (pv 0) pa_nil))))))) (pss_one (ps_ret pe_non)) pss_nil)
      (pss_cons (ps_set (i := 2) scOn.nd rfl (Or.inl rfl) (pe_ix ix_list (pv 0) (pe_ix ix_tup (pv 1) pe_int (fun _ _ => rfl)) (fun _ _ => rfl)))
      (pss_cons (ps_if (pt_cmpR op_eq (pe_callB call_len_seq (by rfl) mL PySem.boot_len (pa_cons (pv 1) pa_nil)) pe_int (nomark _)) (pss_one (ps_ret (pv 2))) pss_nil)
      (pss_cons (ps_set (i := 3) scOn.nd rfl (Or.inl rfl) (pe_slice sl_tupA (pv 1) (po_some pe_int) po_none))
      (pss_cons (ps_set (i := 4) scOn.nd rfl (Or.inl rfl) (pe_call FI r2 rfl mI kI bI .nil pass0 (pa_cons (pv 2) (pa_cons (pv 3) pa_nil))))
      (pss_cons (ps_if (pt_cmp (pc_isN (pv 4))) (pss_one (ps_ret pe_non)) pss_nil)
      (pss_cons (ps_asg (pv 4) (pg_tupK (K := K) rfl (pgs_cons (pg_name (i := 5) scOn.nd rfl (Or.inl rfl)) (pgs_cons (pg_name (i := 6) scOn.nd rfl (Or.inl rfl)) pgs_nil))))
      (pss_one (ps_ret (pe_call FO hr rfl mO kO bO .nil pass0 (pa_cons (pv 6) (pa_cons (pe_slice sl_tupA (pv 3) (po_some (pe_callB call_len_seq (by rfl) mL PySem.boot_len (pa_cons (pv 5) pa_nil))) po_none) pa_nil))))))))))), ?_⟩
    cases hb with
    | @lst _ xs _ hl hx =>
    have hlen : xs.length = b.length := by
      have := dqa_len hx
      rw [bodyD_map, List.length_map] at this
      exact this
    obtain ⟨pa, rfl, hT⟩ := pt_at hp
    have hH := sqt_ex (same_ex eG) hT
    have len0 : ∀ {i : Int} {l : List Int} {k : Nat}, ¬ l.length = k → ¬ decide (V.int (((i :: l).map V.int).length : Nat) = V.int ((k + 1 : Nat) : Int)) = true := fun h z => h (by
      have := of_decide_eq_true z
      simp only [V.int.injEq, List.length_map, List.length_cons] at this
      omega)
    cases p with
    | nil =>
      exact ⟨_, rfl, pa, _, rfl, .inr hH, rfl, _, rfl, ite2 (fun _ => q0 (by rw [onF]) H (Ex.refl H)) (fun h => absurd rfl h)⟩
    | cons i r =>
    refine ⟨_, rfl, pa, _, rfl, .inr hH, rfl, _, rfl, ite2 (fun h => ?_) (fun _ => ?_)⟩
    · have := of_decide_eq_true h
      simp only [V.int.injEq, List.length_map, List.length_cons] at this
      omega
    have out : ¬ (0 ≤ i ∧ i < b.length) → Q .non H := fun z => q0 (by rw [onF, if_neg z]) H (Ex.refl H)
    refine ⟨_, rfl, pa, _, 0, .int i, rfl, rfl, hH, atI_nat (j := 0) rfl, _, _, rfl, rfl, _, rfl, ite2 (fun h1 => ?_) (fun h1 => ?_)⟩
    case refine_2 => exact ⟨_, rfl, iteT (out fun z => h1 (decide_eq_true z.1))⟩
    have h1 : 0 ≤ i := of_decide_eq_true h1
    refine ⟨_, rfl, pb, _, rfl, .inl (SqL.of (eG _ _ hl)), _, _, rfl, rfl, _, rfl, ?_⟩
    refine ite2 (fun h2 => ?_) (fun h2 => ?_)
    · refine out fun z => ?_
      have : decide (i < (xs.length : Int)) = true := decide_eq_true (by rw [hlen]; exact z.2)
      rw [this] at h2
      cases h2
    have h2 : i < b.length := by
      cases y : decide (i < (xs.length : Int)) with
      | true => rw [← hlen]; exact of_decide_eq_true y
      | false => exact (h2 (by rw [y]; rfl)).elim
    obtain ⟨n, rfl⟩ : ∃ n : Nat, i = n := ⟨i.toNat, by omega⟩
    have hnb : n < b.length := by omega
    have hst : b[n]? = some b[n] := List.getElem?_eq_getElem hnb
    obtain ⟨v, hv⟩ : ∃ v, xs[n]? = some v := ⟨xs[n]'(by omega), List.getElem?_eq_getElem (by omega)⟩
    obtain ⟨st, hs, hd⟩ := body_get hx hv
    have onE : onF b ((n : Int) :: r) = if r = [] then some st else match innF st r with
        | none => none
        | some x => onF x.2 (r.drop x.1.length) := by
      rw [onF, if_pos ⟨by omega, by omega⟩, Int.toNat_natCast, hs]
    obtain ⟨ta, ys, rfl, _, _⟩ := step_at hd
    have hstm : nstS st ≤ d := by
      have := nst_mem (List.mem_of_getElem? hs)
      omega
    refine ⟨_, rfl, _, rfl, pa, _, 0, .int n, rfl, rfl, hH, atI_nat (j := 0) rfl, pb, _, _, _, rfl, rfl, SqL.of (eG _ _ hl), atI_nat hv, ?_⟩
    refine ⟨_, rfl, pa, _, rfl, .inr hH, rfl, _, rfl, ite2 (fun h => ?_) (fun h => ?_)⟩
    · have hr0 : r = [] := by
        have := of_decide_eq_true h
        simp only [V.int.injEq, List.length_map, List.length_cons] at this
        exact List.eq_nil_of_length_eq_zero (by omega)
      subst hr0
      exact ⟨_, rfl, q1 st (by rw [onE, if_pos rfl]) _ G H (Kx.Ext.refl eG) hd⟩
    have hr0 : ¬ r = [] := fun z => h (by subst z; rfl)
    rw [if_neg hr0] at onE
    refine ⟨_, rfl, _, rfl, nopart_k (sl_k eG hp fun v3 G3 H3 y3 hv3 => ?_)⟩
    rw [show ((1 : Int)) = ((1 : Nat) : Int) from rfl, cutL_lo, List.drop_succ_cons, List.drop_zero] at hv3
    refine ⟨_, rfl, _, rfl, in_k y3.gh (hd.mono (same_ex y3.gg)) hv3 (fun e0 H4 e4 => ?_) (fun x e1 v4 G4 H4 y4 h4 => ?_)⟩
    · rw [e0] at onE
      exact ⟨_, rfl, _, rfl, iteT (q0 onE H4 (y3.hh.trans e4))⟩
    · rw [e1] at onE
      obtain ⟨hm, _⟩ := innF_mem e1
      have hx1 := inn_nst hm
      obtain ⟨t4, u1, u2, rfl, hT4, g1, g2⟩ := inx_at h4
      refine ⟨_, rfl, _, rfl, ite2 (fun h => nomatch (of_decide_eq_true h)) fun _ => ?_⟩
      refine ⟨_, rfl, t4, _, rfl, sqt_ex (same_ex y4.gh) hT4, rfl, _, _, rfl, _, _, rfl, rfl, ?_⟩
      obtain ⟨d', rfl⟩ : ∃ d', d = d' + 1 := ⟨d - 1, by omega⟩
      obtain ⟨a5, rfl, hT5⟩ := pt_at g1
      obtain ⟨a6, rfl⟩ : ∃ a6, u2 = .ref a6 := by cases g2; exact ⟨_, rfl⟩
      refine ⟨_, rfl, _, rfl, _, rfl, a5, _, rfl, .inr (sqt_ex (same_ex y4.gh) hT5), _, rfl, nopart_k (sl_k y4.gh (hv3.mono (same_ex y4.gg)) fun v5 G5 H5 y5 hv5 => ?_)⟩
      rw [cutL_lo, List.length_map] at hv5
      refine ⟨G5, a6, v5, x.2, _, rfl, y5.gh, g2.mono (same_ex y5.gg), hv5, by omega, fun e0 H6 e6 => ?_, fun s' es v6 G6 H6 y6 h6 => ?_⟩
      · exact q0 (onE.trans e0) H6 (y3.hh.trans (y4.hh.trans (y5.hh.trans e6)))
      · exact q1 s' (onE.trans es) v6 G6 H6 ((((y3.trans y4).trans y5).trans y6)) h6
theorem ok_ons {fI : Addr} {fdI : FuncData} (F : Fun K "step_on" "step_on" sOn f fd) (mO : mg "step_on" = some (.ref f)) (kO : PySem.W.keepIn K (.ref f) = true) (bO : Binds K fd ["body", "path"] [])
    (FI : FnOk P w K mg base CX0 2 fI fdI ["step", "rest"] (spIn K)) (mI : mg "inner_body" = some (.ref fI)) (kI : PySem.W.keepIn K (.ref fI) = true) (bI : Binds K fdI ["step", "rest"] [])
    (mL : mg "len" = none) : ∀ d : Nat, FnOk P w K mg base CX0 (d + 3) f fd ["body", "path"] (spOn K d)
  | 0 => ok_on F ⟨fun _ _ _ _ h => h.elim, fun _ _ _ _ _ _ _ _ _ _ _ _ _ h => h.elim⟩ mO kO bO FI mI kI bI mL
  | d + 1 => ok_on F (ok_ons F mO kO bO FI mI kI bI mL d) mO kO bO FI mI kI bI mL
end
end Lx

set_option Elab.async false
set_option maxRecDepth 100000
set_option linter.all false
set_option maxHeartbeats 2000000
namespace Kx
open PySem PySem.Spec PyProof.Rows L2 Evl
section
variable {K : PySem.W.Frag} {H : Hp} {v : V} {vs : List V} {d : PyData} {ds : List PyData} {as : List Addr}
theorem inv_lst (h : DqN K H v (.list ds) as) : ∃ a xs bs, v = .ref a ∧ H a = some (.lst xs) ∧ DqNA K H xs ds bs ∧ as = a :: bs := by
  cases h with
  | flat f _ => exact absurd f Bool.false_ne_true
  | lst h1 h2 => exact ⟨_, _, _, rfl, h1, h2, rfl⟩
theorem inv_tup (h : DqN K H v (.tuple ds) as) : ∃ a xs, v = .ref a ∧ H a = some (.tup xs) ∧ DqNA K H xs ds as := by
  cases h with
  | flat f _ => exact absurd f Bool.false_ne_true
  | tup h1 h2 => exact ⟨_, _, rfl, h1, h2⟩
theorem inv_cons (h : DqNA K H vs (d :: ds) as) : ∃ v r b c, vs = v :: r ∧ DqN K H v d b ∧ DqNA K H r ds c ∧ as = b ++ c := by
  cases h with
  | cons h1 h2 => exact ⟨_, _, _, _, rfl, h1, h2, rfl⟩
theorem inv_nil (h : DqNA K H vs [] as) : vs = [] ∧ as = [] := by
  cases h
  exact ⟨rfl, rfl⟩
end
end Kx

set_option Elab.async false
set_option maxRecDepth 100000
set_option linter.all false
set_option maxHeartbeats 2000000
/-! KitH2: loops over enumerate, new paths, new data put together. -/
namespace Kx
open PySem PySem.Spec PyProof.Rows L2 Evl
theorem for_enum {K : PySem.W.Frag} {a : Addr} {xs : List V} {g : TG} {tb : TS} {D : Ends} {σ : L2.St} {H : Hp} (Pv : Nat → L2.St → Hp → Prop) (h0 : Pv 0 σ H) (hl : ∀ i σ H, i ≤ xs.length → Pv i σ H → SqL K H a xs)
    (hs : ∀ i x T σ H, xs[i]? = some x → Pv i σ H → H T = none → g (.ref T) σ (upd H T (.tup [.int (i : Nat), x])) fun σ2 H2 => tb { D with nx := Pv (i + 1), ct := Pv (i + 1), bk := D.nx } σ2 H2) (hd : ∀ σ H, Pv xs.length σ H → D.nx σ H) :
    ∃ W : Nat → Nat → L2.St → Hp → Prop, (∃ m, W 0 m σ H) ∧ ∀ i m σ H, W i m σ H →
      ((Ite K a).stop i H ∧ D.nx σ H) ∨ ((Ite K a).go i H ∧ ∃ N : L2.St → Hp → Prop, (∀ σ' H', N σ' H' → ∃ m', m' < m ∧ W (i + 1) m' σ' H') ∧ ∀ x H', (Ite K a).yld i H x H' → g x σ H' fun σ2 H2 => tb { D with nx := N, ct := N, bk := D.nx } σ2 H2) := by
  refine ⟨fun i m σ H => m = xs.length - i ∧ i ≤ xs.length ∧ Pv i σ H, ⟨xs.length, by simp, Nat.zero_le _, h0⟩, ?_⟩
  rintro i m σ H ⟨rfl, hi, p⟩
  have q := hl i σ H hi p
  by_cases hlt : i < xs.length
  · refine .inr ⟨⟨xs, xs[i], q, by simp [hlt]⟩, Pv (i + 1), fun σ' H' p' => ⟨xs.length - (i + 1), by omega, rfl, hlt, p'⟩, fun x H' y => ?_⟩
    obtain ⟨T, x, rfl, nT, rfl, hx⟩ := y
    exact hs i x T σ H (hx xs q) p nT
  · have e : i = xs.length := by omega
    subst e
    exact .inl ⟨⟨xs, q, Nat.le_refl _⟩, hd σ H p⟩
section
variable {K : PySem.W.Frag} {H H0 H1 H' M M' M3 : Hp} {vs ws : List V} {ds es : List PyData}
theorem DqNA.cat {bs : List Addr} : ∀ {ds : List PyData} {vs : List V} {as : List Addr}, DqNA K H vs ds as → DqNA K H ws es bs → DqNA K H (vs ++ ws) (ds ++ es) (as ++ bs)
  | _, _, _, .nil, h => h
  | _, _, _, .cons a b, h => by
    rw [List.append_assoc]
    exact .cons a (DqNA.cat b h)
theorem FrA.cat (k : New H H' M) (h : FrA K H M vs ds) (e1 : Ex M M') (e3 : Ex M3 M') (h3 : FrA K H' M3 ws es) : FrA K H M' (vs ++ ws) (ds ++ es) := by
  obtain ⟨as, a1, a2, a3⟩ := h
  obtain ⟨bs, b1, b2, b3⟩ := h3
  refine ⟨as ++ bs, (a1.mono e1).cat (b1.mono e3), List.nodup_append.mpr ⟨a2, b2, fun x hx y hy e => ?_⟩, fun x hx => ?_⟩
  · obtain ⟨xs, q⟩ := a1.is x hx
    have := k.mh _ _ q
    rw [e, b3 y hy] at this
    cases this
  · rcases List.mem_append.mp hx with hx | hx
    · exact a3 x hx
    · exact fresh_back k.hh (b3 x hx)
theorem FrN.inv {v : V} (h : FrN K H M v (.list ds)) : ∃ a xs, v = .ref a ∧ M a = some (.lst xs) ∧ FrA K H M xs ds ∧ H a = none := by
  obtain ⟨as, a1, a2, a3⟩ := h
  obtain ⟨a, xs, bs, rfl, hL, fl, rfl⟩ := inv_lst a1
  exact ⟨a, xs, rfl, hL, ⟨bs, fl, (List.nodup_cons.mp a2).2, fun x hx => a3 x (List.mem_cons_of_mem _ hx)⟩, a3 a (List.mem_cons_self ..)⟩
theorem dqna_get : ∀ {vs : List V} {ds : List PyData} {as : List Addr} {i : Nat} {v : V}, DqNA K H vs ds as → vs[i]? = some v → ∃ d bs, ds[i]? = some d ∧ DqN K H v d bs
  | _, _, _, 0, v, .cons a b, h => by
    cases h
    exact ⟨_, _, rfl, a⟩
  | _, _, _, i + 1, v, .cons a b, h => dqna_get (i := i) b h
theorem ints_n : ∀ p : List Int, DqNA K H (p.map V.int) (p.map PyData.int) []
  | [] => .nil
  | x :: p => .cons (as := []) (.flat rfl (.int x)) (ints_n p)
theorem pt_fr {t : Addr} {p : List Int} (h : M t = some (.tup (p.map V.int))) : FrN K H M (.ref t) (ptD p) :=
  ⟨[], .tup h (ints_n p), List.nodup_nil, fun a h => nomatch h⟩
theorem pt_inv {v : V} {p : List Int} {bs : List Addr} (h : DqN K M v (ptD p) bs) : ∃ t, v = .ref t ∧ M t = some (.tup (p.map V.int)) := by
  obtain ⟨t, xs, rfl, h1, h2⟩ := inv_tup h
  rw [ints_back h2.dq] at h1
  exact ⟨t, rfl, h1⟩
/-- t + (i,): always a new tuple -/
theorem path_k {σ : L2.St} {x : V} {p : List Int} {i j : Nat} {n : Int} {Q : VK} (h2 : σ[i]? = some (some x)) (h4 : σ[j]? = some (some (.int n))) (k : New H0 H1 M) (hp : Dq K H1 x (ptD p)) (hl : p.length ≤ 4000)
    (q : ∀ t H2 M2, New H0 H2 M2 → Ex M M2 → Ex H1 H2 → M2 t = some (.tup ((p ++ [n]).map V.int)) → H1 t = none → (∀ a u, H1 a = some u → M2 a = M a) → Q (.ref t) H2) : tOp (rCatA K) (tVar i) (tTup (tCons (tVar j) tNil)) σ H1 Q := by
  refine ⟨x, h2, _, h4, by show 1 ≤ sizeLine; decide, fun b nb => ?_⟩
  obtain ⟨a, rfl, ha⟩ := pt_at hp
  have kb := k.put (o := .tup [.int n]) nb
  have e1 : Ex H1 (upd H1 b (.tup [.int n])) := Ex.new nb
  have m1 : Ex M (upd M b (.tup [.int n])) := Ex.new (k.none nb)
  refine ⟨a, b, p.map V.int, [.int n], rfl, rfl, sqt_ex (same_ex e1) ha, .inl (.inl upd_same), by
    rw [List.length_map]
    exact Nat.le_trans (Nat.add_le_add_right hl 1) (by decide), fun z => ?_, fun _ z => (nomatch z), fun _ _ c nc => ?_⟩
  · rw [map_int_nil] at z
    subst z
    exact q b _ _ kb m1 e1 upd_same nb fun a u h => upd_ne (ne_of_none h nb)
  · refine q c _ _ (kb.put nc) (m1.trans (Ex.new (kb.none nc))) (e1.trans (Ex.new nc)) ?_ (fresh_back e1 nc) fun a u h => by
      rw [upd_ne (ne_of_none h (fresh_back e1 nc)), upd_ne (ne_of_none h nb)]
    rw [upd_same, List.map_append]
    rfl
end
end Kx

set_option Elab.async false
set_option maxRecDepth 100000
set_option linter.all false
set_option maxHeartbeats 4000000
namespace Lx
open PySem PySem.Spec PyProof.Rows L2 Evl Kx
section
variable {P : Program} {w : World} {K : PySem.W.Frag} {mg : Str → Option Value} {base : Heap} {f : Addr} {fd : FuncData}
abbrev sWh : Stmt := top 4
abbrev sSpt : Stmt := top 18
theorem scWh : FnScope ["value"] ["value"] (defScope sWh) := ⟨rfl, rfl, rfl, by decide +kernel, rfl, by decide +kernel, by decide +kernel⟩
theorem scSpt : FnScope ["value", "number"] ["value"] (defScope sSpt) := ⟨rfl, rfl, rfl, by decide +kernel, rfl, by decide +kernel, by decide +kernel⟩
def isIB : PyData → Bool
  | .int _ => true
  | .bool _ => true
  | _ => false
def wholeB : PyData → Bool
  | .int _ => true
  | _ => false
theorem isi_i {H : Hp} {v : V} {d : PyData} {Q : VK} (h : Dq K H v d) (q : Q (.bl (isIB d)) H) : rIsiS K [v, .ty "int"] H Q :=
  ⟨v, _, _, _, _, rfl, .ty _, dq_tyx h, kit_ty (by cases h <;> rfl), q⟩
structure spWh (K : PySem.W.Frag) (vs : List V) (H : Hp) (Q : VK) (E : XK) : Prop where
  mk' ::
  out : ∃ v d, vs = [v] ∧ Dq K H v d ∧ Q (.bl (wholeB d)) H
theorem ok_wh (F : Fun K "is_whole" "is_whole" sWh f fd) (mI : mg "isinstance" = none) (mN : mg "int" = none) (mB : mg "bool" = none) : FnOk P w K mg base CX0 1 f fd ["value"] (spWh K) := by
  refine F.ok scWh (fun vs H Q E h => ?_) (fun cdv A outer s H vs Q E hr h => ?_)
  · obtain ⟨_, _, rfl, _⟩ := h
    rfl
  · obtain ⟨v, d, rfl, hd, q⟩ := h
    refine ⟨_, pss_one (ps_ret (pe_and (pe_callB (isi_S (K := K)) (by rfl) mI PyProof.Rows.boot_isinstance (pa_cons (pv 0) (pa_cons (pe_bltn (v := .ty "int") (by rfl) mN (by decide +kernel) rfl) pa_nil)))
      (pe_one (pe_not (pe_callB (isi_S (K := K)) (by rfl) mI PyProof.Rows.boot_isinstance (pa_cons (pv 0) (pa_cons (pe_bltn (v := .ty "bool") (by rfl) mB (by decide +kernel) rfl) pa_nil))))))), ?_⟩
    refine ⟨_, rfl, isi_i hd ?_⟩
    cases hd <;> first | exact ⟨_, rfl, q⟩ | skip
    · exact ⟨_, rfl, _, rfl, isi_b (.bl _) ⟨_, rfl, q⟩⟩
    · exact ⟨_, rfl, _, rfl, isi_b (.int _) ⟨_, rfl, q⟩⟩
def spotB : PyData → Bool
  | .tuple [.str _, .tuple l] => l.all wholeB
  | _ => false
theorem whole_ints : ∀ {l : List PyData}, l.all wholeB = true → ∃ p : List Int, l = p.map PyData.int
  | [], _ => ⟨[], rfl⟩
  | .int i :: l, h => by
    obtain ⟨p, rfl⟩ := whole_ints (l := l) (by simpa [wholeB] using h)
    exact ⟨i :: p, rfl⟩
  | .none :: _, h => by simp [wholeB] at h
  | .bool _ :: _, h => by simp [wholeB] at h
  | .str _ :: _, h => by simp [wholeB] at h
  | .list _ :: _, h => by simp [wholeB] at h
  | .tuple _ :: _, h => by simp [wholeB] at h
  | .dict _ :: _, h => by simp [wholeB] at h
theorem spot_of {d : PyData} (h : spotB d = true) : ∃ z p, d = .tuple [.str z, ptD p] := by
  unfold spotB at h
  split at h
  · obtain ⟨p, rfl⟩ := whole_ints h
    exact ⟨_, p, rfl⟩
  · cases h
/-- no endless path -/
def spotL (d : PyData) : Prop := ∀ a l, d = .tuple [a, .tuple l] → l.length ≤ 4000
structure spSpt (K : PySem.W.Frag) (vs : List V) (H : Hp) (Q : VK) (E : XK) : Prop where
  mk' ::
  out : ∃ v d, vs = [v] ∧ Dq K H v d ∧ spotL d ∧ ∀ H2, Ex H H2 → Q (.bl (spotB d)) H2
theorem ok_spt {fT fW : Addr} {fdT fdW : FuncData} (F : Fun K "is_spot" "is_spot" sSpt f fd) (FT : FnOk P w K mg base CX0 1 fT fdT ["value", "size"] (spTp K)) (mT : mg "is_tuple_of" = some (.ref fT)) (kT : PySem.W.keepIn K (.ref fT) = true) (bT : Binds K fdT ["value", "size"] [])
    (FW : FnOk P w K mg base CX0 1 fW fdW ["value"] (spWh K)) (mW : mg "is_whole" = some (.ref fW)) (kW : PySem.W.keepIn K (.ref fW) = true) (bW : Binds K fdW ["value"] [])
    (mI : mg "isinstance" = none) (mS : mg "str" = none) (mTu : mg "tuple" = none) (mA : mg "all" = none) : FnOk P w K mg base CX0 2 f fd ["value"] (spSpt K) := by
  refine F.ok scSpt (fun vs H Q E h => ?_) (fun cdv A outer s H vs Q E hr h => ?_)
  · obtain ⟨_, _, rfl, _⟩ := h
    rfl
  · obtain ⟨v, d, rfl, hd, hsl, q⟩ := h
    refine ⟨_, pss_cons (ps_if (PW.pt (pw_or (pt_not (pt_val (pe_call FT hr rfl mT kT bT .nil pass0 (pa_cons (pv 0) (pa_cons pe_int pa_nil)))))
        (pw_or (pt_not (pt_val (pe_callB (isi_S (K := K)) (by rfl) mI PyProof.Rows.boot_isinstance (pa_cons (pe_ix ix_tup (pv 0) pe_int (fun _ _ => rfl)) (pa_cons (pe_bltn (v := .ty "str") (by rfl) mS (by decide +kernel) rfl) pa_nil)))))
        (pw_or1 (pt_not (pt_val (pe_callB (isi_S (K := K)) (by rfl) mI PyProof.Rows.boot_isinstance (pa_cons (pe_ix ix_tup (pv 0) pe_int (fun _ _ => rfl)) (pa_cons (pe_bltn (v := .ty "tuple") (by rfl) mTu (by decide +kernel) rfl) pa_nil)))))))))
        (pss_one (ps_ret pe_bl)) pss_nil)
      (pss_one (ps_ret (pe_callB (cr_all rfl) (by rfl) mA (by decide +kernel) (pa_cons (pe_lc (own := [("number", 1)]) (g := gName 1) rfl scSpt.nd (pi_tup (pe_ix ix_tup (pv 0) pe_int (fun _ _ => rfl)))
            (blkOk_by (own := [("number", 1)]) (N := ["value", "number"]) (sc := defScope sSpt) (by decide +kernel))
            (fun _ _ _ _ _ => pg_name (i := 1) scSpt.nd rfl (Or.inl rfl)) (fun _ _ _ _ _ => pts_nil)
            (fun _ _ _ _ _ => pe_call FW (hr.mono (by decide)) rfl mW kW bW .nil pass0 (pa_cons (pv 1) pa_nil))) pa_nil)))), ?_⟩
    refine ⟨_, rfl, tp_k (n := 2) hd ⟨_, rfl, ite2 (fun h2 => ?_) (fun h2 => ?_)⟩⟩
    · have h2 : tupN 2 d = false := by simpa using h2
      have : spotB d = false := by
        cases e : spotB d with
        | false => rfl
        | true =>
          obtain ⟨z, p, rfl⟩ := spot_of e
          cases h2
      rw [this] at q
      exact q H (Ex.refl H)
    have h2 : tupN 2 d = true := by simpa using h2
    obtain ⟨a, b, rfl⟩ : ∃ a b, d = .tuple [a, b] := by
      match d, h2 with
      | .tuple [a, b], _ => exact ⟨a, b, rfl⟩
      | .tuple [], h => cases h
      | .tuple [_], h => cases h
      | .tuple (_ :: _ :: _ :: _), h => simp [tupN] at h
    cases hd with
    | @tup ad xs _ hT hx =>
    cases hx with
    | @cons v0 _ _ _ g0 hx =>
    cases hx with
    | @cons v1 _ _ _ g1 hx =>
    cases hx
    refine ⟨_, rfl, ad, _, 0, v0, rfl, rfl, hT, atI_nat (j := 0) rfl, isi_s g0 ⟨_, rfl, ite2 (fun hs => ?_) (fun hs => ?_)⟩⟩
    · have hs : isStrD a = false := by simpa using hs
      have : spotB (.tuple [a, b]) = false := by
        cases e : spotB (.tuple [a, b]) with
        | false => rfl
        | true =>
          obtain ⟨z, p, e2⟩ := spot_of e
          cases e2
          cases hs
      rw [this] at q
      exact q H (Ex.refl H)
    have hs : isStrD a = true := by simpa using hs
    obtain ⟨z, rfl⟩ : ∃ z, a = .str z := by cases a <;> first | exact ⟨_, rfl⟩ | cases hs
    refine ⟨_, rfl, ad, _, 1, v1, rfl, rfl, hT, atI_nat (j := 1) rfl, isi_t g1 ⟨_, rfl, ite2 (fun ht => ?_) (fun ht => ?_)⟩⟩
    · have ht : isTupD b = false := by simpa using ht
      have : spotB (.tuple [.str z, b]) = false := by
        cases e : spotB (.tuple [.str z, b]) with
        | false => rfl
        | true =>
          obtain ⟨z, p, e2⟩ := spot_of e
          cases e2
          cases ht
      rw [this] at q
      exact q H (Ex.refl H)
    have ht : isTupD b = true := by simpa using ht
    obtain ⟨l, rfl⟩ : ∃ l, b = .tuple l := by cases b <;> first | exact ⟨_, rfl⟩ | cases ht
    have hl4 := hsl _ _ rfl
    cases g1 with
    | @tup al ys _ hTl hy =>
    have hl := dqa_len hy
    refine ⟨_, rfl, ad, _, 1, _, rfl, rfl, hT, atI_nat (j := 1) rfl, al, rfl, ⟨_, hTl⟩, fun D nD => ?_⟩
    refine lc_tup (K := K) (a := al) (xs := ys) (fun i H' => Ex H H' ∧ H' D = some (.lst (((l.take i).map wholeB).map V.bl))) ?_ (fun i H' _ ⟨x, _⟩ => sqt_ex (same_ex x) hTl) ?_ ?_
    · exact ⟨Ex.new nD, upd_same⟩
    · rintro i x H' hi ⟨ex, hD⟩
      obtain ⟨dx, hdx, gx⟩ := dqa_get hy hi
      refine ⟨rfl, _, rfl, x, dx, rfl, gx.mono (same_ex ex), _, hD, ?_, ?_, ?_⟩
      · rw [List.length_map, List.length_map, List.length_take]
        have e3z : (5000 : Nat) < sizeLine := by decide
        omega
      · intro b o hb
        rw [upd_ne (ne_of_none hb nD)]
        exact ex _ _ hb
      · rw [upd_same, List.take_succ, hdx, List.map_append, List.map_append]
        rfl
    · rintro H' ⟨ex, hD⟩
      rw [hl, List.take_of_length_le (Nat.le_refl _)] at hD
      refine ⟨D, _, rfl, SqL.of hD, ?_⟩
      have := q H' ex
      rw [List.all_map]
      exact this
end
end Lx

set_option Elab.async false
set_option maxRecDepth 100000
set_option linter.all false
set_option maxHeartbeats 4000000
namespace Lx
open PySem PySem.Spec PyProof.Rows L2 Evl Kx
section
variable {P : Program} {w : World} {K : PySem.W.Frag} {mg : Str → Option Value} {base : Heap} {f : Addr} {fd : FuncData}
abbrev sKs : Stmt := top 44
theorem scKs : FnScope ["program", "value", "wanted", "path", "name", "_", "body"] ["program", "value"] (defScope sKs) := ⟨rfl, rfl, rfl, by decide +kernel, rfl, by decide +kernel, by decide +kernel⟩
def placeF (fs : List Fn) (z : Str) (p : List Int) : Option Stp := (fs.find? fun g => decide (g.1 = z)).bind fun g => onF g.2.2 p
def intD : PyData → Int
  | .int i => i
  | _ => 0
/-- the step that a program keeps at what is a place, or nothing -/
def stepOf (fs : List Fn) : PyData → Option Stp
  | .tuple [.str z, .tuple l] => if l.all wholeB = true then placeF fs z (l.map intD) else none
  | _ => none
theorem whole_all : ∀ p : List Int, (p.map PyData.int).all wholeB = true
  | [] => rfl
  | i :: p => by simp only [List.map_cons, List.all_cons, wholeB, whole_all p, Bool.and_self]
theorem map_intD : ∀ p : List Int, (p.map PyData.int).map intD = p
  | [] => rfl
  | i :: p => by simp only [List.map_cons, intD, map_intD p]
theorem stepOf_spot (fs : List Fn) (z : Str) (p : List Int) : stepOf fs (.tuple [.str z, ptD p]) = placeF fs z p := by
  unfold ptD
  simp only [stepOf, whole_all, if_true, map_intD]
theorem stepOf_no {fs : List Fn} {d : PyData} (h : spotB d = false) : stepOf fs d = none := by
  unfold stepOf
  split
  · simp only [spotB] at h
    rw [h]
    rfl
  · rfl
structure spKs (K : PySem.W.Frag) (C : Addr) (n : Nat) (vs : List V) (H : Hp) (Q : VK) (E : XK) : Prop where
  mk' ::
  out : ∃ pp q v d, vs = [.ref pp, v] ∧ ProgAt K C H pp q ∧ (∀ g ∈ q.fs, nstB g.2.2 ≤ n) ∧ Dq K H v d ∧ spotL d ∧ (stepOf q.fs d = none → ∀ H2, Ex H H2 → Q .non H2) ∧ (∀ s, stepOf q.fs d = some s → ∀ v2 G2 H2, Ext H H G2 H2 → Dq K G2 v2 (stpD s) → Q v2 H2)
theorem ok_ks {C : Addr} {n : Nat} {fS fO : Addr} {fdS fdO : FuncData} (F : Fun K "kept_step" "kept_step" sKs f fd) (T : PTxt K mg C)
    (FS : FnOk P w K mg base CX0 2 fS fdS ["value"] (spSpt K)) (mS : mg "is_spot" = some (.ref fS)) (kS : PySem.W.keepIn K (.ref fS) = true) (bS : Binds K fdS ["value"] [])
    (FO : FnOk P w K mg base CX0 (n + 3) fO fdO ["body", "path"] (spOn K n)) (mO : mg "step_on" = some (.ref fO)) (kO : PySem.W.keepIn K (.ref fO) = true) (bO : Binds K fdO ["body", "path"] []) :
    FnOk P w K mg base CX0 (n + 4) f fd ["program", "value"] (spKs K C n) := by
  refine F.ok scKs (fun vs H Q E h => ?_) (fun cdv A outer s H vs Q E hr h => ?_)
  · obtain ⟨_, _, _, _, rfl, _⟩ := h
    rfl
  · obtain ⟨pp, q, v, d, rfl, ⟨dx, a1, a2, a3, h0, h1, h2, h3⟩, hn, hd, hsl, q0, q1⟩ := h
    have hu := hr.units
    have r2 := hr.mono (j := 2) (by omega)
    refine ⟨_, pss_cons (ps_if (pt_not (pt_val (pe_call FS r2 rfl mS kS bS .nil pass0 (pa_cons (pv 1) pa_nil)))) (pss_one (ps_ret pe_non)) pss_nil)
      (pss_cons (ps_asg (pv 1) (pg_tupK (K := K) rfl (pgs_cons (pg_name (i := 2) scKs.nd rfl (Or.inl rfl)) (pgs_cons (pg_name (i := 3) scKs.nd rfl (Or.inl rfl)) pgs_nil))))
      (pss_cons (ps_for PassesOwn.never rfl (pi_list (pe_fld (pv 0) rfl)) (pg_tupK (K := K) rfl (pgs_cons (pg_name (i := 4) scKs.nd rfl (Or.inl rfl)) (pgs_cons (pg_name (i := 5) scKs.nd rfl (Or.inl rfl)) (pgs_cons (pg_name (i := 6) scKs.nd rfl (Or.inl rfl)) pgs_nil))))
        (pss_one (ps_if (pt_cmpR op_eq (pv 4) (pv 2) (nomark _)) (pss_one (ps_ret (pe_call FO hr rfl mO kO bO .nil pass0 (pa_cons (pv 6) (pa_cons (pv 3) pa_nil))))) pss_nil)))
      (pss_one (ps_ret pe_non)))), ?_⟩
    refine ⟨_, rfl, ⟨v, d, rfl, hd, hsl, fun H1 e1 => ⟨_, rfl, ite2 (fun hs => ?_) (fun hs => ?_)⟩⟩⟩
    · have hs : spotB d = false := by simpa using hs
      exact q0 (stepOf_no hs) H1 e1
    have hs : spotB d = true := by simpa using hs
    obtain ⟨z, p, rfl⟩ := spot_of hs
    rw [stepOf_spot] at q0 q1
    cases hd with
    | @tup ad xs _ hT hx =>
    cases hx with
    | @cons v0 _ _ _ g0 hx =>
    cases g0
    cases hx with
    | @cons v1 _ _ _ g1 hx =>
    cases hx
    refine ⟨_, rfl, ad, _, rfl, sqt_ex (same_ex e1) hT, rfl, _, _, rfl, _, _, rfl, rfl, ?_⟩
    cases h3 with
    | @lst _ ys _ hl hy =>
    refine ⟨_, rfl, pp, C, dx, _, _, rfl, e1 _ _ h0, T.cl, T.nF, lk_f _ _ _, a3, rfl, ⟨_, SqL.of (e1 _ _ hl)⟩, ?_⟩
    refine for_list (K := K) (a := a3) (xs := ys) (fun i σ H' => ∃ o4 o5 o6, σ = [some (.ref pp), some (.ref ad), some (.str z), some v1, o4, o5, o6] ∧ Ex H H' ∧ placeF q.fs z p = placeF (q.fs.drop i) z p) ⟨_, _, _, rfl, e1, rfl⟩ (fun i σ H' _ ⟨_, _, _, _, x, _⟩ => SqL.of (x _ _ hl)) ?_ ?_
    · rintro i x σ H' hi ⟨o4, o5, o6, rfl, ex, hf⟩
      obtain ⟨g, ta, pl, hg, rfl, hTg, hb⟩ := fn_at hy hi
      refine ⟨ta, _, rfl, sqt_ex (same_ex ex) hTg, rfl, _, _, rfl, _, _, rfl, _, _, rfl, rfl, ?_⟩
      have hdr : q.fs.drop i = g :: q.fs.drop (i + 1) := by
        rw [List.drop_eq_getElem_cons (List.getElem?_eq_some_iff.mp hg).1, (List.getElem?_eq_some_iff.mp hg).2]
      refine ⟨_, rfl, _, rfl, rfl, _, rfl, ite2 (fun hc => ?_) (fun hc => ?_)⟩
      · have hz : g.1 = z := by
          have := of_decide_eq_true hc
          injection this
        have hf2 : placeF q.fs z p = onF g.2.2 p := by
          rw [hf, hdr]
          unfold placeF
          rw [List.find?_cons_of_pos (p := fun g : Fn => decide (g.1 = z)) (by simpa using hz)]
          rfl
        rw [hf2] at q0 q1
        refine ⟨_, rfl, _, rfl, H, pl, v1, g.2.2, p, rfl, ex, hb, g1, hn g (List.mem_of_getElem? hg), fun e0 H2 e2 => q0 e0 H2 (ex.trans e2), fun s es v2 G2 H2 x2 h2 => q1 s es v2 G2 H2 ⟨ex.trans x2.hh, x2.gg, x2.gh, fun a o h => x2.ag a o (ex _ _ h)⟩ h2⟩
      · have hz : ¬ g.1 = z := fun e => hc (decide_eq_true (by rw [e]))
        refine ⟨_, _, _, rfl, ex, ?_⟩
        rw [hf, hdr]
        unfold placeF
        rw [List.find?_cons_of_neg (p := fun g : Fn => decide (g.1 = z)) (by simpa using hz)]
    · rintro σ H' ⟨o4, o5, o6, rfl, ex, hf⟩
      have hl2 := dqa_len hy
      rw [List.length_map] at hl2
      rw [hl2, List.drop_of_length_le (Nat.le_refl _)] at hf
      exact q0 hf H' ex
end
end Lx

set_option Elab.async false
set_option maxRecDepth 100000
set_option linter.all false
set_option maxHeartbeats 2000000
/-! KitS2: any data in a tuple of texts. -/
namespace Kx
open PySem PySem.Spec PyProof.Rows L2 Evl SeqAt AutoSeq1 MeetsSeq
def rInTT (K : PySem.W.Frag) (neg : Bool) : R2 := fun x y H Q => ∃ (d : PyData) (ws : List Str) (p : Addr), Dq K H x d ∧ y = .ref p ∧ SqT K H p (ws.map V.str) ∧ Q (.bl (cond neg (!ws.any (eqS d)) (ws.any (eqS d)))) H
theorem op_notInTT {X : Cx} (hu : X.A.units + 1 < cLine) : OpR X (compareOp .NotIn) (rInTT X.K true) := by
  intro pins s σ H x y v u Q I rx ry h
  obtain ⟨d, ws, p, hd, rfl, hs, q⟩ := h
  cases ry
  obtain ⟨as, hr⟩ := Dq.rd I hd rx
  obtain ⟨its, rv, hl, _⟩ := I.tuple hs
  refine notIn_tupleAt (strV d) hl (fun z hz => ?_) ⟨.bl _, H, I, rfl, ?_⟩
  · obtain ⟨w, t, rfl⟩ := strs_mem rv z (by simpa using hz)
    exact rd_Seq w t hu hr
  · rw [List.any_toArray, strs_any rv]
    simpa using q
end Kx

set_option Elab.async false
set_option maxRecDepth 100000
set_option linter.all false
set_option maxHeartbeats 4000000
namespace Lx
open PySem PySem.Spec PyProof.Rows L2 Evl Kx
section
variable {P : Program} {w : World} {K : PySem.W.Frag} {mg : Str → Option Value} {base : Heap} {f : Addr} {fd : FuncData}
abbrev sNp : Stmt := top 43
theorem scNp : FnScope ["value"] ["value"] (defScope sNp) := ⟨rfl, rfl, rfl, by decide +kernel, rfl, by decide +kernel, by decide +kernel⟩
/-- need_program: nothing for a program, else refused with the very thing -/
structure spNp (K : PySem.W.Frag) (C CP : Addr) (vs : List V) (H : Hp) (Q : VK) (E : XK) : Prop where
  mk' ::
  out : ∃ v, vs = [v] ∧ ((∃ p q, v = .ref p ∧ ProgAt K C H p q ∧ Q .non H) ∨ (∃ d, Dq K H v d ∧ Refuse H E CP v))
theorem ok_np {C CP fI : Addr} {fdI : FuncData} (F : Fun K "need_program" "need_program" sNp f fd) (TP : PTxt K mg C) (I : PIsi K C) (T : XCls P w K mg "InvalidProgram" "value" CP fI fdI) (mI : mg "isinstance" = none) :
    FnOk P w K mg base (L2.CX P w) 3 f fd ["value"] (spNp K C CP) := by
  refine F.okX scNp (fun vs H Q E h => ?_) (fun cdv A outer s H vs Q E hr h => ?_)
  · obtain ⟨_, rfl, _⟩ := h
    rfl
  · obtain ⟨v, rfl, k⟩ := h
    refine ⟨_, pss_one (ps_if (pt_not (pt_val (pe_callB (isi_S (K := K)) (by rfl) mI PyProof.Rows.boot_isinstance (pa_cons (pv 0) (pa_cons (pe_cls (by rfl) TP.mgC) pa_nil)))))
      (pss_one (ps_raiseX rfl rfl (takes_of rfl rfl rfl rfl) T hr (by rfl) (pv 0) (fun σ H Q Q' k ⟨v, h1, h2⟩ => ⟨v, h1, k _ _ h2⟩))) pss_nil), ?_⟩
    rcases k with ⟨p, q, rfl, hp, k⟩ | ⟨d, hd, k⟩
    · exact ⟨_, rfl, isi_p TP I hp ⟨_, rfl, iteF k⟩⟩
    · refine ⟨_, rfl, isi_d I hd ⟨_, rfl, ?_⟩⟩
      exact ite2 (fun _ => ⟨_, rfl, fun a ha => ha, k H (Ex.refl H)⟩) (fun h => (h rfl).elim)
end
end Lx

set_option Elab.async false
namespace Lx
open PySem PySem.Spec PyProof.Rows L2 Evl Kx
def plcD (x : Str × List Int) : PyData := .tuple [.str x.1, ptD x.2]
end Lx

set_option Elab.async false
set_option maxRecDepth 100000
set_option linter.all false
set_option maxHeartbeats 2000000
/-! KitJ: sorted(xs), xs tuples of whole numbers of any lengths. -/
namespace Kx
open PySem PySem.Spec PyProof.Rows L2 Evl
theorem dataLe_pts {β : Type} (x : β → List Int) : PySem.W.dataLe false (fun b => ptD (x b)) = fun p q => decide (x p ≤ x q) := by
  funext p q
  show (!PySem.W.dataLt (.tuple ((x q).map .int)) (.tuple ((x p).map .int))) = _
  rw [PySem.W.dataLt_tuple]
  show (!PySem.W.rowLt ((x q).map .int) ((x p).map .int)) = _
  rw [PySem.W.dataLt_ints]
  by_cases h : x q < x p
  · have h' : ¬ x p ≤ x q := fun r => List.not_lt.mpr r h
    simp [h, h']
  · have h' : x p ≤ x q := List.not_lt.mp h
    simp [h, h']
abbrev PtA := List Int × Addr
def ptLe (a b : PtA) : Bool := decide (a.1 ≤ b.1)
def ptV (b : PtA) : V := .ref b.2
def rSortPt (K : PySem.W.Frag) : List V → Hp → VK → Prop := fun vs H Q => ∃ (a : Addr) (bs : List PtA), vs = [V.ref a] ∧ SqL K H a (bs.map ptV) ∧ (∀ b ∈ bs, SqT K H b.2 (b.1.map V.int)) ∧ (∀ b ∈ bs, b.1 ≠ []) ∧
  ∀ p, H p = none → Q (.ref p) (upd H p (.lst ((bs.mergeSort ptLe).map ptV)))
theorem each_of {R : Value → PtA → Prop} : ∀ {bs : List PtA} {us : List Value}, Vals (bs.map ptV) us → (∀ b ∈ bs, R (.ref b.2) b) → PySem.W.EachIs R us bs
  | [], _, h, _ => by
    cases h
    exact .nil
  | b :: bs, _, h, k => by
    cases h with
    | cons h1 h2 =>
      cases h1
      exact .cons (k b (List.mem_cons_self ..)) (each_of h2 fun x hx => k x (List.mem_cons_of_mem _ hx))
theorem each_vals : ∀ {bs : List PtA} {us : List Value}, PySem.W.EachIs (fun v b => v = Value.ref b.2) us bs → Vals (bs.map ptV) us
  | _, _, .nil => .nil
  | _, _, .cons h1 h2 => by
    subst h1
    exact .cons rfl (each_vals h2)
theorem cr_sortPt {X : Cx} (hu : X.A.units + 64 < cLine) : CallR X (.builtin "sorted") (rSortPt X.K) := by
  intro pins s σ H vs us Q I r h
  obtain ⟨a, bs, rfl, hs, hx, hne, q⟩ := h
  obtain ⟨its, rv, hl, hz⟩ := I.list hs
  rw [Vals.ref1 r]
  rw [List.length_map] at hz
  refine PySem.W.sorted_data (vs := its) (bs := bs) (R := fun v b => v = Value.ref b.2) (enc := fun b : PtA => ptD b.1) hl.isList (each_of rv fun _ _ => rfl) (each_of rv fun b hb => ?_) (PySem.W.AllAlike.of fun b b' => ?_) (.inl fun d hd => ?_) hz (fun b hb => ?_) fun out h1 h2 => ?_
  · exact Dq.rd I (pt_of (hx b hb)) rfl
  · show PySem.W.alike (.tuple (b.1.map .int)) (.tuple (b'.1.map .int)) = true
    simp only [PySem.W.alike, PySem.W.alike_ints]
  · obtain ⟨b, hb, rfl⟩ := List.mem_map.mp hd
    cases e : b.1 with
    | nil => exact absurd e (hne b hb)
    | cons i l => exact ⟨.int i, l.map .int, by rw [ptD]; rfl⟩
  · have := pt_dep b.1
    omega
  · rw [dataLe_pts] at h2
    obtain ⟨ep, he'⟩ := PyProof.Rows.sortedAll_at s.heap its out.toArray
    have hlen : ((bs.mergeSort ptLe).map ptV).length ≤ sizeLine := by
      rw [List.length_map, List.length_mergeSort]
      exact hz
    exact ⟨.ref _, upd H (s.heap.objs.size + 1) (.lst ((bs.mergeSort ptLe).map ptV)), I.laid (t' := s.toks) (fun _ _ => PyProof.Rows.sortedAll_old) (Nat.le_succ _) ⟨hlen, out, ep, each_vals h2, he'⟩, rfl, q _ (I.hok.fresh (Nat.le_succ _))⟩
end Kx

set_option Elab.async false
set_option maxRecDepth 100000
set_option linter.all false
set_option maxHeartbeats 2000000
/-! KitJ2: dict(xs), xs pairs whose keys are tuples of whole numbers, all different. -/
namespace Kx
open PySem PySem.Spec PyProof.Rows L2 Evl
structure PRow where
  ra : Addr
  p : List Int
  pa : Addr
  v : V
def ikey (p : List Int) : List L2.Key := p.map Sum.inl
theorem ikey_kV : ∀ p : List Int, (ikey p).map kV = p.map V.int
  | [] => rfl
  | i :: p => by
    have := ikey_kV p
    unfold ikey at this ⊢
    simp only [List.map_cons, this, kV]
theorem ikey_inj {p r : List Int} (h : ikey p = ikey r) : p = r := by
  have := congrArg (List.map kV) h
  rw [ikey_kV, ikey_kV] at this
  have h2 := congrArg (List.map fun v : V => match v with | .int i => i | _ => 0) this
  simpa [List.map_map, Function.comp_def] using h2
def PRow.ok (K : PySem.W.Frag) (H : Hp) (r : PRow) : Prop := SqT K H r.ra [.ref r.pa, r.v] ∧ H r.pa = some (.tup (r.p.map V.int))
def rDictPt (K : PySem.W.Frag) : List V → Hp → VK → Prop := fun vs H Q => ∃ (a : Addr) (rs : List PRow), vs = [.ref a] ∧ SqL K H a (rs.map fun r => V.ref r.ra) ∧ (∀ r ∈ rs, r.ok K H) ∧ (rs.map (·.p)).Nodup ∧
  ∀ q, H q = none → Q (.ref q) (upd H q (.dT (rs.map fun r => (ikey r.p, r.v))))
section
variable {X : Cx} {pins : List (Addr × Obj)} {σ : L2.St} {H : Hp} {s : Shared}
def RowIs (s : Shared) (r : PRow) (q : List L2.Key × Addr × Value) : Prop := q.1 = ikey r.p ∧ q.2.1 = r.pa ∧ RelV r.v q.2.2 ∧ IsTup s.heap r.ra #[.ref r.pa, q.2.2]
theorem rows_of (I : Inv X pins σ H s) : ∀ {rs : List PRow}, (∀ r ∈ rs, r.ok X.K H) → ∃ ps : List (List L2.Key × Addr × Value), Paired (RowIs s) rs ps
  | [], _ => ⟨[], .nil⟩
  | r :: rs, h => by
    obtain ⟨ps, hp⟩ := rows_of I fun x hx => h x (List.mem_cons_of_mem _ hx)
    obtain ⟨h1, h2⟩ := h r (List.mem_cons_self ..)
    obtain ⟨its, rv, ht, _⟩ := I.tuple h1
    obtain ⟨u, y, ei, ru, ry⟩ := vals2 rv
    subst ei
    cases ru
    exact ⟨(ikey r.p, r.pa, y) :: ps, .cons ⟨rfl, rfl, ry, ht⟩ hp⟩
theorem paired_get {α β : Type} {F : α → β → Prop} : ∀ {l1 : List α} {l2 : List β} {j : Nat} {b : β}, Paired F l1 l2 → l2[j]? = some b → ∃ a, l1[j]? = some a ∧ F a b
  | _, _, 0, b, .cons h t, e => by
    cases e
    exact ⟨_, rfl, h⟩
  | _, _, j + 1, b, .cons h t, e => paired_get (j := j) t e
theorem paired_len {α β : Type} {F : α → β → Prop} : ∀ {l1 : List α} {l2 : List β}, Paired F l1 l2 → l1.length = l2.length
  | _, _, .nil => rfl
  | _, _, .cons _ t => by rw [List.length_cons, List.length_cons, paired_len t]
theorem stored_new {κ : Type} [DecidableEq κ] : ∀ {ps acc : List (κ × Addr × Value)}, ((acc ++ ps).map (·.1)).Nodup → storedAllH acc ps = acc ++ ps
  | [], acc, _ => by simp [storedAllH]
  | p :: ps, acc, h => by
    have hn : atKey acc p.1 = none := atKey_none_of_get fun j q e => by
      rw [List.map_append, List.map_cons] at h
      have h3 := (List.nodup_append.mp h).2.2
      exact h3 p.1 (List.mem_map.mpr ⟨_, List.mem_of_getElem? e, rfl⟩) p.1 (List.mem_cons_self ..) rfl
    show storedAllH (storedH acc p.1 p.2.1 p.2.2) ps = _
    rw [storedH_new hn, stored_new]
    · simp
    · simpa using h
theorem paired_map {rs : List PRow} {ps : List (List L2.Key × Addr × Value)} (h : Paired (RowIs s) rs ps) (H2 : Hp) (k : ∀ r ∈ rs, H2 r.pa = some (.tup (r.p.map V.int))) :
    Paired (fun (p : List L2.Key × V) (q : List L2.Key × Addr × Value) => p.1 = q.1 ∧ H2 q.2.1 = some (.tup (p.1.map kV)) ∧ RelV p.2 q.2.2) (rs.map fun r => (ikey r.p, r.v)) ps := by
  induction h with
  | nil => exact .nil
  | @cons r q rs ps h1 h2 ih =>
    obtain ⟨e1, e2, e3, _⟩ := h1
    refine .cons ⟨e1.symm, ?_, e3⟩ (ih fun x hx => k x (List.mem_cons_of_mem _ hx))
    rw [e2, ikey_kV]
    exact k r (List.mem_cons_self ..)
theorem paired_keys {rs : List PRow} {ps : List (List L2.Key × Addr × Value)} (h : Paired (RowIs s) rs ps) : ps.map (·.1) = (rs.map (·.p)).map ikey := by
  induction h with
  | nil => rfl
  | cons h1 _ ih => rw [List.map_cons, List.map_cons, List.map_cons, ih, h1.1]
theorem refs_rows : ∀ {rs : List PRow} {us : List Value}, Vals (rs.map fun r => V.ref r.ra) us → us = rs.map fun r => Value.ref r.ra
  | [], _, h => by cases h; rfl
  | r :: rs, _, h => by
    cases h with
    | cons h1 h2 =>
      cases h1
      rw [refs_rows h2]
      rfl
theorem call_dictPt (hcalm : X.calm = true) (hu : X.A.units + 64 < cLine) : CallR X (.type "dict") (rDictPt X.K) := by
  intro pins s σ H xs us Q I r q
  obtain ⟨a, rs, rfl, hq, hr, hn, q⟩ := q
  obtain ⟨u, rfl, rx⟩ := vals1 r
  cases rx
  obtain ⟨its, rv, hl, hz⟩ := I.list hq
  have ei := refs_rows rv
  subst ei
  rw [List.length_map] at hz
  obtain ⟨ps, hps⟩ := rows_of I hr
  have hlen := paired_len hps
  have keyn : (ps.map (·.1)).Nodup := by
    rw [paired_keys hps]
    exact List.pairwise_map.mpr (hn.imp fun h e => h (ikey_inj e))
  have row : ∀ {x : List L2.Key × Addr × Value}, x ∈ ps → ∃ r ∈ rs, RowIs s r x := fun {x} hx => by
    obtain ⟨j, hj⟩ := List.getElem?_of_mem hx
    obtain ⟨r, h1, h2⟩ := paired_get hps hj
    exact ⟨r, List.mem_of_getElem? h1, h2⟩
  refine call_dict_pairsH (knd := tupleKind (mixKind X.prog X.w)) (ps := ps) (PairArg.list a (rs.map fun r => Value.ref r.ra).toArray (fun j => (rs[j]?.map (·.ra)).getD 0) (ps.map fun q => (Value.ref q.2.1, q.2.2))) (I.ok.hd hcalm)
    (show X.A.units + 1 + 1 < cLine by omega) ⟨?_, ?_, fun j k v e => ?_⟩ ⟨by simp, fun j k v e => ?_⟩ (fun h' hk x hx => ?_) (by rw [List.length_map, ← hlen]; exact hz) fun h' tk hd' k => ?_
  · obtain ⟨o, n, ho, hc, hd, hdat⟩ := hl
    exact ⟨o, n, ho, hc, hd, hdat⟩
  · simp [hlen]
  · rw [List.getElem?_map] at e
    obtain ⟨x, hx, ex⟩ := Option.map_eq_some_iff.mp e
    cases ex
    obtain ⟨r, h1, h2⟩ := paired_get hps hx
    refine ⟨by simp [h1], .inl ?_⟩
    show s.heap.IsTuple ((rs[j]?.map (·.ra)).getD 0) _
    rw [h1]
    have := h2.2.2.2
    rw [← h2.2.1] at this
    exact this
  · have e : (ps.map fun q => (Value.ref q.2.1, q.2.2))[j]? = some (k, v) := e
    rw [List.getElem?_map] at e
    obtain ⟨x, hx, ex⟩ := Option.map_eq_some_iff.mp e
    cases ex
    exact ⟨x.1, x.2.1, hx, rfl⟩
  · obtain ⟨r, hrm, e1, e2, _, _⟩ := row hx
    obtain ⟨_, its2, rv2, o, ho, hc, n, hd⟩ := I.hok r.pa _ (hr r hrm).2
    rw [← ikey_kV] at rv2
    refine ⟨o, its2.toArray, n, ?_, hc, hd, ?_⟩
    · rw [e2]
      exact hk _ _ (Nat.ne_of_lt (Heap.lt_size ho)) (fun z => nomatch z) ho
    · rw [e1]
      simpa using items_are rv2
  · have hm : (s.heap.objs.size == sysModules) = false := beq_eq_false_iff_ne.mpr (Nat.ne_of_gt I.big)
    have hst : storedAllH [] ps = ps := by
      rw [stored_new (by simpa using keyn), List.nil_append]
    rw [hst] at hd'
    obtain ⟨o, es, ep, ho, hx, hdat, hes, _, hnd⟩ := hd'
    have hnew : ∀ r ∈ rs, (upd H s.heap.objs.size (.dT (rs.map fun r => (ikey r.p, r.v)))) r.pa = some (.tup (r.p.map V.int)) := fun r hrm => by
      have h2 := (hr r hrm).2
      rw [upd_ne (ne_of_none h2 (I.hok.fresh (Nat.le_refl _)))]
      exact h2
    exact ⟨.ref s.heap.objs.size, upd H s.heap.objs.size (.dT (rs.map fun r => (ikey r.p, r.v))), I.laid (t' := tk) (fun b u e => k b u (fun z => nomatch z) e) (Nat.le_refl _) ⟨by rw [List.length_map]; exact hz, hm, ps, paired_map hps _ hnew, o, es, ep, ho, hx, hdat, hes, hnd⟩, rfl, q _ (I.hok.fresh (Nat.le_refl _))⟩
end
end Kx

set_option Elab.async false
set_option maxRecDepth 100000
set_option linter.all false
set_option maxHeartbeats 4000000
namespace Lx
open PySem PySem.Spec PyProof.Rows L2 Evl Kx
section
variable {P : Program} {w : World} {K : PySem.W.Frag} {mg : Str → Option Value} {base : Heap} {f : Addr} {fd : FuncData}
abbrev sBp : Stmt := top 79
theorem scBp : FnScope ["rows", "known_here", "path", "step"] ["rows"] (defScope sBp) := ⟨rfl, rfl, rfl, by decide +kernel, rfl, by decide +kernel, by decide +kernel⟩
def rLe (a b : PRow) : Bool := decide (a.p ≤ b.p)
structure spBp (K : PySem.W.Frag) (vs : List V) (H : Hp) (Q : VK) (E : XK) : Prop where
  mk' ::
  out : ∃ (R : Addr) (rs : List PRow), vs = [.ref R] ∧ H R = some (.lst (rs.map fun r => V.ref r.ra)) ∧ (∀ r ∈ rs, r.ok K H) ∧ (rs.map (·.p)).Nodup ∧ (∀ r ∈ rs, r.p ≠ []) ∧ rs.length ≤ 4096 ∧
    ∀ l H2 M (ts : List Addr), New H H2 M → M l = some (.lst (ts.map V.ref)) → ts.length = rs.length → (∀ (i : Nat) t, ts[i]? = some t → ∃ r, (rs.mergeSort rLe)[i]? = some r ∧ M t = some (.tup [.ref r.pa, r.v])) → Q (.ref l) H2
theorem valV_rows {rs : List PRow} {r : PRow} (hn : (rs.map (·.p)).Nodup) (h : r ∈ rs) : valV (rs.map fun r => (ikey r.p, r.v)) (ikey r.p) = some r.v := by
  induction rs with
  | nil => cases h
  | cons a rs ih =>
    rw [List.map_cons] at hn
    obtain ⟨h1, h2⟩ := List.nodup_cons.mp hn
    rw [List.map_cons]
    rcases List.mem_cons.mp h with rfl | h
    · exact valV_pos rfl
    · have hne : ¬ ikey a.p = ikey r.p := fun e => h1 (by rw [ikey_inj e]; exact List.mem_map.mpr ⟨r, h, rfl⟩)
      rw [valV_neg hne]
      exact ih h2 h
theorem sort_rows (rs : List PRow) : ((rs.map fun r => (r.p, r.pa)).mergeSort ptLe).map ptV = (rs.mergeSort rLe).map fun r => V.ref r.pa := by
  rw [← List.map_mergeSort (r := rLe) (s := ptLe) (f := fun r : PRow => (r.p, r.pa)) (fun a _ b _ => rfl), List.map_map]
  rfl
theorem ok_bp (F : Fun K "_law_by_path" "_law_by_path" sBp f fd) (mD : mg "dict" = none) (mS : mg "sorted" = none) : FnOk P w K mg base CX0 1 f fd ["rows"] (spBp K) := by
  refine F.ok scBp (fun vs H Q E h => ?_) (fun cdv A outer s H vs Q E hr h => ?_)
  · obtain ⟨_, _, rfl, _⟩ := h
    rfl
  · obtain ⟨R, rs, rfl, hR, hok, hnd, hne, hlen, fin⟩ := h
    have hu := hr.units
    have hu1 : (A.deeper (envOfC "_law_by_path" (defScope sBp) s.heap.objs.size f cdv)).units + 1 < cLine := Nat.lt_of_le_of_lt (Nat.add_le_add_left (by decide : 1 ≤ 64) _) hr.units
    refine ⟨_, pss_cons (ps_set (i := 1) scBp.nd rfl (Or.inr rfl) (pe_callTy (call_dictPt rfl hu) (by rfl) mD (by decide +kernel) (pa_cons (pv 0) pa_nil)))
      (pss_one (ps_ret (pe_lc (own := [("path", 2)]) (g := gName 2) rfl scBp.nd
            (pi_list (pe_callB (cr_sortPt hu) (by rfl) mS (by decide +kernel) (pa_cons (pe_lc (own := [("path", 2), ("step", 3)]) (g := gTup K 2 (gCons (gName 2) (gCons (gName 3) gNil))) rfl scBp.nd (pi_list (pv 0))
              (blkOk_by (own := [("path", 2), ("step", 3)]) (N := ["rows", "known_here", "path", "step"]) (sc := defScope sBp) (by decide +kernel))
              (fun _ _ _ _ _ => pg_tupK rfl (pgs_cons (pg_name (i := 2) scBp.nd rfl (Or.inl rfl)) (pgs_cons (pg_name (i := 3) scBp.nd rfl (Or.inl rfl)) pgs_nil))) (fun _ _ _ _ _ => pts_nil)
              (fun _ _ _ _ _ => pv 2)) pa_nil)))
            (blkOk_by (own := [("path", 2)]) (N := ["rows", "known_here", "path", "step"]) (sc := defScope sBp) (by decide +kernel))
            (fun _ _ _ _ _ => pg_name (i := 2) scBp.nd rfl (Or.inl rfl)) (fun _ _ _ _ _ => pts_nil)
            (fun _ _ _ _ _ => pe_tup (pa_cons (pv 2) (pa_cons (pe_dget hu1 (pv 1) (pv 2) (fun _ _ => rfl)) pa_nil)))))), ?_⟩
    refine ⟨_, rfl, R, rs, rfl, SqL.of hR, hok, hnd, fun dq ndq => ?_⟩
    have e1 := Ex.new (o := HO.dT (rs.map fun r => (ikey r.p, r.v))) ndq
    have hdq : (upd H dq (.dT (rs.map fun r => (ikey r.p, r.v)))) dq = some (.dT (rs.map fun r => (ikey r.p, r.v))) := upd_same
    generalize upd H dq (.dT (rs.map fun r => (ikey r.p, r.v))) = H1 at e1 hdq ⊢
    refine ⟨_, rfl, R, rfl, ⟨_, SqL.of (e1 _ _ hR)⟩, fun D1 nD1 => ?_⟩
    refine lc_list (K := K) (a := R) (xs := rs.map fun r => V.ref r.ra) (fun i H' => Ex H1 H' ∧ H' D1 = some (.lst ((rs.take i).map fun r => V.ref r.pa))) ⟨Ex.new nD1, upd_same⟩ (fun i H' _ ⟨x, _⟩ => SqL.of (x _ _ (e1 _ _ hR))) ?_ ?_
    · rintro i x H' hi ⟨ex, hD⟩
      rw [List.getElem?_map] at hi
      obtain ⟨r, hr', rfl⟩ := Option.map_eq_some_iff.mp hi
      have hrk := hok r (List.mem_of_getElem? hr')
      refine ⟨r.ra, _, rfl, sqt_ex (same_ex (e1.trans ex)) hrk.1, rfl, _, _, rfl, _, _, rfl, rfl, rfl, _, rfl, _, hD, ?_, ?_, ?_⟩
      · rw [List.length_map, List.length_take]
        exact Nat.lt_of_le_of_lt (show min i rs.length ≤ 4096 by omega) (by decide)
      · intro a u h
        rw [upd_ne (ne_of_none h nD1)]
        exact ex _ _ h
      · rw [upd_same, List.take_succ, hr', List.map_append]
        rfl
    · rintro H2 ⟨ex, hD⟩
      rw [List.length_map, List.take_of_length_le (Nat.le_refl _)] at hD
      have eH2 := e1.trans ex
      refine ⟨D1, rs.map fun r => (r.p, r.pa), rfl, SqL.of (by rw [List.map_map]; exact hD), fun b hb => ?_, fun b hb => ?_, fun S nS => ?_⟩
      · obtain ⟨r, hrm, rfl⟩ := List.mem_map.mp hb
        exact .inl (.inl (eH2 _ _ (hok r hrm).2))
      · obtain ⟨r, hrm, rfl⟩ := List.mem_map.mp hb
        exact hne r hrm
      rw [sort_rows]
      have eS := Ex.new (o := HO.lst ((rs.mergeSort rLe).map fun r => V.ref r.pa)) nS
      have hS : (upd H2 S (.lst ((rs.mergeSort rLe).map fun r => V.ref r.pa))) S = some (.lst ((rs.mergeSort rLe).map fun r => V.ref r.pa)) := upd_same
      generalize upd H2 S (.lst ((rs.mergeSort rLe).map fun r => V.ref r.pa)) = H3 at eS hS ⊢
      have e3 := eH2.trans eS
      have hdq3 := eS _ _ (ex _ _ hdq)
      refine ⟨S, rfl, ⟨_, SqL.of hS⟩, fun D2 nD2 => ?_⟩
      refine lc_list (K := K) (a := S) (xs := (rs.mergeSort rLe).map fun r => V.ref r.pa) (fun i H' => ∃ (M : Hp) (ts : List Addr), New H H' M ∧ Ex H3 H' ∧ H' D2 = some (.lst (ts.map V.ref)) ∧ M D2 = none ∧ ts.length = i ∧ ∀ (j : Nat) t, ts[j]? = some t → ∃ r, (rs.mergeSort rLe)[j]? = some r ∧ M t = some (.tup [.ref r.pa, r.v]))
        ⟨emp, [], (New.refl.more e3).own nD2, Ex.new nD2, upd_same, rfl, rfl, fun j t h => by simp at h⟩ (fun i H' _ ⟨_, _, _, x, _⟩ => SqL.of (x _ _ hS)) ?_ ?_
      · rintro i x H' hi ⟨M, ts, k, ex3, hD2, mD2, htl, hts⟩
        have hi2 := hi
        rw [List.getElem?_map] at hi
        obtain ⟨r, hr', rfl⟩ := Option.map_eq_some_iff.mp hi
        have hrm : r ∈ rs := List.mem_mergeSort.mp (List.mem_of_getElem? hr')
        refine ⟨rfl, _, rfl, _, rfl, _, rfl, dq, r.v, rfl, .inr ⟨_, ikey r.p, r.pa, .inl (ex3 _ _ hdq3), rfl, ?_, (valV_rows hnd hrm).symm⟩, by show 2 ≤ sizeLine; decide, fun tp ntp => ?_⟩
        · rw [ikey_kV]
          exact (e3.trans ex3) _ _ (hok r hrm).2
        have ft : D2 ≠ tp := ne_of_none hD2 ntp
        have mt : M tp = none := k.none ntp
        have hil := (List.getElem?_eq_some_iff.mp hr').1
        rw [List.length_mergeSort] at hil
        refine ⟨_, by rw [upd_ne ft]; exact hD2, ?_, upd M tp (.tup [.ref r.pa, r.v]), ts ++ [tp], (k.put ntp).wr (fresh_back e3 nD2) (by rw [upd_ne ft]; exact mD2), ?_, ?_, by rw [upd_ne ft]; exact mD2, by rw [List.length_append, htl]; rfl, ?_⟩
        · rw [List.length_map, htl]
          exact Nat.lt_of_le_of_lt (show i ≤ 4096 by omega) (by decide)
        · intro a u h
          rw [upd_ne (ne_of_none h nD2), upd_ne (ne_of_none (ex3 _ _ h) ntp)]
          exact ex3 _ _ h
        · rw [upd_same, List.map_append]
          rfl
        · intro j t hj
          by_cases hji : j < ts.length
          · rw [List.getElem?_append_left hji] at hj
            obtain ⟨r', h1, h2⟩ := hts j t hj
            refine ⟨r', h1, ?_⟩
            rw [upd_ne (fun z => by rw [z, mt] at h2; cases h2)]
            exact h2
          · rw [List.getElem?_append_right (by omega)] at hj
            have hj0 : j - ts.length = 0 := by
              cases hh : j - ts.length with
              | zero => rfl
              | succ n => rw [hh] at hj; simp at hj
            rw [hj0] at hj
            cases hj
            have : j = i := by omega
            subst this
            exact ⟨r, hr', upd_same⟩
      · rintro H' ⟨M, ts, k, ex3, hD2, mD2, htl, hts⟩
        rw [List.length_map, List.length_mergeSort] at htl
        refine fin D2 H' _ ts (k.frz (fresh_back e3 nD2) hD2) upd_same htl fun j t hj => ?_
        obtain ⟨r, h1, h2⟩ := hts j t hj
        refine ⟨r, h1, ?_⟩
        rw [upd_ne (fun z => by rw [z, mD2] at h2; cases h2)]
        exact h2
end
end Lx

set_option Elab.async false
set_option maxRecDepth 100000
set_option linter.all false
set_option maxHeartbeats 4000000
namespace Lx
open PySem PySem.Spec PyProof.Rows L2 Evl Kx
mutual
/-- all steps in the bodies of a step, with their paths, in order -/
def allS : Stp → List Int → List (List Int × Stp)
  | .either a b, p => allB a 0 (p ++ [0]) ++ allB b 0 (p ++ [1])
  | .loop b, p => allB b 0 p
  | .block _ b, p => allB b 0 p
  | .call _, _ => []
  | .tail _, _ => []
  | .check _, _ => []
  | .back, _ => []
def allB : List Stp → Nat → List Int → List (List Int × Stp)
  | [], _, _ => []
  | s :: r, i, p => (p ++ [(i : Int)], s) :: (allS s (p ++ [(i : Int)]) ++ allB r (i + 1) p)
end
theorem allS_inn (s : Stp) (p : List Int) : allS s p = (innP s).flatMap fun x => allB x.2 0 (p ++ x.1) := by
  cases s <;> simp [allS, innP]
mutual
theorem allS_pre (p : List Int) : ∀ (s : Stp) (r : List Int), allS s (p ++ r) = (allS s r).map fun x => (p ++ x.1, x.2)
  | .either a b, r => by simp only [allS, List.append_assoc, allB_pre p a, allB_pre p b, List.map_append]
  | .loop b, r => by simp only [allS, allB_pre p b]
  | .block _ b, r => by simp only [allS, allB_pre p b]
  | .call _, _ => by simp [allS]
  | .tail _, _ => by simp [allS]
  | .check _, _ => by simp [allS]
  | .back, _ => by simp [allS]
theorem allB_pre (p : List Int) : ∀ (b : List Stp) (i : Nat) (r : List Int), allB b i (p ++ r) = (allB b i r).map fun x => (p ++ x.1, x.2)
  | [], _, _ => by simp [allB]
  | s :: b, i, r => by simp only [allB, List.append_assoc, allS_pre p s, allB_pre p b, List.map_cons, List.map_append]
end
theorem allB_at (b : List Stp) (i : Nat) (p : List Int) : allB b i p = (allB b i []).map fun x => (p ++ x.1, x.2) := by
  have := allB_pre p b i []
  rwa [List.append_nil] at this
theorem allS_at (s : Stp) (p : List Int) : allS s p = (allS s []).map fun x => (p ++ x.1, x.2) := by
  have := allS_pre p s []
  rwa [List.append_nil] at this
mutual
theorem allS_form : ∀ (s : Stp) (x : List Int × Stp), x ∈ allS s [] → ∃ (j : Nat) (t : List Int), x.1 = (j : Int) :: t
  | .either a b, x, h => by
    simp only [allS, List.nil_append, List.mem_append] at h
    rcases h with h | h
    · rw [allB_at] at h
      obtain ⟨y, _, rfl⟩ := List.mem_map.mp h
      exact ⟨0, y.1, rfl⟩
    · rw [allB_at] at h
      obtain ⟨y, _, rfl⟩ := List.mem_map.mp h
      exact ⟨1, y.1, rfl⟩
  | .loop b, x, h => by
    simp only [allS] at h
    obtain ⟨j, t, _, h⟩ := allB_form b 0 x h
    exact ⟨j, t, h⟩
  | .block _ b, x, h => by
    simp only [allS] at h
    obtain ⟨j, t, _, h⟩ := allB_form b 0 x h
    exact ⟨j, t, h⟩
  | .call _, _, h => by simp [allS] at h
  | .tail _, _, h => by simp [allS] at h
  | .check _, _, h => by simp [allS] at h
  | .back, _, h => by simp [allS] at h
theorem allB_form : ∀ (b : List Stp) (i : Nat) (x : List Int × Stp), x ∈ allB b i [] → ∃ (j : Nat) (t : List Int), i ≤ j ∧ x.1 = (j : Int) :: t
  | [], _, _, h => by simp [allB] at h
  | s :: r, i, x, h => by
    simp only [allB, List.nil_append, List.mem_cons, List.mem_append] at h
    rcases h with rfl | h | h
    · exact ⟨i, [], Nat.le_refl _, rfl⟩
    · rw [allS_at] at h
      obtain ⟨y, _, rfl⟩ := List.mem_map.mp h
      exact ⟨i, y.1, Nat.le_refl _, rfl⟩
    · obtain ⟨j, t, h1, h2⟩ := allB_form r (i + 1) x h
      exact ⟨j, t, by omega, h2⟩
end
theorem lt_app : ∀ {p x y : List Int}, x < y → p ++ x < p ++ y
  | [], _, _, h => h
  | a :: p, _, _, h => List.cons_lt_cons_iff.mpr (.inr ⟨rfl, lt_app h⟩)
theorem lt_ext {p t : List Int} (h : t ≠ []) : p < p ++ t := by
  have : p ++ [] < p ++ t := lt_app (by
    cases t with
    | nil => exact absurd rfl h
    | cons a t => exact List.nil_lt_cons ..)
  rwa [List.append_nil] at this
theorem lt_head {a b : Int} {t u : List Int} (h : a < b) : a :: t < b :: u := List.cons_lt_cons_iff.mpr (.inl h)
theorem pre_sorted {l : List (List Int × Stp)} {p : List Int} (h : (l.map (·.1)).Pairwise (· < ·)) : ((l.map fun x => (p ++ x.1, x.2)).map (·.1)).Pairwise (· < ·) := by
  rw [List.map_map, List.pairwise_map]
  rw [List.pairwise_map] at h
  exact h.imp fun h => lt_app h
mutual
theorem allS_sorted : ∀ s : Stp, ((allS s []).map (·.1)).Pairwise (· < ·)
  | .either a b => by
    have h1 := allB_sorted a 0
    have h2 := allB_sorted b 0
    simp only [allS, List.nil_append, List.map_append]
    rw [allB_at a, allB_at b]
    refine List.pairwise_append.mpr ⟨pre_sorted h1, pre_sorted h2, fun x hx y hy => ?_⟩
    obtain ⟨x', hx1, rfl⟩ := List.mem_map.mp hx
    obtain ⟨y', hy1, rfl⟩ := List.mem_map.mp hy
    obtain ⟨x2, _, rfl⟩ := List.mem_map.mp hx1
    obtain ⟨y2, _, rfl⟩ := List.mem_map.mp hy1
    exact lt_head (by decide)
  | .loop b => by simp only [allS]; exact allB_sorted b 0
  | .block _ b => by simp only [allS]; exact allB_sorted b 0
  | .call _ => by simp [allS]
  | .tail _ => by simp [allS]
  | .check _ => by simp [allS]
  | .back => by simp [allS]
theorem allB_sorted : ∀ (b : List Stp) (i : Nat), ((allB b i []).map (·.1)).Pairwise (· < ·)
  | [], _ => by simp [allB]
  | s :: r, i => by
    have h1 := allS_sorted s
    have h2 := allB_sorted r (i + 1)
    simp only [allB, List.nil_append, List.map_cons, List.map_append]
    rw [allS_at s]
    refine List.pairwise_cons.mpr ⟨fun y hy => ?_, List.pairwise_append.mpr ⟨pre_sorted h1, h2, fun x hx y hy => ?_⟩⟩
    · rcases List.mem_append.mp hy with hy0 | hy0
      · obtain ⟨y', hy1, rfl⟩ := List.mem_map.mp hy0
        obtain ⟨y2, hy2, rfl⟩ := List.mem_map.mp hy1
        obtain ⟨j, t, e⟩ := allS_form s y2 hy2
        exact lt_ext (p := [(i : Int)]) (by rw [e]; simp)
      · obtain ⟨y', hy1, rfl⟩ := List.mem_map.mp hy0
        obtain ⟨j, t, hj, e⟩ := allB_form r (i + 1) y' hy1
        rw [e]
        exact lt_head (by omega)
    · obtain ⟨x', hx1, rfl⟩ := List.mem_map.mp hx
      obtain ⟨x2, _, rfl⟩ := List.mem_map.mp hx1
      obtain ⟨y', hy1, rfl⟩ := List.mem_map.mp hy
      obtain ⟨j, t, hj, e⟩ := allB_form r (i + 1) y' hy1
      rw [e]
      exact lt_head (by omega)
end
theorem allB_nodup (b : List Stp) : ((allB b 0 []).map (·.1)).Nodup := (allB_sorted b 0).imp fun h e => by
  rw [e] at h
  exact List.lt_irrefl _ h
theorem mem_allB {b : List Stp} {q : List Int} {s : Stp} : ∀ {i : Nat}, (q, s) ∈ allB b i [] ↔ ∃ (j : Nat) (st : Stp), b[j]? = some st ∧ ((q = [((i + j : Nat) : Int)] ∧ s = st) ∨ ∃ t, q = ((i + j : Nat) : Int) :: t ∧ (t, s) ∈ allS st []) := by
  induction b with
  | nil => intro i; simp [allB]
  | cons a b ih =>
    intro i
    simp only [allB, List.nil_append, List.mem_cons, List.mem_append, ih (i := i + 1)]
    constructor
    · rintro (h | h | ⟨j, st, h1, h2⟩)
      · cases h
        exact ⟨0, _, rfl, .inl ⟨rfl, rfl⟩⟩
      · rw [allS_at] at h
        obtain ⟨y, hy, e⟩ := List.mem_map.mp h
        cases e
        exact ⟨0, a, rfl, .inr ⟨y.1, rfl, hy⟩⟩
      · refine ⟨j + 1, st, h1, ?_⟩
        rw [show i + (j + 1) = i + 1 + j by omega]
        exact h2
    · rintro ⟨j, st, h1, h2⟩
      cases j with
      | zero =>
        cases h1
        rcases h2 with ⟨rfl, rfl⟩ | ⟨t, rfl, ht⟩
        · exact .inl rfl
        · refine .inr (.inl ?_)
          rw [allS_at]
          exact List.mem_map.mpr ⟨_, ht, rfl⟩
      | succ j =>
        refine .inr (.inr ⟨j, st, h1, ?_⟩)
        rw [show i + 1 + j = i + (j + 1) by omega]
        exact h2
theorem innF_of {st : Stp} {x : List Int × List Stp} {t : List Int} (h : x ∈ innP st) : innF st (x.1 ++ t) = some x := by
  cases st <;> simp only [innP, List.mem_cons, List.not_mem_nil, or_false] at h
  · rcases h with rfl | rfl <;> simp [innF, innP, innQ, List.find?]
  · subst h; simp [innF, innP, innQ, List.find?]
  · subst h; simp [innF, innP, innQ, List.find?]
theorem mem_allS {st : Stp} {t : List Int} {s : Stp} : (t, s) ∈ allS st [] ↔ ∃ x ∈ innP st, ∃ u, t = x.1 ++ u ∧ (u, s) ∈ allB x.2 0 [] := by
  rw [allS_inn]
  constructor
  · intro h
    obtain ⟨x, hx, h⟩ := List.mem_flatMap.mp h
    rw [List.nil_append, allB_at] at h
    obtain ⟨y, hy, e⟩ := List.mem_map.mp h
    cases e
    exact ⟨x, hx, y.1, rfl, hy⟩
  · rintro ⟨x, hx, u, rfl, hu⟩
    refine List.mem_flatMap.mpr ⟨x, hx, ?_⟩
    rw [List.nil_append, allB_at]
    exact List.mem_map.mpr ⟨_, hu, rfl⟩
theorem onF_allN : ∀ (n : Nat) (q : List Int) (b : List Stp) (s : Stp), q.length ≤ n → (onF b q = some s ↔ (q, s) ∈ allB b 0 [])
  | _, [], b, s, _ => by
    rw [onF]
    constructor
    · intro h; cases h
    · intro h
      obtain ⟨j, t, _, e⟩ := allB_form b 0 _ h
      cases e
  | 0, _ :: _, _, _, h => by simp at h
  | n + 1, i :: r, b, s, hq => by
    rw [List.length_cons] at hq
    rw [mem_allB]
    constructor
    · intro h
      rw [onF] at h
      split at h
      · rename_i hi
        split at h
        · cases h
        · rename_i st hst
          have hin : ((0 + i.toNat : Nat) : Int) = i := by omega
          refine ⟨i.toNat, st, hst, ?_⟩
          rw [hin]
          split at h
          · rename_i hr
            subst hr
            cases h
            exact .inl ⟨rfl, rfl⟩
          · split at h
            · cases h
            · rename_i x hx
              obtain ⟨hm, htk⟩ := innF_mem hx
              refine .inr ⟨r, rfl, mem_allS.mpr ⟨x, hm, r.drop x.1.length, ?_, (onF_allN n (r.drop x.1.length) x.2 s (by rw [List.length_drop]; omega)).mp h⟩⟩
              rw [← htk, List.length_take]
              by_cases hl : x.1.length ≤ r.length
              · rw [Nat.min_eq_left hl, List.take_append_drop]
              · have := congrArg List.length htk
                rw [List.length_take] at this
                omega
      · cases h
    · rintro ⟨j, st, hj, h⟩
      have hjl := (List.getElem?_eq_some_iff.mp hj).1
      rcases h with ⟨e, rfl⟩ | ⟨t, e, ht⟩
      · cases e
        rw [onF, if_pos ⟨by omega, by omega⟩]
        have : ((0 + j : Nat) : Int).toNat = j := by omega
        rw [this, hj]
        rfl
      · cases e
        obtain ⟨x, hx, u, rfl, hu⟩ := mem_allS.mp ht
        obtain ⟨k, v, _, e⟩ := allB_form x.2 0 _ hu
        have hu0 : u ≠ [] := by
          intro z
          rw [z] at e
          cases e
        have hne : ¬ x.1 ++ u = [] := by simp [hu0]
        rw [onF, if_pos ⟨by omega, by omega⟩]
        have : ((0 + j : Nat) : Int).toNat = j := by omega
        rw [this, hj]
        simp only [if_neg hne, innF_of hx, List.drop_left]
        exact (onF_allN n u x.2 s (by rw [List.length_append] at hq; omega)).mpr hu
theorem onF_all (q : List Int) (b : List Stp) (s : Stp) : onF b q = some s ↔ (q, s) ∈ allB b 0 [] := onF_allN q.length q b s (Nat.le_refl _)
end Lx

set_option Elab.async false
set_option maxRecDepth 100000
set_option linter.all false
set_option maxHeartbeats 2000000
/-! KitK: a list beside an empty one. -/
namespace Kx
open PySem PySem.Spec PyProof.Rows L2 Evl SeqAt AutoSeq1 MeetsSeq
/-- xs != [] -/
def rNeE (K : PySem.W.Frag) : R2 := fun x y H Q => ∃ (a b : Addr) (xs : List V), x = .ref a ∧ y = .ref b ∧ SqL K H a xs ∧ SqL K H b [] ∧ Q (.bl (!xs.isEmpty)) H
theorem op_neE {X : Cx} (hu : X.A.units + 64 < cLine) : OpR X (compareOp .NotEq) (rNeE X.K) := by
  intro pins s σ H x y v u Q I rx ry h
  obtain ⟨a, b, xs, rfl, rfl, hx, hy, q⟩ := h
  cases rx
  cases ry
  obtain ⟨its, rv, hl, _⟩ := I.list hx
  obtain ⟨its2, rv2, hl2, _⟩ := I.list hy
  cases rv2
  have hu1 : X.A.units < cLine := by omega
  cases rv with
  | nil => exact RcNeAt.lists (e := fun _ => true) hl.isList hl2.isList rfl hu1 (fun j h1 _ => absurd h1 (Nat.not_lt_zero _)) X.prog X.w X.xe _ ⟨.bl _, H, I, rfl, q⟩
  | cons r rr => exact RcNeAt.lists_lengths hl.isList hl2.isList rfl hu1 X.prog X.w X.xe _ ⟨.bl _, H, I, rfl, q⟩
end Kx

set_option Elab.async false
set_option maxRecDepth 100000
set_option linter.all false
set_option maxHeartbeats 4000000
namespace Lx
open PySem PySem.Spec PyProof.Rows L2 Evl Kx
mutual
theorem allS_len : ∀ (s : Stp) (p : List Int), (allS s p).length + 1 = cntS s
  | .either a b, p => by
    simp only [allS, cntS, List.length_append, allB_len a, allB_len b]
    omega
  | .loop b, p => by
    simp only [allS, cntS, allB_len b]
    omega
  | .block _ b, p => by
    simp only [allS, cntS, allB_len b]
    omega
  | .call _, _ => by simp [allS, cntS]
  | .tail _, _ => by simp [allS, cntS]
  | .check _, _ => by simp [allS, cntS]
  | .back, _ => by simp [allS, cntS]
theorem allB_len : ∀ (b : List Stp) (i : Nat) (p : List Int), (allB b i p).length = cntB b
  | [], _, _ => by simp [allB, cntB]
  | s :: r, i, p => by
    have h := allS_len s (p ++ [(i : Int)])
    simp only [allB, cntB, List.length_cons, List.length_append, allB_len r]
    omega
end
/-- what waits: a body and the path ahead of it -/
structure WEnt where
  ta : Addr
  pa : Addr
  ba : Addr
  p : List Int
  b : List Stp
abbrev REnt := PRow × Stp
def WEnt.all (e : WEnt) : List (List Int × Stp) := allB e.b 0 e.p
def rOf (x : REnt) : List Int × Stp := (x.1.p, x.2)
def mW (ws : List WEnt) : Nat := (ws.map fun e => 2 * cntB e.b + 1).sum
def pushS (s : Stp) (q : List Int) : List (List Int × List Stp) := (innP s).map fun x => (q ++ x.1, x.2)
theorem push_all (s : Stp) (q : List Int) {es : List WEnt} (h : es.map (fun e => (e.p, e.b)) = pushS s q) : es.flatMap WEnt.all = allS s q := by
  rw [allS_inn]
  have : es.flatMap WEnt.all = (es.map fun e => (e.p, e.b)).flatMap fun x => allB x.2 0 x.1 := by
    rw [List.flatMap_map]
    rfl
  rw [this, h, pushS, List.flatMap_map]
theorem push_mW (s : Stp) (q : List Int) {es : List WEnt} (h : es.map (fun e => (e.p, e.b)) = pushS s q) : mW es ≤ 2 * cntS s := by
  have : mW es = ((es.map fun e => (e.p, e.b)).map fun x => 2 * cntB x.2 + 1).sum := by
    rw [List.map_map]
    rfl
  rw [this, h]
  cases s <;> simp [pushS, innP, cntS] <;> omega
theorem mW_app (a b : List WEnt) : mW (a ++ b) = mW a + mW b := by simp [mW, List.map_append, List.sum_append]
theorem mW_len : ∀ ws : List WEnt, ws.length ≤ mW ws
  | [] => by simp [mW]
  | e :: ws => by
    have := mW_len ws
    simp only [mW, List.map_cons, List.sum_cons, List.length_cons] at this ⊢
    omega
theorem perm_step {α : Type} (A B S R : List α) (x : α) : (A ++ B ++ (x :: (S ++ R))).Perm ((A ++ [x]) ++ (B ++ S) ++ R) := by
  have : (A ++ [x]) ++ (B ++ S) ++ R = A ++ ([x] ++ (B ++ (S ++ R))) := by simp [List.append_assoc]
  rw [this, List.append_assoc]
  refine List.Perm.append_left A ?_
  exact List.perm_append_comm_assoc B [x] (S ++ R)
theorem rLe_total (a b : PRow) : (rLe a b || rLe b a) = true := by
  rcases List.le_total a.p b.p with h | h
  · simp [rLe, h]
  · simp [rLe, h]
theorem rLe_trans (a b c : PRow) (h1 : rLe a b = true) (h2 : rLe b c = true) : rLe a c = true := decide_eq_true (List.le_trans (of_decide_eq_true h1) (of_decide_eq_true h2))
/-- the rows by their paths -/
theorem rows_sorted {b : List Stp} {rs : List REnt} (h : (rs.map rOf).Perm (allB b 0 [])) {i : Nat} {r : PRow} (hr : ((rs.map (·.1)).mergeSort rLe)[i]? = some r) : ∃ s, (allB b 0 [])[i]? = some (r.p, s) ∧ (r, s) ∈ rs := by
  have hp : (((rs.map (·.1)).mergeSort rLe).map (·.p)).Perm ((allB b 0 []).map (·.1)) := by
    refine (List.Perm.map _ (List.mergeSort_perm _ _)).trans ?_
    have : (rs.map (·.1)).map (·.p) = (rs.map rOf).map (·.1) := by
      rw [List.map_map, List.map_map]
      rfl
    rw [this]
    exact h.map _
  have hs : ((rs.map (·.1)).mergeSort rLe).Pairwise (fun a b => rLe a b = true) := List.pairwise_mergeSort rLe_trans rLe_total _
  have e : ((rs.map (·.1)).mergeSort rLe).map (·.p) = (allB b 0 []).map (·.1) := by
    refine List.Perm.eq_of_pairwise (le := (· ≤ ·)) (fun a b _ _ h1 h2 => List.le_antisymm h1 h2) ?_ ?_ hp
    · rw [List.pairwise_map]
      exact hs.imp fun h => of_decide_eq_true h
    · exact (allB_sorted b 0).imp fun h => List.le_of_lt h
  have hi : ((allB b 0 []).map (·.1))[i]? = some r.p := by
    rw [← e, List.getElem?_map, hr]
    rfl
  rw [List.getElem?_map] at hi
  obtain ⟨y, hy, ey⟩ := Option.map_eq_some_iff.mp hi
  have hm : r ∈ rs.map (·.1) := List.mem_mergeSort.mp (List.mem_of_getElem? hr)
  obtain ⟨x, hx, ex⟩ := List.mem_map.mp hm
  have h2 : (r.p, x.2) ∈ allB b 0 [] := h.mem_iff.mp (List.mem_map.mpr ⟨x, hx, by rw [← ex]; rfl⟩)
  have h1 : y ∈ allB b 0 [] := List.mem_of_getElem? hy
  have : y = (r.p, x.2) := by
    have o1 := (onF_all r.p b x.2).mpr h2
    have o2 := (onF_all r.p b y.2).mpr (by rw [← ey]; exact h1)
    rw [o1] at o2
    have e2 : x.2 = y.2 := by injection o2
    rw [← ey, e2]
  refine ⟨x.2, by rw [hy, this], ?_⟩
  rw [← ex]
  exact hx
theorem rows_nodup {b : List Stp} {rs : List REnt} (h : (rs.map rOf).Perm (allB b 0 [])) : ((rs.map (·.1)).map (·.p)).Nodup := by
  have : (rs.map (·.1)).map (·.p) = (rs.map rOf).map (·.1) := by
    rw [List.map_map, List.map_map]
    rfl
  rw [this]
  exact (List.Perm.nodup_iff (h.map (·.1))).mpr (allB_nodup b)
theorem rows_ne {b : List Stp} {rs : List REnt} (h : (rs.map rOf).Perm (allB b 0 [])) {r : PRow} (hr : r ∈ rs.map (·.1)) : r.p ≠ [] := by
  obtain ⟨x, hx, rfl⟩ := List.mem_map.mp hr
  have h2 : rOf x ∈ allB b 0 [] := h.mem_iff.mp (List.mem_map.mpr ⟨x, hx, rfl⟩)
  obtain ⟨j, t, _, e⟩ := allB_form b 0 _ h2
  intro z
  have e : x.1.p = (j : Int) :: t := e
  rw [z] at e
  cases e
end Lx

set_option Elab.async false
set_option maxRecDepth 100000
set_option linter.all false
set_option maxHeartbeats 4000000
namespace Lx
open PySem PySem.Spec PyProof.Rows L2 Evl Kx
/-- what waits stands so -/
structure Wok (K : PySem.W.Frag) (G M : Hp) (e : WEnt) : Prop where
  t : M e.ta = some (.tup [.ref e.pa, .ref e.ba])
  p : M e.pa = some (.tup (e.p.map V.int))
  b : Dq K G (.ref e.ba) (.list (bodyD e.b))
  l : e.p.length + 2 * nstB e.b ≤ 8
  c : cntB e.b ≤ 100
structure Rok (K : PySem.W.Frag) (G M : Hp) (x : REnt) : Prop where
  t : M x.1.ra = some (.tup [.ref x.1.pa, x.1.v])
  p : M x.1.pa = some (.tup (x.1.p.map V.int))
  v : Dq K G x.1.v (stpD x.2)
theorem Wok.mono {K : PySem.W.Frag} {G M M' : Hp} {e : WEnt} (x : Ex M M') (h : Wok K G M e) : Wok K G M' e := ⟨x _ _ h.t, x _ _ h.p, h.b, h.l, h.c⟩
theorem Rok.mono {K : PySem.W.Frag} {G M M' : Hp} {e : REnt} (x : Ex M M') (h : Rok K G M e) : Rok K G M' e := ⟨x _ _ h.t, x _ _ h.p, h.v⟩
def wL (ws : List WEnt) : HO := .lst (ws.map fun e => V.ref e.ta)
def rL (rs : List REnt) : HO := .lst (rs.map fun x => V.ref x.1.ra)
structure Wst (K : PySem.W.Frag) (G H H' M : Hp) (Wd R : Addr) (ws : List WEnt) (rs : List REnt) : Prop where
  k : New H H' M
  w : H' Wd = some (wL ws)
  wm : M Wd = none
  wh : H Wd = none
  r : H' R = some (rL rs)
  rm : M R = none
  rh : H R = none
  ne : Wd ≠ R
  we : ∀ e ∈ ws, Wok K G M e
  re : ∀ x ∈ rs, Rok K G M x
section
variable {K : PySem.W.Frag} {G H H' M : Hp} {Wd R z : Addr} {ws es : List WEnt} {rs : List REnt} {o : HO}
theorem Wst.own (s : Wst K G H H' M Wd R ws rs) (h : H' z = none) : Wst K G H (upd H' z o) M Wd R ws rs :=
  { s with k := s.k.own h, w := by rw [upd_ne (ne_of_none s.w h)]; exact s.w, r := by rw [upd_ne (ne_of_none s.r h)]; exact s.r }
theorem Wst.put (s : Wst K G H H' M Wd R ws rs) (h : H' z = none) : Wst K G H (upd H' z o) (upd M z o) Wd R ws rs := by
  have e : Ex M (upd M z o) := Ex.new (s.k.none h)
  exact { s with k := s.k.put h, w := by rw [upd_ne (ne_of_none s.w h)]; exact s.w, r := by rw [upd_ne (ne_of_none s.r h)]; exact s.r, wm := by rw [upd_ne (ne_of_none s.w h)]; exact s.wm, rm := by rw [upd_ne (ne_of_none s.r h)]; exact s.rm, we := fun x hx => (s.we x hx).mono e, re := fun x hx => (s.re x hx).mono e }
theorem Wst.row (s : Wst K G H H' M Wd R ws rs) {x : REnt} (hx : Rok K G M x) : Wst K G H (upd H' R (rL (rs ++ [x]))) M Wd R ws (rs ++ [x]) :=
  { s with k := s.k.wr s.rh s.rm, w := by rw [upd_ne s.ne]; exact s.w, r := upd_same, re := fun y hy => (List.mem_append.mp hy).elim (s.re y) fun h => by rw [List.mem_singleton.mp h]; exact hx }
theorem Wst.wait (s : Wst K G H H' M Wd R ws rs) {e : WEnt} (he : Wok K G M e) : Wst K G H (upd H' Wd (wL (ws ++ [e]))) M Wd R (ws ++ [e]) rs :=
  { s with k := s.k.wr s.wh s.wm, w := upd_same, r := by rw [upd_ne s.ne.symm]; exact s.r, we := fun y hy => (List.mem_append.mp hy).elim (s.we y) fun h => by rw [List.mem_singleton.mp h]; exact he }
theorem Wst.more (s : Wst K G H H' M Wd R ws rs) (h : H' z = none) (he : ∀ e ∈ es, Wok K G M e) : Wst K G H (upd H' z (wL (ws ++ es))) M z R (ws ++ es) rs :=
  { s with k := s.k.own h, w := upd_same, wm := s.k.none h, wh := s.k.hnone h, r := by rw [upd_ne (ne_of_none s.r h)]; exact s.r, ne := (ne_of_none s.r h).symm, we := fun y hy => (List.mem_append.mp hy).elim (s.we y) (he y) }
theorem Wst.pop {e : WEnt} (s : Wst K G H H' M Wd R (ws ++ [e]) rs) : Wst K G H (upd H' Wd (wL ws)) M Wd R ws rs :=
  { s with k := s.k.wr s.wh s.wm, w := upd_same, r := by rw [upd_ne s.ne.symm]; exact s.r, we := fun y hy => s.we y (List.mem_append_left _ hy) }
theorem Wst.last {e : WEnt} (s : Wst K G H H' M Wd R (ws ++ [e]) rs) : Wok K G M e := s.we e (List.mem_append_right _ (List.mem_cons_self ..))
/-- what is evaluated to a path one longer -/
theorem Wst.path {σ : L2.St} {i j : Nat} {n : Int} {pa : Addr} {p : List Int} {Q : VK} (s : Wst K G H H' M Wd R ws rs) (h2 : σ[i]? = some (some (.ref pa))) (h4 : σ[j]? = some (some (.int n))) (hp : M pa = some (.tup (p.map V.int))) (hl : p.length ≤ 4000)
    (q : ∀ t H2 M2, Wst K G H H2 M2 Wd R ws rs → Ex M M2 → M2 t = some (.tup ((p ++ [n]).map V.int)) → Q (.ref t) H2) : tOp (rCatA K) (tVar i) (tTup (tCons (tVar j) tNil)) σ H' Q := by
  refine path_k (p := p) (n := n) h2 h4 s.k (pt_of (.inl (.inl (s.k.mh _ _ hp)))) hl fun t H2 M2 k2 m2 e2 ht nt fr => q t H2 M2 ?_ m2 ht
  exact { k := k2, w := e2 _ _ s.w, wm := (fr _ _ s.w).trans s.wm, wh := s.wh, r := e2 _ _ s.r, rm := (fr _ _ s.r).trans s.rm, rh := s.rh, ne := s.ne, we := fun x hx => (s.we x hx).mono m2, re := fun x hx => (s.re x hx).mono m2 }
theorem Wst.pathC {σ : L2.St} {i : Nat} {n : Int} {pa : Addr} {p : List Int} {Q : VK} (s : Wst K G H H' M Wd R ws rs) (h2 : σ[i]? = some (some (.ref pa))) (hp : M pa = some (.tup (p.map V.int))) (hl : p.length ≤ 4000)
    (q : ∀ t H2 M2, Wst K G H H2 M2 Wd R ws rs → Ex M M2 → M2 t = some (.tup ((p ++ [n]).map V.int)) → Q (.ref t) H2) : tOp (rCatA K) (tVar i) (tTup (tCons (tC (.int n)) tNil)) σ H' Q := by
  have := s.path (σ := σ ++ [some (.int n)]) (i := i) (j := σ.length) (n := n) (pa := pa) (p := p) (Q := Q) (by
    rw [List.getElem?_append_left (List.getElem?_eq_some_iff.mp h2).1]
    exact h2) (by simp) hp hl q
  obtain ⟨v, h3, v2, h5, h6⟩ := this
  rw [List.getElem?_append_left (List.getElem?_eq_some_iff.mp h2).1] at h3
  rw [List.getElem?_append_right (Nat.le_refl _), Nat.sub_self] at h5
  cases h5
  exact ⟨v, h3, h6⟩
end
end Lx

set_option Elab.async false
set_option maxRecDepth 100000
set_option linter.all false
set_option maxHeartbeats 4000000
namespace Lx
open PySem PySem.Spec PyProof.Rows L2 Evl Kx
section
variable {P : Program} {w : World} {K : PySem.W.Frag} {mg : Str → Option Value} {base : Heap} {f : Addr} {fd : FuncData}
abbrev sAp : Stmt := top 78
abbrev nAp : List Str := ["parts", "found", "name", "owner", "body", "waiting", "rows", "prefix", "some", "at", "path", "step"]
theorem scAp : FnScope ["parts", "found", "name", "owner", "body", "waiting", "rows", "prefix", "some", "at", "path", "step"] ["parts"] (defScope sAp) := ⟨rfl, rfl, rfl, by decide +kernel, rfl, by decide +kernel, by decide +kernel⟩
/-- all places of a program with their steps, in order -/
def everyF (fs : List Fn) : List (Str × List Int × Stp) := fs.flatMap fun g => (allB g.2.2 0 []).map fun x => (g.1, x.1, x.2)
def evD (x : Str × List Int × Stp) : PyData := .tuple [plcD (x.1, x.2.1), stpD x.2.2]
theorem join_mono {A B B' : Hp} (e : Ex B B') : Ex (join A B) (join A B') := fun a o h => (join_inv h).elim (fun h => join_l _ _ h) fun h => join_r (e _ _ h.2) h.1
theorem join_assoc {A B C : Hp} : Ex (join (join A B) C) (join A (join B C)) := fun a o h => by
  rcases join_inv h with h | ⟨h1, h2⟩
  · rcases join_inv h with h | ⟨h3, h4⟩
    · exact join_l _ _ h
    · exact join_r (join_l _ _ h4) h3
  · have hA : A a = none := by
      cases z : A a with
      | none => rfl
      | some u => rw [join_l _ _ z] at h1; cases h1
    have hB : B a = none := by
      cases z : B a with
      | none => rfl
      | some u => rw [join_r z hA] at h1; cases h1
    exact join_r (join_r h2 hB) hA
theorem dqa_cat {K : PySem.W.Frag} {H : Hp} {ws : List V} {es : List PyData} : ∀ {vs : List V} {ds : List PyData}, DqA K H vs ds → DqA K H ws es → DqA K H (vs ++ ws) (ds ++ es)
  | _, _, .nil, h => h
  | _, _, .cons a b, h => .cons a (dqa_cat b h)
theorem every_take {fs : List Fn} {i : Nat} {g : Fn} (h : fs[i]? = some g) : everyF (fs.take (i + 1)) = everyF (fs.take i) ++ (allB g.2.2 0 []).map fun x => (g.1, x.1, x.2) := by
  unfold everyF
  rw [List.take_succ, h, List.flatMap_append]
  simp only [Option.toList_some, List.flatMap_cons, List.flatMap_nil, List.append_nil]
theorem every_len {n : Nat} : ∀ {fs : List Fn}, (∀ g ∈ fs, cntB g.2.2 ≤ n) → (everyF fs).length ≤ n * fs.length
  | [], _ => by simp [everyF]
  | g :: fs, h => by
    have h2 := h g (List.mem_cons_self ..)
    have h3 := every_len (n := n) (fs := fs) fun x hx => h x (List.mem_cons_of_mem _ hx)
    unfold everyF at h3 ⊢
    rw [List.flatMap_cons, List.length_append, List.length_map, List.length_cons, allB_len, Nat.mul_add]
    omega
structure spAp (K : PySem.W.Frag) (vs : List V) (H : Hp) (Q : VK) (E : XK) : Prop where
  mk' ::
  out : ∃ G pp q, vs = [.ref pp] ∧ Ex G H ∧ Dq K G (.ref pp) (prtD q) ∧ (∀ g ∈ q.fs, nstB g.2.2 ≤ 4 ∧ cntB g.2.2 ≤ 100) ∧ q.fs.length ≤ 6 ∧ ∀ l G2 H2, Ext G H G2 H2 → Dq K G2 (.ref l) (.list ((everyF q.fs).map evD)) → Q (.ref l) H2
theorem ok_ap {fB : Addr} {fdB : FuncData} (F : Fun K "_law_all_places" "_law_all_places" sAp f fd) (FB : FnOk P w K mg base CX0 1 fB fdB ["rows"] (spBp K)) (mB : mg "_law_by_path" = some (.ref fB)) (kB : PySem.W.keepIn K (.ref fB) = true) (bB : Binds K fdB ["rows"] [])
    (mL : mg "len" = none) (mR : mg "range" = none) : FnOk P w K mg base CX0 2 f fd ["parts"] (spAp K) := by
  refine F.ok scAp (fun vs H Q E h => ?_) (fun cdv A outer s H vs Q E hr h => ?_)
  · obtain ⟨_, _, _, rfl, _⟩ := h
    rfl
  · obtain ⟨G, pp, q, rfl, eG, hq, hfs, hfl, fin⟩ := h
    have hu := hr.units
    have hu1 : (A.deeper (envOfC "_law_all_places" (defScope sAp) s.heap.objs.size f cdv)).units + 1 < cLine := Nat.lt_of_le_of_lt (Nat.add_le_add_left (by decide : 1 ≤ 64) _) hr.units
    refine ⟨_, pss_cons (ps_set (i := 1) scAp.nd rfl (Or.inl rfl) (pe_lst pa_nil))
      (pss_cons (ps_for PassesOwn.never rfl (pi_list (pe_ix ix_list (pv 0) pe_int (fun _ _ => rfl))) (pg_tupK (K := K) rfl (pgs_cons (pg_name (i := 2) scAp.nd rfl (Or.inr rfl)) (pgs_cons (pg_name (i := 3) scAp.nd rfl (Or.inl rfl)) (pgs_cons (pg_name (i := 4) scAp.nd rfl (Or.inl rfl)) pgs_nil))))
        (pss_cons (ps_set (i := 5) scAp.nd rfl (Or.inl rfl) (pe_lst (pa_cons (pe_tup (pa_cons (pe_tup pa_nil) (pa_cons (pv 4) pa_nil))) pa_nil)))
        (pss_cons (ps_set (i := 6) scAp.nd rfl (Or.inl rfl) (pe_lst pa_nil))
        (pss_cons (ps_while PassesOwn.never (pt_cmpR (op_neE hu) (pv 5) (pe_lst pa_nil) (nomark _))
          (pss_cons (ps_asg (pe_bm0 PySem.F.plainAttrs_list PySem.F.slot_list_pop PySem.F.type_list_pop mt_pop (pv 5)) (pg_tupK (K := K) rfl (pgs_cons (pg_name (i := 7) scAp.nd rfl (Or.inl rfl)) (pgs_cons (pg_name (i := 8) scAp.nd rfl (Or.inl rfl)) pgs_nil))))
          (pss_one (ps_for PassesOwn.never rfl (pi_range1 (by rfl) mR (pa_cons (pe_callB call_len_seq (by rfl) mL PySem.boot_len (pa_cons (pv 8) pa_nil)) pa_nil)) (pg_name (i := 9) scAp.nd rfl (Or.inl rfl))
            (pss_cons (ps_set (i := 10) scAp.nd rfl (Or.inl rfl) (pe_op op_catA (pv 7) (pe_tup (pa_cons (pv 9) pa_nil))))
            (pss_cons (ps_expr (pe_bm PySem.F.plainAttrs_list PySem.F.slot_list_append PySem.F.type_list_append mt_append (pv 6) (pa_cons (pe_tup (pa_cons (pv 10) (pa_cons (pe_ix ix_list (pv 8) (pv 9) (fun _ _ => rfl)) pa_nil))) pa_nil)))
            (pss_one (ps_if (pt_cmpR op_eq (pe_ix ix_tup (pe_ix ix_list (pv 8) (pv 9) (fun _ _ => rfl)) pe_int (fun _ _ => rfl)) pe_str (nomark _))
              (pss_one (ps_set (i := 5) scAp.nd rfl (Or.inl rfl) (pe_op op_cat (pv 5) (pe_lst (pa_cons (pe_tup (pa_cons (pe_op op_catA (pv 10) (pe_tup (pa_cons pe_int pa_nil))) (pa_cons (pe_ix ix_tup (pe_ix ix_list (pv 8) (pv 9) (fun _ _ => rfl)) pe_int (fun _ _ => rfl)) pa_nil)))
                (pa_cons (pe_tup (pa_cons (pe_op op_catA (pv 10) (pe_tup (pa_cons pe_int pa_nil))) (pa_cons (pe_ix ix_tup (pe_ix ix_list (pv 8) (pv 9) (fun _ _ => rfl)) pe_int (fun _ _ => rfl)) pa_nil))) pa_nil))))))
              (pss_one (ps_if (pt_cmpR (op_inTs hu1) (pe_ix ix_tup (pe_ix ix_list (pv 8) (pv 9) (fun _ _ => rfl)) pe_int (fun _ _ => rfl)) (pe_lst (pa_cons pe_str (pa_cons pe_str pa_nil))) (by rfl))
                (pss_one (ps_expr (pe_bm PySem.F.plainAttrs_list PySem.F.slot_list_append PySem.F.type_list_append mt_append (pv 5) (pa_cons (pe_tup (pa_cons (pv 10) (pa_cons (pe_ix ix_tup (pe_ix ix_list (pv 8) (pv 9) (fun _ _ => rfl)) (pe_op op_sub (pe_callB call_len_seq (by rfl) mL PySem.boot_len (pa_cons (pe_ix ix_list (pv 8) (pv 9) (fun _ _ => rfl)) pa_nil)) pe_int) (fun _ _ => rfl)) pa_nil))) pa_nil)))) pss_nil))))))))))
        (pss_one (ps_set (i := 1) scAp.nd rfl (Or.inl rfl) (pe_op op_cat (pv 1) (pe_lc (own := [("path", 10), ("step", 11)]) (g := gTup K 2 (gCons (gName 10) (gCons (gName 11) gNil))) rfl scAp.nd (pi_list (pe_call FB hr rfl mB kB bB .nil pass0 (pa_cons (pv 6) pa_nil)))
              (blkOk_by (own := [("path", 10), ("step", 11)]) (N := ["parts", "found", "name", "owner", "body", "waiting", "rows", "prefix", "some", "at", "path", "step"]) (sc := defScope sAp) (by decide +kernel))
              (fun _ _ _ _ _ => pg_tupK rfl (pgs_cons (pg_name (i := 10) scAp.nd rfl (Or.inl rfl)) (pgs_cons (pg_name (i := 11) scAp.nd rfl (Or.inl rfl)) pgs_nil))) (fun _ _ _ _ _ => pts_nil)
              (fun _ _ _ _ _ => pe_tup (pa_cons (pe_tup (pa_cons (pv 2) (pa_cons (pv 10) pa_nil))) (pa_cons (pv 11) pa_nil)))))))))))
      (pss_one (ps_ret (pv 1)))), ?_⟩
    obtain ⟨p1, p2, p3, i0, i1, i2, i3⟩ := prt_at hq
    cases i3 with
    | @lst _ ys _ hl hy =>
    refine ⟨by show 0 ≤ sizeLine; decide, fun F0 nF0 => ?_⟩
    have e0 : Ex H (upd H F0 (.lst [])) := Ex.new nF0
    refine ⟨_, rfl, pp, _, _, .ref p3, rfl, rfl, SqL.of (e0 _ _ (eG _ _ i0)), rfl, p3, rfl, ⟨_, SqL.of (e0 _ _ (eG _ _ hl))⟩, ?_⟩
    refine for_list (K := K) (a := p3) (xs := ys) (fun i σ H' => ∃ F o2 o3 o4 o5 o6 o7 o8 o9 o10 M, σ = [some (.ref pp), some (.ref F), o2, o3, o4, o5, o6, o7, o8, o9, o10, none] ∧ New H H' M ∧ Dq K (join G M) (.ref F) (.list ((everyF (q.fs.take i)).map evD)))
      ?_ (fun i σ H' _ ⟨_, _, _, _, _, _, _, _, _, _, _, _, k, _⟩ => SqL.of (k.hh _ _ (eG _ _ hl))) ?_ ?_
    · exact ⟨F0, none, none, none, none, none, none, none, none, none, _, rfl, New.refl.put nF0, .lst (join_r upd_same (fresh_back eG nF0)) .nil⟩
    · rintro i x σ H' hi ⟨F, o2, o3, o4, o5, o6, o7, o8, o9, o10, Mf, rfl, kf, hF⟩
      obtain ⟨g, ta, pl, hg, rfl, hTg, hb⟩ := fn_at hy hi
      obtain ⟨gn, gc⟩ := hfs g (List.mem_of_getElem? hg)
      refine ⟨ta, _, rfl, sqt_ex (same_ex (eG.trans kf.hh)) hTg, rfl, _, _, rfl, _, _, rfl, _, _, rfl, rfl, ?_⟩
      refine ⟨by show 0 ≤ sizeLine; decide, fun c0 nc0 => ⟨_, rfl, by show 2 ≤ sizeLine; decide, fun t0 nt0 => ⟨by show 1 ≤ sizeLine; decide, fun W0 nW0 => ⟨by show 0 ≤ sizeLine; decide, fun R0 nR0 => ?_⟩⟩⟩⟩
      have k1 := (kf.put (o := .tup []) nc0).put (o := .tup [.ref c0, .ref pl]) nt0
      have m1 : Ex Mf (upd (upd Mf c0 (.tup [])) t0 (.tup [.ref c0, .ref pl])) := (Ex.new (kf.none nc0)).trans (Ex.new ((kf.put nc0).none nt0))
      have s0 : Wst K G H (upd (upd (upd (upd H' c0 (.tup [])) t0 (.tup [.ref c0, .ref pl])) W0 (.lst [.ref t0])) R0 (.lst [])) (upd (upd Mf c0 (.tup [])) t0 (.tup [.ref c0, .ref pl])) W0 R0 [⟨t0, c0, pl, [], g.2.2⟩] [] := by
        have nW := k1.hnone nW0
        have kW := k1.own (o := wL [⟨t0, c0, pl, [], g.2.2⟩]) nW0
        refine ⟨kW.own nR0, ?_, k1.none nW0, nW, upd_same, kW.none nR0, kW.hnone nR0, ne_of_none upd_same nR0, fun e he => ?_, fun x hx => nomatch hx⟩
        · rw [upd_ne (ne_of_none upd_same nR0)]
          exact upd_same
        · rw [List.mem_singleton.mp he]
          refine ⟨upd_same, ?_, hb, by simp; omega, gc⟩
          rw [upd_ne (ne_of_none (upd_same (H := Mf)) ((kf.put nc0).none nt0))]
          exact upd_same
      have hb0 : (List.map rOf ([] : List REnt) ++ [(⟨t0, c0, pl, [], g.2.2⟩ : WEnt)].flatMap WEnt.all).Perm (allB g.2.2 0 []) := by
        simp [WEnt.all]
      generalize (upd (upd (upd (upd H' c0 (.tup [])) t0 (.tup [.ref c0, .ref pl])) W0 (.lst [.ref t0])) R0 (.lst [])) = H1 at s0 ⊢
      generalize (upd (upd Mf c0 (.tup [])) t0 (.tup [.ref c0, .ref pl])) = M1 at s0 m1
      obtain ⟨Wp, hWp⟩ : ∃ Wp : Nat → L2.St → Hp → Prop, ∀ m σ H', Wp m σ H' ↔ ∃ o7 o8 o9 o10 Wd M ws rs, σ = [some (.ref pp), some (.ref F), some (.str g.1), some (.str g.2.1), some (.ref pl), some (.ref Wd), some (.ref R0), o7, o8, o9, o10, none] ∧ Ex Mf M ∧ Wst K G H H' M Wd R0 ws rs ∧ ((rs.map rOf) ++ ws.flatMap WEnt.all).Perm (allB g.2.2 0 []) ∧ mW ws = m ∧ mW ws ≤ 201 := ⟨_, fun _ _ _ => Iff.rfl⟩
      refine ⟨Wp, ⟨_, (hWp _ _ _).mpr ⟨_, _, _, _, W0, M1, _, _, rfl, m1, s0, hb0, rfl, by simp [mW]; omega⟩⟩, ?_⟩
      intro m σ H2 hw
      obtain ⟨o7, o8, o9, o10, Wd, M, ws, rs, rfl, em, st, hp, rfl, hmb⟩ := (hWp _ _ _).mp hw
      refine ⟨_, rfl, by show 0 ≤ sizeLine; decide, fun z nz => ⟨Wd, z, _, rfl, rfl, SqL.of (st.own (o := .lst []) nz).w, SqL.of upd_same, _, rfl, ?_⟩⟩
      have st := st.own (o := .lst []) nz
      generalize upd H2 z (.lst []) = H3 at st ⊢
      rcases List.eq_nil_or_concat ws with rfl | ⟨ws0, e, hwe⟩
      · refine iteF ?_
        rw [List.flatMap_nil, List.append_nil] at hp
        have eG1 : Ex (join G M) H3 := (st.k.ext eG).gh
        have emG : Ex M (join G M) := st.k.exr eG
        have hrl : rs.length = cntB g.2.2 := by
          have := hp.length_eq
          rw [List.length_map, allB_len] at this
          exact this
        refine ⟨_, rfl, _, rfl, ⟨R0, rs.map (·.1), rfl, by rw [List.map_map]; exact st.r, fun r hr => ?_, rows_nodup hp, fun r hr => rows_ne hp hr, by rw [List.length_map]; omega, fun l H4 M4 ts k4 hl4 htl hts => ?_⟩⟩
        · obtain ⟨x, hx, rfl⟩ := List.mem_map.mp hr
          have := st.re x hx
          exact ⟨.inl (.inl (st.k.mh _ _ this.t)), st.k.mh _ _ this.p⟩
        rw [List.length_map] at htl
        refine ⟨l, rfl, ⟨_, SqL.of (k4.mh _ _ hl4)⟩, fun D nD => ?_⟩
        refine lc_list (K := K) (a := l) (xs := ts.map V.ref) (fun j H5 => ∃ (M5 : Hp) (acc : List V), New H3 H5 M5 ∧ Ex M4 M5 ∧ H5 D = some (.lst acc) ∧ M5 D = none ∧ DqA K (join (join G M) M5) acc (((allB g.2.2 0 []).take j).map fun x => evD (g.1, x.1, x.2)))
          ⟨M4, [], k4.own nD, Ex.refl M4, upd_same, k4.none nD, .nil⟩ (fun j H5 _ ⟨_, _, k5, e5, _⟩ => SqL.of (k5.mh _ _ (e5 _ _ hl4))) ?_ ?_
        · rintro j x H5 hj ⟨M5, acc, k5, e5, hD, mD, hacc⟩
          rw [List.getElem?_map] at hj
          obtain ⟨t, ht, rfl⟩ := Option.map_eq_some_iff.mp hj
          obtain ⟨r, hr1, hr2⟩ := hts j t ht
          obtain ⟨sp, hs1, hs2⟩ := rows_sorted hp hr1
          have hrk := st.re _ hs2
          refine ⟨t, _, rfl, .inl (.inl (k5.mh _ _ (e5 _ _ hr2))), rfl, _, _, rfl, _, _, rfl, rfl, rfl, _, rfl, _, rfl, by show 2 ≤ sizeLine; decide, fun u1 nu1 => ⟨_, rfl, by show 2 ≤ sizeLine; decide, fun u2 nu2 => ?_⟩⟩
          have k6 := (k5.put (o := .tup [.str g.1, .ref r.pa]) nu1).put (o := .tup [.ref u1, r.v]) nu2
          have fu1 : D ≠ u1 := ne_of_none hD nu1
          have fu2 : D ≠ u2 := ne_of_none (show (upd H5 u1 (.tup [.str g.1, .ref r.pa])) D = some (.lst acc) by rw [upd_ne fu1]; exact hD) nu2
          have n12 : u1 ≠ u2 := ne_of_none (upd_same (H := H5)) nu2
          have mE : Ex M5 (upd (upd M5 u1 (.tup [.str g.1, .ref r.pa])) u2 (.tup [.ref u1, r.v])) := (Ex.new (k5.none nu1)).trans (Ex.new ((k5.put nu1).none nu2))
          have hD6 : (upd (upd H5 u1 (.tup [.str g.1, .ref r.pa])) u2 (.tup [.ref u1, r.v])) D = some (.lst acc) := by rw [upd_ne fu2, upd_ne fu1]; exact hD
          have mD6 : (upd (upd M5 u1 (.tup [.str g.1, .ref r.pa])) u2 (.tup [.ref u1, r.v])) D = none := by rw [upd_ne fu2, upd_ne fu1]; exact mD
          have h1 : (upd (upd M5 u1 (.tup [.str g.1, .ref r.pa])) u2 (.tup [.ref u1, r.v])) u1 = some (.tup [.str g.1, .ref r.pa]) := by rw [upd_ne n12]; exact upd_same
          have h2 : (upd (upd M5 u1 (.tup [.str g.1, .ref r.pa])) u2 (.tup [.ref u1, r.v])) u2 = some (.tup [.ref u1, r.v]) := upd_same
          generalize (upd (upd M5 u1 (.tup [.str g.1, .ref r.pa])) u2 (.tup [.ref u1, r.v])) = M6 at k6 mE mD6 h1 h2
          generalize (upd (upd H5 u1 (.tup [.str g.1, .ref r.pa])) u2 (.tup [.ref u1, r.v])) = H6 at k6 hD6 ⊢
          have em6 : Ex M6 (join (join G M) M6) := k6.exr eG1
          have la := dqa_len hacc
          rw [List.length_map, List.length_take, allB_len] at la
          have dq : Dq K (join (join G M) M6) (.ref u2) (evD (g.1, r.p, sp)) := by
            refine .tup (.inl (.inl (em6 _ _ h2))) (.cons (.tup (.inl (.inl (em6 _ _ h1))) (.cons (.str _) (.cons (pt_of (.inl (.inl (join_l _ _ (emG _ _ hrk.p))))) .nil))) (.cons (hrk.v.mono (same_ex (join_l.trans join_l))) .nil))
          refine ⟨acc, hD6, Nat.lt_of_le_of_lt (show acc.length ≤ 100 by omega) (by decide), M6, acc ++ [.ref u2], k6.wr (fresh_back k4.hh nD) mD6, e5.trans mE, upd_same, mD6, ?_⟩
          rw [List.take_succ, hs1, List.map_append]
          exact dqa_app (hacc.mono (same_ex (join_mono mE))) dq
        · rintro H5 ⟨M5, acc, k5, e5, hD, mD, hacc⟩
          rw [List.length_map, htl, hrl, List.take_of_length_le (by rw [allB_len]; exact Nat.le_refl _)] at hacc
          cases hF with
          | @lst _ xsF _ hFl hFx =>
          have la := dqa_len hacc
          rw [List.length_map, allB_len] at la
          have lf := dqa_len hFx
          rw [List.length_map] at lf
          have lf2 := every_len (n := 100) (fs := q.fs.take i) fun x hx => (hfs x (List.mem_of_mem_take hx)).2
          have hti : (q.fs.take i).length ≤ 6 := by rw [List.length_take]; omega
          have eJ : Ex (join G Mf) (join G M) := join_mono em
          refine ⟨F, D, xsF, acc, rfl, rfl, k5.hh _ _ (eG1 _ _ (eJ _ _ hFl)), hD, sz_of (by omega), fun p np => ?_⟩
          have kk := st.k.trans k5
          have eP : Ex (join M M5) (upd (join M M5) p (.lst (xsF ++ acc))) := Ex.new (kk.none np)
          have kk := kk.put (o := .lst (xsF ++ acc)) np
          refine ⟨p, _, _, _, _, _, _, _, _, _, _, rfl, kk, ?_⟩
          rw [every_take hg, List.map_append, List.map_map]
          refine .lst (kk.exr eG _ _ upd_same) ?_
          have d1 : DqA K (join G (upd (join M M5) p (.lst (xsF ++ acc)))) xsF ((everyF (q.fs.take i)).map evD) := hFx.mono (same_ex ((join_mono (em.trans join_l)).trans (join_mono eP)))
          have d2 : DqA K (join G (upd (join M M5) p (.lst (xsF ++ acc)))) acc ((allB g.2.2 0 []).map fun x => evD (g.1, x.1, x.2)) := hacc.mono (same_ex (join_assoc.trans (join_mono eP)))
          exact dqa_cat d1 d2
      · rw [List.concat_eq_append] at hwe
        subst hwe
        refine ite2 (fun _ => ?_) (fun h => absurd (by simp) h)
        refine ⟨fun σ' H' => ∃ m', m' < mW (ws0 ++ [e]) ∧ Wp m' σ' H', fun _ _ h => h, ?_⟩
        have le := st.last
        have hget : ((ws0 ++ [e]).map fun e => V.ref e.ta)[((ws0 ++ [e]).map fun e => V.ref e.ta).length - 1]? = some (.ref e.ta) := by simp
        have hdrop : ((ws0 ++ [e]).map fun e => V.ref e.ta).dropLast = ws0.map fun e => V.ref e.ta := by simp
        refine ⟨_, rfl, .inl ⟨rfl, _, SqL.of st.w⟩, Wd, _, .ref e.ta, rfl, rfl, st.w, hget, ?_⟩
        rw [hdrop]
        have st := st.pop
        rw [show upd H3 Wd (.lst (ws0.map fun e => V.ref e.ta)) = upd H3 Wd (wL ws0) from rfl]
        generalize upd H3 Wd (wL ws0) = H4 at st ⊢
        refine ⟨e.ta, _, rfl, .inl (.inl (st.k.mh _ _ le.t)), rfl, _, _, rfl, _, _, rfl, rfl, ?_⟩
        have hbe := le.b
        cases hbe with
        | @lst _ xs _ hbl hbx =>
        have hlen : xs.length = e.b.length := by
          have := dqa_len hbx
          rw [bodyD_map, List.length_map] at this
          exact this
        have hbc := len_cnt e.b
        have hec := le.c
        refine ⟨_, rfl, e.ba, _, rfl, .inl (SqL.of ((eG.trans st.k.hh) _ _ hbl)), _, rfl, by omega, by
          have e3z : (1000 : Nat) < 2 ^ 30 := by decide
          omega, ?_⟩
        rw [Int.toNat_natCast]
        refine for_range (lo := 0) (n := xs.length) (fun i σ H' => ∃ o9 o10 Wd M ws rs, σ = [some (.ref pp), some (.ref F), some (.str g.1), some (.str g.2.1), some (.ref pl), some (.ref Wd), some (.ref R0), some (.ref e.pa), some (.ref e.ba), o9, o10, none] ∧ Ex Mf M ∧ M e.pa = some (.tup (e.p.map V.int)) ∧ Wst K G H H' M Wd R0 ws rs ∧ (((rs.map rOf) ++ ws.flatMap WEnt.all) ++ allB (e.b.drop i) i e.p).Perm (allB g.2.2 0 []) ∧ mW ws + 2 * cntB (e.b.drop i) < mW (ws0 ++ [e])) ?_ ?_ ?_
        · refine ⟨_, _, Wd, M, ws0, rs, rfl, em, le.p, st, ?_, ?_⟩
          · rw [List.drop_zero, List.append_assoc]
            rw [List.flatMap_append, List.flatMap_cons, List.flatMap_nil, List.append_nil] at hp
            exact hp
          · rw [List.drop_zero, mW_app]
            simp only [mW, List.map_cons, List.map_nil, List.sum_cons, List.sum_nil]
            omega
        · rintro i σ H5 hi ⟨o9, o10, Wd, M, ws, rs, rfl, em, hpe, st, hp, hm⟩
          rw [Int.zero_add]
          obtain ⟨sv, hsv⟩ : ∃ sv, xs[i]? = some sv := ⟨xs[i], List.getElem?_eq_getElem hi⟩
          obtain ⟨sp, hsp, hdv⟩ := body_get hbx hsv
          obtain ⟨sa, ys', rfl, hTs, hys⟩ := step_at hdv
          have w0 : ys'[0]? = some (.str (wordS sp)) := by
            cases sp <;> (cases hys with | cons a b => cases a; rfl)
          have hspm := List.mem_of_getElem? hsp
          have hsn := nst_mem hspm
          have hsc := cnt_mem hspm
          have hel := le.l
          have hdr : e.b.drop i = sp :: e.b.drop (i + 1) := by
            rw [List.drop_eq_getElem_cons (List.getElem?_eq_some_iff.mp hsp).1, (List.getElem?_eq_some_iff.mp hsp).2]
          have hrl : rs.length ≤ 100 := by
            have := hp.length_eq
            rw [List.length_append, List.length_append, List.length_map, allB_len g.2.2] at this
            omega
          have hwl : ws.length ≤ 400 := by
            have := mW_len ws
            omega
          show tAsg (tOp (rCatA K) (tVar 7) (tTup (tCons (tVar 9) tNil))) (gName 10) _ _ _
          refine Wst.path st (i := 7) (j := 9) (n := (i : Nat)) rfl rfl hpe (by omega) fun t H6 M6 st m6 ht => ?_
          have hTs6 : ∀ {H' M' : Hp} {W' R' ws' rs'}, Wst K G H H' M' W' R' ws' rs' → SqT K H' sa ys' := fun s => sqt_ex (same_ex (eG.trans s.k.hh)) hTs
          have hB6 : ∀ {H' M' : Hp} {W' R' ws' rs'}, Wst K G H H' M' W' R' ws' rs' → SqL K H' e.ba xs := fun s => SqL.of ((eG.trans s.k.hh) _ _ hbl)
          refine ⟨_, rfl, .inl ⟨rfl, _, SqL.of st.r⟩, _, rfl, _, rfl, _, rfl, e.ba, xs, (i : Nat), .ref sa, rfl, rfl, hB6 st, atI_nat hsv, by show 2 ≤ sizeLine; decide, fun r nr => ?_⟩
          have eM7 : Ex M6 (upd M6 r (.tup [.ref t, .ref sa])) := Ex.new (st.k.none nr)
          have st := st.put (o := .tup [.ref t, .ref sa]) nr
          have ht7 := eM7 _ _ ht
          have hpe7 := eM7 _ _ (m6 _ _ hpe)
          have em7 := em.trans (m6.trans eM7)
          have hr7 : (upd M6 r (.tup [.ref t, .ref sa])) r = some (.tup [.ref t, .ref sa]) := upd_same
          generalize (upd M6 r (.tup [.ref t, .ref sa])) = M7 at st ht7 hpe7 em7 hr7
          generalize (upd H6 r (.tup [.ref t, .ref sa])) = H7 at st ⊢
          have rk : Rok K G M7 (⟨r, e.p ++ [(i : Int)], t, .ref sa⟩, sp) := ⟨hr7, ht7, hdv⟩
          refine ⟨R0, _, .ref r, rfl, rfl, st.r, by rw [List.length_map]; exact Nat.lt_of_le_of_lt hrl (by decide), ?_⟩
          have st := st.row rk
          rw [show upd H7 R0 (.lst ((rs.map fun x => V.ref x.1.ra) ++ [.ref r])) = upd H7 R0 (rL (rs ++ [(⟨r, e.p ++ [(i : Int)], t, .ref sa⟩, sp)])) by rw [rL, List.map_append]; rfl]
          generalize upd H7 R0 (rL (rs ++ [(⟨r, e.p ++ [(i : Int)], t, .ref sa⟩, sp)])) = H8 at st ⊢
          have nxt : ∀ {es : List WEnt}, es.map (fun e => (e.p, e.b)) = pushS sp (e.p ++ [(i : Int)]) → ((((rs ++ [((⟨r, e.p ++ [(i : Int)], t, .ref sa⟩, sp) : REnt)]).map rOf) ++ (ws ++ es).flatMap WEnt.all) ++ allB (e.b.drop (i + 1)) (i + 1) e.p).Perm (allB g.2.2 0 []) ∧ mW (ws ++ es) + 2 * cntB (e.b.drop (i + 1)) < mW (ws0 ++ [e]) := fun {es} h => by
            rw [hdr] at hp hm
            simp only [cntB] at hm
            simp only [allB] at hp
            have h1 := push_all sp _ h
            have h2 := push_mW sp _ h
            refine ⟨?_, by rw [mW_app ws es]; omega⟩
            rw [List.map_append, List.flatMap_append, h1]
            exact (perm_step (rs.map rOf) (ws.flatMap WEnt.all) _ _ _).symm.trans hp
          refine ⟨_, rfl, _, rfl, e.ba, xs, (i : Nat), .ref sa, rfl, rfl, hB6 st, atI_nat hsv, sa, ys', 0, .str (wordS sp), rfl, rfl, hTs6 st, atI_nat (j := 0) w0, rfl, _, rfl, ite2 (fun hc => ?_) (fun hc => ?_)⟩
          · obtain ⟨ba, bb, rfl⟩ : ∃ ba bb, sp = .either ba bb := by
              have hw : wordS sp = "either" := by
                have := of_decide_eq_true hc
                injection this
              cases sp <;> first | exact ⟨_, _, rfl⟩ | exact absurd hw (by simp only [wordS]; decide +kernel)
            cases hys with
            | @cons v0 _ _ _ _ hys =>
            cases hys with
            | @cons va _ _ _ ha hys =>
            cases hys with
            | @cons vb _ _ _ hb2 hys =>
            cases hys
            obtain ⟨aa, rfl⟩ : ∃ aa, va = .ref aa := by cases ha; exact ⟨_, rfl⟩
            obtain ⟨ab, rfl⟩ : ∃ ab, vb = .ref ab := by cases hb2; exact ⟨_, rfl⟩
            have hnn : nstB ba + 1 ≤ nstS (.either ba bb) ∧ nstB bb + 1 ≤ nstS (.either ba bb) := by simp only [nstS]; omega
            have hcc : cntB ba ≤ cntS (.either ba bb) ∧ cntB bb ≤ cntS (.either ba bb) := by simp only [cntS]; omega
            have hpl : (e.p ++ [(i : Int)]).length = e.p.length + 1 := by simp
            refine ⟨_, rfl, ?_⟩
            refine st.pathC (i := 10) (n := 0) rfl ht7 (by omega) fun t1 H9 M9 st m9 ht1 => ?_
            refine ⟨_, rfl, _, rfl, e.ba, xs, (i : Nat), .ref sa, rfl, rfl, hB6 st, atI_nat hsv, sa, _, 1, .ref aa, rfl, rfl, hTs6 st, atI_nat (j := 1) rfl, by show 2 ≤ sizeLine; decide, fun w1 nw1 => ?_⟩
            have eA : Ex M9 (upd M9 w1 (.tup [.ref t1, .ref aa])) := Ex.new (st.k.none nw1)
            have st := st.put (o := .tup [.ref t1, .ref aa]) nw1
            have hw1 : (upd M9 w1 (.tup [.ref t1, .ref aa])) w1 = some (.tup [.ref t1, .ref aa]) := upd_same
            have ht1 := eA _ _ ht1
            have ht8 := eA _ _ (m9 _ _ ht7)
            have hpe8 := eA _ _ (m9 _ _ hpe7)
            have em8 := em7.trans (m9.trans eA)
            generalize (upd M9 w1 (.tup [.ref t1, .ref aa])) = Ma at st hw1 ht1 ht8 hpe8 em8
            refine st.pathC (i := 10) (n := 1) rfl ht8 (by omega) fun t2 Hb Mb st mb ht2 => ?_
            refine ⟨_, rfl, _, rfl, e.ba, xs, (i : Nat), .ref sa, rfl, rfl, hB6 st, atI_nat hsv, sa, _, 2, .ref ab, rfl, rfl, hTs6 st, atI_nat (j := 2) rfl, by show 2 ≤ sizeLine; decide, fun w2 nw2 => ?_⟩
            have eB : Ex Mb (upd Mb w2 (.tup [.ref t2, .ref ab])) := Ex.new (st.k.none nw2)
            have st := st.put (o := .tup [.ref t2, .ref ab]) nw2
            have hw2 : (upd Mb w2 (.tup [.ref t2, .ref ab])) w2 = some (.tup [.ref t2, .ref ab]) := upd_same
            have ht2 := eB _ _ ht2
            have ht1 := eB _ _ (mb _ _ ht1)
            have hw1 := eB _ _ (mb _ _ hw1)
            have hpe8 := eB _ _ (mb _ _ hpe8)
            have em8 := em8.trans (mb.trans eB)
            generalize (upd Mb w2 (.tup [.ref t2, .ref ab])) = Mc at st hw2 ht2 ht1 hw1 hpe8 em8
            refine ⟨by show 2 ≤ sizeLine; decide, fun l nl => ?_⟩
            have st := st.own (o := .lst [.ref w1, .ref w2]) nl
            refine ⟨Wd, l, _, [.ref w1, .ref w2], rfl, rfl, st.w, upd_same, by rw [List.length_map]; exact sz_of (show ws.length + 2 ≤ 100000 by omega), fun nw nnw => ?_⟩
            have st := st.more (es := [⟨w1, t1, aa, e.p ++ [(i : Int)] ++ [0], ba⟩, ⟨w2, t2, ab, e.p ++ [(i : Int)] ++ [1], bb⟩]) nnw (fun y hy => by
              rcases List.mem_cons.mp hy with rfl | hy
              · exact ⟨hw1, ht1, ha, by simp only [List.length_append, List.length_cons, List.length_nil]; omega, by show cntB ba ≤ 100; omega⟩
              · rw [List.mem_singleton.mp hy]
                exact ⟨hw2, ht2, hb2, by simp only [List.length_append, List.length_cons, List.length_nil]; omega, by show cntB bb ≤ 100; omega⟩)
            obtain ⟨n1, n2⟩ := nxt (es := [⟨w1, t1, aa, e.p ++ [(i : Int)] ++ [0], ba⟩, ⟨w2, t2, ab, e.p ++ [(i : Int)] ++ [1], bb⟩]) rfl
            refine ⟨_, _, nw, Mc, _, _, rfl, em8, hpe8, ?_, n1, n2⟩
            rw [wL, List.map_append] at st
            exact st
          · refine ⟨_, rfl, _, rfl, e.ba, xs, (i : Nat), .ref sa, rfl, rfl, hB6 st, atI_nat hsv, sa, ys', 0, .str (wordS sp), rfl, rfl, hTs6 st, atI_nat (j := 0) w0, by show 2 ≤ sizeLine; decide, fun ll nll => ?_⟩
            have st := st.own (o := .lst [.str "loop", .str "block"]) nll
            refine ⟨.str (wordS sp), ["loop", "block"], ll, .str _, rfl, SqL.of upd_same, _, rfl, ite2 (fun hin => ?_) (fun hin => ?_)⟩
            · have hin : (["loop", "block"] : List Str).any (eqS (.str (wordS sp))) = true := by simpa using hin
              obtain ⟨bi, hps, hvl⟩ : ∃ bi, pushS sp (e.p ++ [(i : Int)]) = [(e.p ++ [(i : Int)], bi)] ∧ ∃ k ai, ys'.length = k + 1 ∧ ys'[k]? = some (.ref ai) ∧ Dq K G (.ref ai) (.list (bodyD bi)) ∧ nstB bi + 1 ≤ nstS sp ∧ cntB bi ≤ cntS sp := by
                cases sp with
                | loop bi =>
                  refine ⟨bi, by simp [pushS, innP], ?_⟩
                  cases hys with
                  | cons _ hys =>
                  cases hys with
                  | @cons v1 _ _ _ h1 hys =>
                  cases hys
                  obtain ⟨ai, rfl⟩ : ∃ ai, v1 = V.ref ai := by cases h1; exact ⟨_, rfl⟩
                  exact ⟨1, ai, rfl, rfl, h1, by simp only [nstS]; omega, by simp only [cntS]; omega⟩
                | block mk bi =>
                  refine ⟨bi, by simp [pushS, innP], ?_⟩
                  cases hys with
                  | cons _ hys =>
                  cases hys with
                  | cons _ hys =>
                  cases hys with
                  | @cons v1 _ _ _ h1 hys =>
                  cases hys
                  obtain ⟨ai, rfl⟩ : ∃ ai, v1 = V.ref ai := by cases h1; exact ⟨_, rfl⟩
                  exact ⟨2, ai, rfl, rfl, h1, by simp only [nstS]; omega, by simp only [cntS]; omega⟩
                | _ => exact absurd hin (by simp only [wordS]; decide +kernel)
              obtain ⟨kk, ai, hyl, hya, hdi, hni, hci⟩ := hvl
              have hpl : (e.p ++ [(i : Int)]).length = e.p.length + 1 := by simp
              refine ⟨_, rfl, .inl ⟨rfl, _, SqL.of st.w⟩, _, rfl, _, rfl, _, rfl, e.ba, xs, (i : Nat), .ref sa, rfl, rfl, hB6 st, atI_nat hsv, _, rfl, _, rfl, e.ba, xs, (i : Nat), .ref sa, rfl, rfl, hB6 st, atI_nat hsv, sa, ys', rfl, .inr (hTs6 st), _, _, rfl, rfl, ?_⟩
              have hidx : ((ys'.length : Nat) : Int) - 1 = (kk : Int) := by omega
              refine ⟨sa, ys', _, .ref ai, rfl, rfl, hTs6 st, by rw [hidx]; exact atI_nat hya, by show 2 ≤ sizeLine; decide, fun w1 nw1 => ?_⟩
              have eA : Ex M7 (upd M7 w1 (.tup [.ref t, .ref ai])) := Ex.new (st.k.none nw1)
              have st := st.put (o := .tup [.ref t, .ref ai]) nw1
              have hw1 : (upd M7 w1 (.tup [.ref t, .ref ai])) w1 = some (.tup [.ref t, .ref ai]) := upd_same
              have ht8 := eA _ _ ht7
              have hpe8 := eA _ _ hpe7
              have em8 := em7.trans eA
              generalize (upd M7 w1 (.tup [.ref t, .ref ai])) = Ma at st hw1 ht8 hpe8 em8
              refine ⟨Wd, _, .ref w1, rfl, rfl, st.w, by rw [List.length_map]; exact Nat.lt_of_le_of_lt hwl (by decide), ?_⟩
              have st := st.wait (e := ⟨w1, t, ai, e.p ++ [(i : Int)], bi⟩) ⟨hw1, ht8, hdi, by show (e.p ++ [(i : Int)]).length + 2 * nstB bi ≤ 8; omega, by show cntB bi ≤ 100; omega⟩
              obtain ⟨n1, n2⟩ := nxt (es := [⟨w1, t, ai, e.p ++ [(i : Int)], bi⟩]) hps.symm
              refine ⟨_, _, Wd, Ma, _, _, rfl, em8, hpe8, ?_, n1, n2⟩
              rw [wL, List.map_append] at st
              exact st
            · have hin : (["loop", "block"] : List Str).any (eqS (.str (wordS sp))) = false := by simpa using hin
              have hps : pushS sp (e.p ++ [(i : Int)]) = [] := by
                cases sp with
                | either _ _ => exact absurd rfl hc
                | loop _ => exact absurd hin (by simp only [wordS]; decide +kernel)
                | block _ _ => exact absurd hin (by simp only [wordS]; decide +kernel)
                | _ => rfl
              obtain ⟨n1, n2⟩ := nxt (es := []) hps.symm
              rw [List.append_nil] at n1 n2
              exact ⟨_, _, Wd, M7, ws, _, rfl, em7, hpe7, st, n1, n2⟩
        · rintro σ H5 ⟨o9, o10, Wd, M, ws, rs, rfl, em, hpe, st, hp, hm⟩
          rw [hlen, List.drop_of_length_le (Nat.le_refl _)] at hp hm
          rw [show allB [] e.b.length e.p = [] by simp [allB], List.append_nil] at hp
          simp only [cntB] at hm
          exact ⟨mW ws, by omega, (hWp _ _ _).mpr ⟨_, _, _, _, Wd, M, ws, rs, rfl, em, st, hp, rfl, by omega⟩⟩
    · rintro σ H' ⟨F, o2, o3, o4, o5, o6, o7, o8, o9, o10, Mf, rfl, kf, hF⟩
      have hl2 := dqa_len hy
      rw [List.length_map] at hl2
      rw [hl2, List.take_of_length_le (Nat.le_refl _)] at hF
      exact ⟨_, rfl, fin F _ H' (kf.ext eG) hF⟩
end
end Lx

set_option Elab.async false
set_option maxRecDepth 100000
set_option linter.all false
set_option maxHeartbeats 2000000
/-! KitR: a text in a list of any data. -/
namespace Kx
open PySem PySem.Spec PyProof.Rows L2 Evl SeqAt AutoSeq1 MeetsSeq
theorem any_cnt {α : Type} {p : α → Bool} {l : List α} : l.any p = decide (0 < l.countP p) := by
  rw [Bool.eq_iff_iff, decide_eq_true_eq, List.countP_pos_iff, List.any_eq_true]
/-- text in xs, xs any data -/
def rInD (K : PySem.W.Frag) : R2 := fun x y H Q => ∃ (z : Str) (p : Addr) (vs : List V) (ds : List PyData), x = .str z ∧ y = .ref p ∧ SqL K H p vs ∧ DqA K H vs ds ∧ Q (.bl (ds.any fun d => eqS d z)) H
theorem op_inTd {X : Cx} (hu : X.A.units + 1 < cLine) : OpR X (compareOp .In) (rInD X.K) := by
  intro pins s σ H x y v u Q I rx ry h
  obtain ⟨z, p, vs, ds, rfl, rfl, hs, hd, q⟩ := h
  cases ry
  obtain ⟨t, rfl⟩ := rx
  obtain ⟨its, rv, hl, _⟩ := I.list hs
  obtain ⟨as, hr⟩ := DqA.rd I hd rv
  obtain ⟨e, h1, h2⟩ := cnt_reads (A := X.A.in1) (z := z) (t := t) hu hr
  refine in_listAt e hl.isList (fun y hy => h1 y (by simpa using hy)) ⟨.bl _, H, I, rfl, ?_⟩
  rw [List.any_toArray, any_cnt, h2, ← any_cnt]
  exact q
theorem op_inTdK {X : Cx} {K : PySem.W.Frag} (hu : X.A.units + 1 < cLine) (h : X.K = K := by rfl) : OpR X (compareOp .In) (rInD K) := h ▸ op_inTd hu
end Kx

set_option Elab.async false
set_option maxRecDepth 100000
set_option linter.all false
set_option maxHeartbeats 4000000
namespace Lx
open PySem PySem.Spec PyProof.Rows L2 Evl Kx
section
variable {P : Program} {w : World} {K : PySem.W.Frag} {mg : Str → Option Value} {base : Heap} {f : Addr} {fd : FuncData}
abbrev sIo : Stmt := top 46
theorem scIo : FnScope ["value", "rights", "right"] ["value", "rights"] (defScope sIo) := ⟨rfl, rfl, rfl, by decide +kernel, rfl, by decide +kernel, by decide +kernel⟩
/-- the rights of rs that stand in ds, in the order of rs -/
def keptF (rs : List Str) (ds : List PyData) : List Str := rs.filter fun r => ds.any fun d => eqS d r
def ordF (rs : List Str) : PyData → Bool
  | .list ds => PyData.eqv (.list ds) (strsD (keptF rs ds))
  | _ => false
theorem lay_strs' : ∀ {ss : List Str}, (∀ s ∈ ss, PySem.PyData.strOk s = true) → PyData.canLayAll0 (ss.map PyData.str) = true
  | [], _ => by simp only [List.map_nil, PyData.canLayAll0]
  | s :: ss, h => by simp only [List.map_cons, PyData.canLayAll0, PyData.canLay0, h s (List.mem_cons_self ..), lay_strs' fun x hx => h x (List.mem_cons_of_mem _ hx), Bool.and_self]
theorem dep_strs' : ∀ ss : List Str, PyData.depthAll (ss.map PyData.str) ≤ 1
  | [] => by simp only [List.map_nil, PyData.depthAll]; omega
  | s :: ss => by
    have := dep_strs' ss
    simp only [List.map_cons, PyData.depthAll, PyData.depth]
    omega
theorem shaped_strs {ss : List Str} (h : ∀ s ∈ ss, PySem.PyData.strOk s = true) : SeqAt.shaped (strsD ss) = true := by
  unfold SeqAt.shaped strsD
  have := dep_strs' ss
  rw [show (PyData.list _).canLay0 = true by simp only [PyData.canLay0]; exact lay_strs' h, decide_eq_true (show (PyData.list (ss.map PyData.str)).depth ≤ 64 by simp only [PyData.depth]; omega)]
  rfl
structure spIo (K : PySem.W.Frag) (vs : List V) (H : Hp) (Q : VK) (E_ : XK) : Prop where
  mk' ::
  out : ∃ v d pr rs, vs = [v, .ref pr] ∧ Dq K H v d ∧ (isLst d = true → SeqAt.shaped d = true) ∧ H pr = some (.lst (rs.map V.str)) ∧ rs.length ≤ 4096 ∧ (∀ r ∈ rs, PySem.PyData.strOk r = true) ∧ ∀ H2, Ex H H2 → Q (.bl (ordF rs d)) H2
theorem ok_io (F : Fun K "is_ordered" "is_ordered" sIo f fd) (mI : mg "isinstance" = none) (mLi : mg "list" = none) : FnOk P w K mg base CX0 1 f fd ["value", "rights"] (spIo K) := by
  refine F.ok scIo (fun vs H Q E h => ?_) (fun cdv A outer s H vs Q E hr h => ?_)
  · obtain ⟨_, _, _, _, rfl, _⟩ := h
    rfl
  · obtain ⟨v, d, pr, rs, rfl, hd, hsh, hpr, hrl, hok, q⟩ := h
    have hu := hr.units
    have hu1 : (A.deeper (envOfC "is_ordered" (defScope sIo) s.heap.objs.size f cdv)).units + 1 < cLine := Nat.lt_of_le_of_lt (Nat.add_le_add_left (by decide : 1 ≤ 64) _) hr.units
    refine ⟨_, pss_one (ps_ret (pe_and (pe_callB (isi_S (K := K)) (by rfl) mI PyProof.Rows.boot_isinstance (pa_cons (pv 0) (pa_cons (pe_bltn (v := .ty "list") (by rfl) mLi (by decide +kernel) rfl) pa_nil)))
      (pe_one (pe_cmpR (op_eqD hu) (pv 0) (pe_lc (own := [("right", 2)]) (g := gName 2) rfl scIo.nd (pi_list (pv 1))
            (blkOk_by (own := [("right", 2)]) (N := ["value", "rights", "right"]) (sc := defScope sIo) (by decide +kernel))
            (fun _ _ _ _ _ => pg_name (i := 2) scIo.nd rfl (Or.inl rfl)) (fun _ _ _ _ _ => pts_one (pt_cmpR (op_inTdK (K := K) hu1) (pv 2) (pv 0) (by rfl))) (fun _ _ _ _ _ => pv 2)) (nomark _))))), ?_⟩
    refine ⟨_, rfl, isi_l hd ?_⟩
    have hdd := hd
    cases hd with
    | @lst a xs ds ha hx =>
      refine ⟨true, rfl, ?_⟩
      refine ⟨_, rfl, _, rfl, pr, rfl, ⟨_, SqL.of hpr⟩, fun D nD => ?_⟩
      refine lc_list (K := K) (a := pr) (xs := rs.map V.str) (fun i H' => Ex H H' ∧ H' D = some (.lst ((keptF (rs.take i) ds).map V.str))) ?_ (fun i H' _ ⟨x, _⟩ => SqL.of (x _ _ hpr)) ?_ ?_
      · exact ⟨Ex.new nD, upd_same⟩
      · rintro i x H' hx' ⟨ex, hD⟩
        obtain ⟨r, hr', rfl⟩ : ∃ r, rs[i]? = some r ∧ x = .str r := by
          rw [List.getElem?_map] at hx'
          cases h : rs[i]? with
          | none => rw [h] at hx'; cases hx'
          | some r => rw [h] at hx'; cases hx'; exact ⟨r, rfl, rfl⟩
        have tk : rs.take (i + 1) = rs.take i ++ [r] := by rw [List.take_succ, hr']; rfl
        refine ⟨rfl, _, rfl, _, rfl, r, a, xs, ds, rfl, rfl, SqL.of (ex _ _ ha), hx.mono (same_ex ex), ?_⟩
        refine ⟨_, rfl, ite2 (fun hin => ?_) (fun hin => ?_)⟩
        · refine ⟨_, rfl, _, hD, ?_, ?_, ?_⟩
          · rw [List.length_map]
            have h1 : (keptF (rs.take i) ds).length ≤ (rs.take i).length := List.length_filter_le _ _
            rw [List.length_take] at h1
            have e3z : (5000 : Nat) < sizeLine := by decide
            omega
          · intro b o hb
            rw [upd_ne (ne_of_none hb nD)]
            exact ex _ _ hb
          · rw [upd_same, tk]
            unfold keptF
            rw [List.filter_append, List.map_append]
            simp only [List.filter_cons, hin, if_true, List.filter_nil]
            rfl
        · refine ⟨ex, ?_⟩
          rw [hD, tk]
          unfold keptF
          have hf : (ds.any fun d => eqS d r) = false := by simpa using hin
          simp only [List.filter_append, List.filter_cons, hf, Bool.false_eq_true, if_false, List.filter_nil, List.append_nil]
      · rintro H' ⟨ex, hD⟩
        rw [List.length_map, List.take_of_length_le (Nat.le_refl _)] at hD
        have sk : SeqAt.shaped (strsD (keptF rs ds)) = true := shaped_strs fun s hs => hok s (List.mem_filter.mp hs).1
        exact ⟨.list ds, strsD (keptF rs ds), dp_of (hdd.mono (same_ex ex)) (shaped_noDict (hsh rfl)), dp_of (dq_strs hD) (shaped_noDict sk), hsh rfl, sk, q H' ex⟩
    | _ => exact ⟨false, rfl, q H (Ex.refl H)⟩
end
end Lx

set_option Elab.async false
set_option maxRecDepth 100000
set_option linter.all false
set_option maxHeartbeats 4000000
namespace Lx
open PySem PySem.Spec PyProof.Rows L2 Evl Kx
/-! ### parts may be shown, compared, spoilt -/
def wordsB : List Str := ["call", "tail", "check", "back", "either", "loop", "block"]
def shS (x : Str) : Bool := (PyData.str x).showable && decide ((reprText x).length ≤ 20)
theorem all_sh : ((rightsN ++ namesO ++ namesG ++ wordsB).all shS) = true := by decide +kernel
def ShowB (d : PyData) (n : Nat) : Prop := d.showable = true ∧ bnd d ≤ n
def ShowA (ds : List PyData) (n : Nat) : Prop := PyData.showableAll ds = true ∧ bndA ds ≤ n
theorem sh_of {x : Str} (h : x ∈ rightsN ∨ x ∈ namesO ∨ x ∈ namesG ∨ x ∈ wordsB) : ShowB (.str x) 20 := by
  have := List.all_eq_true.mp all_sh x (by
    simp only [List.mem_append]
    rcases h with h | h | h | h
    · exact .inl (.inl (.inl h))
    · exact .inl (.inl (.inr h))
    · exact .inl (.inr h)
    · exact .inr h)
  simp only [shS, Bool.and_eq_true, decide_eq_true_eq] at this
  exact ⟨this.1, by simp only [bnd]; exact this.2⟩
theorem sh_w {x : Str} (h : x ∈ wordsB) : ShowB (.str x) 20 := sh_of (.inr (.inr (.inr h)))
theorem shA_nil : ShowA [] 0 := ⟨by simp only [PyData.showableAll], by simp only [bndA]; omega⟩
theorem shA_cons {d : PyData} {ds : List PyData} {m n k : Nat} (h : ShowB d m) (hs : ShowA ds n) (e : m + 2 + n ≤ k) : ShowA (d :: ds) k :=
  ⟨by simp only [PyData.showableAll, h.1, hs.1, Bool.and_self], by have := h.2; have := hs.2; simp only [bndA]; omega⟩
theorem sh_lst {ds : List PyData} {n k : Nat} (hs : ShowA ds n) (e : n + 2 ≤ k) : ShowB (.list ds) k := ⟨by simp only [PyData.showable, hs.1], by have := hs.2; simp only [bnd]; omega⟩
theorem sh_tup {ds : List PyData} {n k : Nat} (hs : ShowA ds n) (e : n + 3 ≤ k) : ShowB (.tuple ds) k := ⟨by simp only [PyData.showable, hs.1], by have := hs.2; simp only [bnd]; omega⟩
theorem shA_all {m : Nat} : ∀ {ds : List PyData}, (∀ d ∈ ds, ShowB d m) → ShowA ds (ds.length * (m + 2))
  | [], _ => by rw [List.length_nil, Nat.zero_mul]; exact shA_nil
  | d :: ds, h => shA_cons (h d (List.mem_cons_self ..)) (shA_all fun x hx => h x (List.mem_cons_of_mem _ hx)) (by rw [List.length_cons, Nat.add_mul]; omega)
mutual
theorem sh_stp {rs ns : List Str} (hr : ∀ r ∈ rs, r ∈ rightsN) (hn : ∀ r ∈ ns, r ∈ namesG) : ∀ {mk : Bool} {s : Stp}, okS rs ns mk s = true → ShowB (stpD s) (62 * cntS s - 2)
  | _, .call n, h => by
    simp only [okS, decide_eq_true_eq] at h
    exact sh_tup (shA_cons (sh_w (by decide +kernel)) (shA_cons (sh_of (.inr (.inr (.inl (hn n h))))) shA_nil (Nat.le_refl _)) (Nat.le_refl _)) (by simp only [cntS]; omega)
  | _, .tail n, h => by
    simp only [okS, Bool.and_eq_true, decide_eq_true_eq] at h
    exact sh_tup (shA_cons (sh_w (by decide +kernel)) (shA_cons (sh_of (.inr (.inr (.inl (hn n h.1))))) shA_nil (Nat.le_refl _)) (Nat.le_refl _)) (by simp only [cntS]; omega)
  | _, .check r, h => by
    simp only [okS, decide_eq_true_eq] at h
    exact sh_tup (shA_cons (sh_w (by decide +kernel)) (shA_cons (sh_of (.inl (hr r h))) shA_nil (Nat.le_refl _)) (Nat.le_refl _)) (by simp only [cntS]; omega)
  | _, .back, h => sh_tup (shA_cons (sh_w (by decide +kernel)) shA_nil (Nat.le_refl _)) (by simp only [cntS]; omega)
  | _, .either a b, h => by
    simp only [okS, Bool.and_eq_true] at h
    exact sh_tup (shA_cons (sh_w (by decide +kernel)) (shA_cons (sh_lst (sh_body hr hn h.1) (Nat.le_refl _)) (shA_cons (sh_lst (sh_body hr hn h.2) (Nat.le_refl _)) shA_nil (Nat.le_refl _)) (Nat.le_refl _)) (Nat.le_refl _)) (by simp only [cntS]; omega)
  | _, .loop b, h => by
    simp only [okS] at h
    exact sh_tup (shA_cons (sh_w (by decide +kernel)) (shA_cons (sh_lst (sh_body hr hn h) (Nat.le_refl _)) shA_nil (Nat.le_refl _)) (Nat.le_refl _)) (by simp only [cntS]; omega)
  | _, .block m b, h => by
    simp only [okS] at h
    exact sh_tup (shA_cons (sh_w (by decide +kernel)) (shA_cons (m := 5) ⟨by simp only [PyData.showable], by simp only [bnd]; omega⟩ (shA_cons (sh_lst (sh_body hr hn h) (Nat.le_refl _)) shA_nil (Nat.le_refl _)) (Nat.le_refl _)) (Nat.le_refl _)) (by simp only [cntS]; omega)
theorem sh_body {rs ns : List Str} (hr : ∀ r ∈ rs, r ∈ rightsN) (hn : ∀ r ∈ ns, r ∈ namesG) : ∀ {mk : Bool} {b : List Stp}, Kx.okB rs ns mk b = true → ShowA (bodyD b) (62 * cntB b)
  | _, [], _ => by simp only [bodyD, cntB]; exact shA_nil
  | _, s :: r, h => by
    simp only [Kx.okB, Bool.and_eq_true] at h
    have := cnt_one s
    simp only [bodyD]
    exact shA_cons (sh_stp hr hn h.1) (sh_body hr hn h.2) (by simp only [cntB]; omega)
end
theorem sh_strs {ss : List Str} (h : ∀ s ∈ ss, ShowB (.str s) 20) (hl : ss.length ≤ 5) : ShowB (strsD ss) 200 :=
  sh_lst (shA_all fun d hd => by obtain ⟨s, hs, rfl⟩ := List.mem_map.mp hd; exact h s hs) (by rw [List.length_map]; omega)
theorem nd_len : ∀ {l m : List Str}, l.Nodup → (∀ x ∈ l, x ∈ m) → l.length ≤ m.length
  | [], m, _, _ => Nat.zero_le _
  | x :: l, m, h, s => by
    obtain ⟨h1, h2⟩ := List.nodup_cons.mp h
    have hx := s x (List.mem_cons_self ..)
    have := nd_len (m := m.erase x) h2 fun y hy => (List.mem_erase_of_ne fun e => h1 (by rw [← e]; exact hy)).mpr (s y (List.mem_cons_of_mem _ hy))
    rw [List.length_erase_of_mem hx] at this
    have := List.length_pos_of_mem hx
    rw [List.length_cons]
    omega
theorem Nice.show {q : Prt} (n : Nice q) : ShowB (prtD q) 100000 ∧ (prtD q).depth ≤ 20 := by
  have h1 : ShowB (strsD q.rs) 200 := sh_strs (fun r hr => sh_of (.inl (n.rm r hr))) n.rl
  have h2 : ShowB (.list (q.os.map ownD)) 5000 := sh_lst (shA_all (m := 300) fun d hd => by
    obtain ⟨o, ho, rfl⟩ := List.mem_map.mp hd
    obtain ⟨a, b, c⟩ := n.om o ho
    exact sh_tup (shA_cons (sh_of (.inr (.inl a))) (shA_cons (sh_strs (fun r hr => sh_of (.inl (n.rm r (c r hr)))) (Nat.le_trans (nd_len b c) n.rl)) shA_nil (Nat.le_refl _)) (Nat.le_refl _)) (by omega)) (by rw [List.length_map]; have := n.ol; omega)
  have h3 : ShowB (.list (q.fs.map fnD)) 50000 := sh_lst (shA_all (m := 7000) fun d hd => by
    obtain ⟨g, hg, rfl⟩ := List.mem_map.mp hd
    obtain ⟨a, b, c, _, e⟩ := n.fm g hg
    obtain ⟨o, ho, e2⟩ := List.mem_map.mp b
    refine sh_tup (shA_cons (sh_of (.inr (.inr (.inl a)))) (shA_cons (m := 20) (e2 ▸ sh_of (.inr (.inl (n.om o ho).1))) (shA_cons (sh_lst (sh_body n.rm (fun x hx => ?_) c) (Nat.le_refl _)) shA_nil (Nat.le_refl _)) (Nat.le_refl _)) (Nat.le_refl _)) (by omega)
    obtain ⟨g', hg', rfl⟩ := List.mem_map.mp hx
    exact (n.fm g' hg').1) (by rw [List.length_map]; have := n.fl; omega)
  refine ⟨sh_lst (shA_cons h1 (shA_cons h2 (shA_cons h3 shA_nil (Nat.le_refl _)) (Nat.le_refl _)) (Nat.le_refl _)) (by omega), ?_⟩
  have d1 := dep_strs q.rs
  have d2 : PyData.depthAll (q.os.map ownD) ≤ 4 := depA_of fun x hx => by
    obtain ⟨o, ho, rfl⟩ := List.mem_map.mp hx
    exact dep_own o
  have d3 : PyData.depthAll (q.fs.map fnD) ≤ 13 := depA_of fun x hx => by
    obtain ⟨g, hg, rfl⟩ := List.mem_map.mp hx
    exact dep_fn (n.fm g hg).2.2.2.1
  simp only [prtD, PyData.depth, PyData.depthAll]
  simp only [strsD, PyData.depth] at d1
  simp only [strsD, PyData.depth]
  omega
theorem Nice.shaped {q : Prt} (n : Nice q) : SeqAt.shaped (prtD q) = true := by
  obtain ⟨s1, s2, s3⟩ := n.good.sh
  have hd := n.show.2
  unfold SeqAt.shaped at *
  simp only [Bool.and_eq_true, decide_eq_true_eq] at *
  exact ⟨by simp only [prtD, PyData.canLay0, PyData.canLayAll0, Bool.and_eq_true]; simp only [strsD, PyData.canLay0] at *; exact ⟨s1.1, s2.1, s3.1, trivial⟩, by omega⟩
/-! ### spoilt -/
end Lx

set_option Elab.async false
set_option maxRecDepth 100000
set_option linter.all false
set_option maxHeartbeats 4000000
namespace Lx
open PySem PySem.Spec PyProof.Rows L2 Evl Kx
/-- a while loop whose test is known to be read at every state -/
theorem while_ev {c : TT} {tb : TS} {D : Ends} {σ : L2.St} {H : Hp} (Pv : L2.St → Hp → Prop) (μ : L2.St → Hp → Nat) (h0 : Pv σ H)
    (hs : ∀ σ H, Pv σ H → ∃ G b, Ex G H ∧ EvT c σ G b ∧ ∀ H1, Ex H H1 → if b = true then tb { D with nx := fun σ' H' => Pv σ' H' ∧ μ σ' H' < μ σ H, ct := fun σ' H' => Pv σ' H' ∧ μ σ' H' < μ σ H, bk := D.nx } σ H1 else D.nx σ H1) : tWhile c tb D σ H := by
  refine ⟨fun m σ H => m = μ σ H ∧ Pv σ H, ⟨_, rfl, h0⟩, ?_⟩
  rintro m σ H ⟨rfl, p⟩
  obtain ⟨G, b, e, h, k⟩ := hs σ H p
  refine h H e _ fun H1 e1 => ?_
  have k := k H1 e1
  cases b with
  | true => exact ⟨_, fun σ' H' ⟨p', l⟩ => ⟨_, l, rfl, p'⟩, k⟩
  | false => exact k
structure spPrt2 (K : PySem.W.Frag) (vs : List V) (H : Hp) (Q : VK) (E_ : XK) : Prop where
  mk' ::
  out : ∃ (g : Addr) (n : Nat) (G : Hp) (many most : Nat), vs = [.ref g, .int many, .int most] ∧ 1 ≤ many ∧ many ≤ 4 ∧ most ≤ 4 ∧ GenAt H g n ∧ n < 2 ^ 39 ∧ Ex G H ∧ G g = none ∧ Sys G ∧
  ∀ (p : Addr) G2 H2 (pt : Prt), KS g G H G2 H2 (n + 4000) → Dq K G2 (.ref p) (prtD pt) → PrtOk many pt → Q (.ref p) H2
theorem no_calls : (Txt.count (PyData.list []).shown "'call'" : Int) + Txt.count (PyData.list []).shown "'tail'" = 0 := by decide +kernel
def r3in : ∀ r ∈ rights3, r ∈ rightsN := fun r hr => List.mem_append.mpr (.inl hr)
def n4in : ∀ r ∈ names4, r ∈ namesG := fun r hr => List.mem_append.mpr (.inl hr)
section
variable {P : Program} {w : World} {K : PySem.W.Frag} {mg : Str → Option Value} {base : Heap} {f : Addr} {fd : FuncData}
theorem ok_prt2 {fR fT fO fB fC : Addr} {fdR fdT fdO fdB fdC : FuncData} (F : Fun K "_law_parts" "_law_parts" sPrt f fd)
    (FR : FnOk P w K mg base CX0 2 fR fdR ["generator", "bound"] spRnd) (mR : mg "_law_random" = some (.ref fR)) (kR : PySem.W.keepIn K (.ref fR) = true) (bR : Binds K fdR ["generator", "bound"] [])
    (FT : FnOk P w K mg base CX0 3 fT fdT ["generator"] spRts) (mT : mg "_law_rights_drawn" = some (.ref fT)) (kT : PySem.W.keepIn K (.ref fT) = true) (bT : Binds K fdT ["generator"] [])
    (FO : FnOk P w K mg base CX0 3 fO fdO ["generator", "rights"] (spOws K)) (mO : mg "_law_owners_drawn" = some (.ref fO)) (kO : PySem.W.keepIn K (.ref fO) = true) (bO : Binds K fdO ["generator", "rights"] [])
    (FB : FnOk P w K mg base CX0 8 fB fdB ["generator", "rights", "names", "deep", "marked", "most"] (spBod K 2)) (mB : mg "_law_body_drawn" = some (.ref fB)) (kB' : PySem.W.keepIn K (.ref fB) = true) (bB : Binds K fdB ["generator", "rights", "names", "deep", "marked", "most"] [])
    (FC : FnOk P w K mg base CX0 4 fC fdC ["body"] (spCnt K 2)) (mC : mg "_law_count" = some (.ref fC)) (kC : PySem.W.keepIn K (.ref fC) = true) (bC : Binds K fdC ["body"] [])
    (mL : mg "len" = none) (mRep : mg "repr" = none) (mInt : mg "int" = none) : GnOk P w K mg base CX0 9 f fd ["generator", "many", "most"] (spPrt2 K) := by
  refine gn_ok F scPrt (fun vs H Q E h => ?_) (fun cdv A outer s H vs Q E hg0 hr h => ?_)
  · obtain ⟨_, _, _, _, _, rfl, _⟩ := h
    rfl
  · obtain ⟨g, n, G, many, most, rfl, hm1, hm4, hmo, hg, hn, e, n0, sy, q⟩ := h
    have hu := hr.units
    have hgu : (A.deeper (envOfC "_law_parts" (defScope sPrt) s.heap.objs.size f cdv)).guards = some [] := hg0
    have r2 := hr.mono (j := 2) (by omega)
    have r3 := hr.mono (j := 3) (by omega)
    have r4 := hr.mono (j := 4) (by omega)
    refine ⟨_, pss_cons (ps_set (i := 3) scPrt.nd rfl (Or.inl rfl) (pe_call FT r3 rfl mT kT bT .nil pass0 (pa_cons (pv 0) pa_nil)))
      (pss_cons (ps_par (i := 4) (j := 5) (by rfl) scPrt.nd rfl rfl (by decide) rfl rfl (pa_cons (pe_call FO r3 rfl mO kO bO .nil pass0 (pa_cons (pv 0) (pa_cons (pv 3) pa_nil)))
          (pa_cons (pe_slice sl_list (pe_lst (pa_cons pe_str (pa_cons pe_str (pa_cons pe_str (pa_cons pe_str pa_nil))))) po_none (po_some (pv 1))) pa_nil)) (by rfl))
      (pss_cons (ps_set (i := 6) scPrt.nd rfl (Or.inl rfl) (pe_lst pa_nil))
      (pss_cons (ps_for PassesOwn.never rfl (pi_list (pv 5)) (pg_name (i := 7) scPrt.nd rfl (Or.inl rfl))
        (pss_cons (ps_set (i := 8) scPrt.nd rfl (Or.inl rfl) (pe_call FB hr rfl mB kB' bB .nil pass0 (pa_cons (pv 0) (pa_cons (pv 3) (pa_cons (pe_op op_cat (pe_slice sl_list (pv 5) (po_some pe_int) po_none) (pe_slice sl_list (pv 5) po_none (po_some pe_int))) (pa_cons pe_int (pa_cons pe_bl (pa_cons (pv 2) pa_nil))))))))
        (pss_cons (ps_while PassesOwn.never (PW.pt (pw_or (pt_cmpR op_gt (pe_call FC r4 rfl mC kC bC .nil pass0 (pa_cons (pv 8) pa_nil)) pe_int (nomark _)) (pw_or1 (pt_cmpR op_gt (pe_op op_add (pe_m1 PySem.F.slot_str_count PySem.F.type_str_count mt_count (pe_callB (call_repr hgu hu) (by rfl) mRep PyProof.Rows.boot_repr (pa_cons (pv 8) pa_nil)) pe_str) (pe_m1 PySem.F.slot_str_count PySem.F.type_str_count mt_count (pe_callB (call_repr hgu hu) (by rfl) mRep PyProof.Rows.boot_repr (pa_cons (pv 8) pa_nil)) pe_str)) (pe_op op_add pe_int (pe_callTy call_int1 (by rfl) mInt (by decide +kernel) (pa_cons (pe_cmpR op_lt (pv 1) pe_int (nomark _)) pa_nil))) (nomark _))))) (pss_one (ps_set (i := 8) scPrt.nd rfl (Or.inl rfl) (pe_slice sl_list (pv 8) po_none (po_some (pe_un un_neg pe_int))))))
        (pss_one (ps_expr (pe_bm PySem.F.plainAttrs_list PySem.F.slot_list_append PySem.F.type_list_append mt_append (pv 6) (pa_cons (pe_tup (pa_cons (pv 7) (pa_cons (pe_ix ix_tup (pe_ix ix_list (pv 4) (pe_call FR r2 rfl mR kR bR .nil pass0 (pa_cons (pv 0) (pa_cons (pe_callB call_len_seq (by rfl) mL PySem.boot_len (pa_cons (pv 4) pa_nil)) pa_nil))) (fun _ _ => rfl)) pe_int (fun _ _ => rfl)) (pa_cons (pv 8) pa_nil)))) pa_nil)))))))
      (pss_one (ps_ret (pe_lst (pa_cons (pv 3) (pa_cons (pv 4) (pa_cons (pv 6) pa_nil)))))))))
      , ?_⟩
    have e39 : (2 : Nat) ^ 39 = 549755813888 := by decide
    have e40 : (2 : Nat) ^ 40 = 1099511627776 := by decide
    have e49 : (2 : Nat) ^ 49 = 562949953421312 := by decide
    have e50 : (2 : Nat) ^ 50 = 1125899906842624 := by decide
    have e3z : (5000 : Nat) < sizeLine := by decide
    have k0 := KS.start e hg n0
    refine ⟨_, rfl, rts_k k0 (by omega) fun pr G1 H1 c k1 x1 h1 hc => ?_⟩
    have rl : (rights3.take (c + 1)).length = c + 1 := by
      rw [List.length_take]
      have : rights3.length = 3 := rfl
      omega
    refine ⟨_, rfl, _, rfl, ows_k k1 (by omega) h1 (by omega) ((List.take_sublist _ _).nodup (by decide)) fun po G2 H2 os k2 x2 ho hos => ?_⟩
    refine ⟨by show 4 ≤ sizeLine; decide, fun p4 np4 => ⟨_, rfl, _, rfl, p4, _, rfl, SqL.of upd_same, fun pn npn => ⟨_, _, rfl, ?_⟩⟩⟩
    have hcut : cutV [V.str "main", V.str "f", V.str "g", V.str "h"] none (some (many : Int)) = (names4.take many).map V.str := by
      match many, hm1, hm4 with
      | 1, _, _ => rfl
      | 2, _, _ => rfl
      | 3, _, _ => rfl
      | 4, _, _ => rfl
    have hc1 : cutV ((names4.take many).map V.str) (some 1) none = ((names4.take many).drop 1).map V.str := by
      match many, hm1, hm4 with
      | 1, _, _ => rfl
      | 2, _, _ => rfl
      | 3, _, _ => rfl
      | 4, _, _ => rfl
    have hc2 : cutV ((names4.take many).map V.str) none (some 1) = ((names4.take many).take 1).map V.str := by
      match many, hm1, hm4 with
      | 1, _, _ => rfl
      | 2, _, _ => rfl
      | 3, _, _ => rfl
      | 4, _, _ => rfl
    have hn4 : ((names4.take many).map V.str).length = many := by
      rw [List.length_map, List.length_take]
      have : names4.length = 4 := rfl
      omega
    have hl2 : ((names4.take many).drop 1 ++ (names4.take many).take 1).length = many := by
      rw [List.length_append, List.length_drop, List.length_take (i := 1)]
      rw [List.length_map] at hn4
      omega
    have rn : RN (rights3.take (c + 1)) ((names4.take many).drop 1 ++ (names4.take many).take 1) :=
      ⟨(fun z => by rw [z] at rl; cases rl), (by omega), (fun z => by rw [z] at hl2; simp only [List.length_nil] at hl2; omega), (by omega)⟩
    have hin : ∀ x ∈ (names4.take many).drop 1 ++ (names4.take many).take 1, x ∈ names4.take many := fun x hx => by
      rcases List.mem_append.mp hx with hx | hx
      · exact List.mem_of_mem_drop hx
      · exact List.mem_of_mem_take hx
    rw [hcut] at *
    have k3 := (k2.own np4).new (o := .lst ((names4.take many).map V.str)) npn
    refine ⟨by show 0 ≤ sizeLine; decide, fun pf npf => ?_⟩
    have fg : pf ≠ g := k3.ne npf
    have k4 := k3.own (o := .lst []) npf
    have gf := k3.gnone npf
    have g3n : (upd G2 pn (.lst ((names4.take many).map V.str))) pn = some (.lst ((names4.take many).map V.str)) := upd_same
    have g3 : Ex G2 (upd G2 pn (.lst ((names4.take many).map V.str))) := Ex.new ((k2.own np4).gnone npn)
    have g3r : (upd G2 pn (.lst ((names4.take many).map V.str))) pr = some (.lst ((rights3.take (c + 1)).map V.str)) := g3 _ _ (x2.gg _ _ h1)
    have g3o : Dq K (upd G2 pn (.lst ((names4.take many).map V.str))) (.ref po) (.list (os.map ownD)) := ho.mono (same_ex g3)
    generalize (upd G2 pn (.lst ((names4.take many).map V.str))) = G3 at *
    have g3o' := g3o
    cases g3o with
    | @lst _ oxs _ hpo hox =>
    have hol : oxs.length = os.length := by
      have := dqa_len hox
      rw [List.length_map] at this
      exact this
    refine ⟨_, rfl, pn, rfl, ⟨_, SqL.of (k4.x.gh _ _ g3n)⟩, ?_⟩
    refine for_list (K := K) (a := pn) (xs := (names4.take many).map V.str) (fun i σ H' => ∃ (vs : List V) (fs : List Fn) (G' : Hp) (a b : Option V), σ = [some (.ref g), some (.int many), some (.int most), some (.ref pr), some (.ref po), some (.ref pn), some (.ref pf), a, b] ∧
        KS g G H G' H' (n + 42 + i * 756) ∧ Ex G3 G' ∧ H' pf = some (.lst vs) ∧ G' pf = none ∧ DqA K G' vs (fs.map fnD) ∧ fs.map (·.1) = (names4.take many).take i ∧ ∀ f ∈ fs, fnOk (rights3.take (c + 1)) os (names4.take many) f) ?_
      (fun i σ H' _ ⟨_, _, _, _, _, _, k, x, _⟩ => SqL.of (k.x.gh _ _ (x _ _ g3n))) ?_ ?_
    · exact ⟨[], [], G3, none, none, rfl, k4, Ex.refl _, upd_same, gf, .nil, rfl, fun f hf => by cases hf⟩
    · rintro i x σ H' hx ⟨vs, fs, G', a, b, rfl, k, x3, hf, gf', hd, hfs, hok⟩
      have hi : i < many := by
        have := (List.getElem?_eq_some_iff.mp hx).1
        omega
      obtain ⟨nm, hnm, rfl⟩ : ∃ nm, (names4.take many)[i]? = some nm ∧ x = .str nm := by
        rw [List.getElem?_map] at hx
        cases hz : (names4.take many)[i]? with
        | none => rw [hz] at hx; cases hx
        | some nm => rw [hz] at hx; exact ⟨nm, rfl, (Option.some.inj hx).symm⟩
      have hi4 : i * 756 ≤ 4 * 756 := Nat.mul_le_mul_right _ (by omega)
      have g4n := x3 _ _ g3n
      refine ⟨_, rfl, _, rfl, _, rfl, _, rfl, pn, _, rfl, SqL.of (k.x.gh _ _ g4n), fun pa npa => ⟨_, rfl, _, rfl, pn, (names4.take many).map V.str, rfl, SqL.of ?_, fun pb npb => ?_⟩⟩
      · rw [upd_ne (ne_of_none (k.x.gh _ _ g4n) npa)]
        exact k.x.gh _ _ g4n
      rw [hc1] at npb
      rw [hc1, hc2]
      refine ⟨pa, pb, _, _, rfl, rfl, by rw [upd_ne (ne_of_none upd_same npb)]; exact upd_same, upd_same, ?_, fun pc npc => ?_⟩
      · rw [List.length_map, List.length_map, ← List.length_append, hl2]
        omega
      rw [← List.map_append]
      have k5 := ((k.own npa).own npb).new (o := .lst (((names4.take many).drop 1 ++ (names4.take many).take 1).map V.str)) npc
      have gc := (((k.own npa).own npb).gnone npc)
      have g5 : Ex G' (upd G' pc (.lst (((names4.take many).drop 1 ++ (names4.take many).take 1).map V.str))) := Ex.new gc
      have hfa : pf ≠ pa := ne_of_none hf npa
      have hfb : pf ≠ pb := ne_of_none (by rw [upd_ne hfa]; exact hf) npb
      have hfc : pf ≠ pc := ne_of_none (by rw [upd_ne hfb, upd_ne hfa]; exact hf) npc
      refine ⟨_, rfl, bod_k (most := most) (d := 2) k5 (by omega) (by decide) (by decide) hmo (g5 _ _ (x3 _ _ g3r)) upd_same rn fun p6 G6 H6 b6 k6 x6 hb ok6 nd6 len6 cnt6 => ?_⟩
      have ck : kB 2 most ≤ 754 := by
        have : most * kS 2 ≤ 4 * kS 2 := Nat.mul_le_mul_right _ hmo
        have e : kS 2 = 188 := rfl
        simp only [kB]
        omega
      have cc : cntB b6 ≤ 84 := by
        have : most * cS 2 ≤ 4 * cS 2 := Nat.mul_le_mul_right _ hmo
        have e : cS 2 = 21 := rfl
        omega
      have hf6 : H6 pf = some (.lst vs) := x6.hh _ _ fg (by rw [upd_ne hfc, upd_ne hfb, upd_ne hfa]; exact hf)
      have gf6 : G6 pf = none := (x6.ag _ _ (show _ = some (HO.lst vs) by rw [upd_ne hfc, upd_ne hfb, upd_ne hfa]; exact hf)).trans (by rw [upd_ne hfc]; exact gf')
      have x46 : Ex G' G6 := g5.trans x6.gg
      have syG : Sys G' := sy.mono (same_ex (k0.x.gg.trans ((k4.x.gg).trans x3)))
      refine while_ev (fun σ H7 => ∃ (p7 : Addr) (G7 : Hp) (b7 : List Stp), σ = [some (.ref g), some (.int many), some (.int most), some (.ref pr), some (.ref po), some (.ref pn), some (.ref pf), some (.str nm), some (.ref p7)] ∧
          KS g G H G7 H7 (n + 42 + i * 756 + 754) ∧ Ex G' G7 ∧ H7 pf = some (.lst vs) ∧ G7 pf = none ∧ Dq K G7 (.ref p7) (.list (bodyD b7)) ∧ okB (rights3.take (c + 1)) ((names4.take many).drop 1 ++ (names4.take many).take 1) false b7 = true ∧ nstB b7 ≤ 2 ∧ cntB b7 ≤ 84)
        (fun σ H7 => match σ[8]? with
          | some (some (V.ref p)) => match H7 p with
            | some (HO.lst xs) => xs.length
            | _ => 0
          | _ => 0) ?_ ?_
      · exact ⟨p6, G6, b6, rfl, k6.le (by omega), x46, hf6, gf6, hb, ok6, nd6, cc⟩
      · rintro σ H7 ⟨p7, G7, b7, rfl, k7, x7, hf7, gf7, hb7, ok7, nd7, cc7⟩
        have hb7' := hb7
        have sy7 : Sys G7 := syG.mono (same_ex x7)
        have sb := sh_body (rs := rights3.take (c + 1)) (ns := (names4.take many).drop 1 ++ (names4.take many).take 1) (fun r hr => r3in r (List.mem_of_mem_take hr)) (fun r hr => n4in r (List.mem_of_mem_take (hin r hr))) ok7
        have sl : ShowB (.list (bodyD b7)) 10000 := sh_lst sb (by omega)
        have sw1 := sl.1
        have sw2 : (PyData.list (bodyD b7)).shown.length ≤ sizeLine := Nat.le_trans (shown_le _) (Nat.le_trans sl.2 (by decide))
        have sdp : (PyData.list (bodyD b7)).depth ≤ 60 := by
          have := dep_body b7
          simp only [PyData.depth]
          omega
        cases hb7 with
        | @lst _ xs7 _ hp7 hx7 =>
        have hxl : xs7.length = b7.length := by
          have := dqa_len hx7
          rw [bodyD_map, List.length_map] at this
          exact this
        refine ⟨G7, decide ((12 : Int) < (cntB b7 : Int)) || decide ((1 : Int) + (if decide ((many : Int) < 3) then 1 else 0) < (Txt.count (PyData.list (bodyD b7)).shown "'call'" : Int) + Txt.count (PyData.list (bodyD b7)).shown "'tail'"), k7.x.gh,
          et_or (fun H1 e1 Q1 q1 => ⟨_, rfl, p7, G7, b7, rfl, e1, hb7', nd7, fun H8 e8 => ⟨_, _, rfl, rfl, _, rfl, q1 H8 e8⟩⟩) (fun _ H1 e1 Q1 q1 => ?_), fun H8 e8 => ite2 (fun hgt => ?_) (fun hgt => ?_)⟩
        · have y1 := sy7.mono (same_ex e1)
          have d1 := hb7'.mono (same_ex e1)
          refine ⟨_, rfl, .ref p7, _, rfl, y1, d1, sw1, sdp, sw2, ⟨_, rfl⟩, _, _, rfl, rfl, _, rfl, .ref p7, _, rfl, y1, d1, sw1, sdp, sw2, ⟨_, rfl⟩, _, _, rfl, rfl, _, _, rfl, rfl, _, rfl, _, _, rfl, rfl, .inr ⟨_, rfl, _, _, rfl, rfl, _, _, rfl, rfl, _, rfl, ?_⟩⟩
          exact q1 H1 (Ex.refl _)
        · have hne : b7 ≠ [] := fun z => by
            subst z
            rcases Bool.or_eq_true_iff.mp hgt with hgt | hgt
            · have := of_decide_eq_true hgt
              simp only [cntB] at this
              exact absurd this (by decide)
            · have := of_decide_eq_true hgt
              rw [show PyData.list (bodyD []) = PyData.list [] from rfl, no_calls] at this
              split at this <;> exact absurd this (by decide)
          refine ⟨_, rfl, _, rfl, _, rfl, p7, xs7, rfl, SqL.of (e8 _ _ (k7.x.gh _ _ hp7)), fun p9 np9 => ?_⟩
          have k8 := k7.step ⟨e8, Ex.refl _, k7.x.gh.trans e8, fun _ _ _ => rfl⟩
          have hn7 : xs7 ≠ [] := fun z => by
            rw [z] at hxl
            exact hne (List.eq_nil_of_length_eq_zero hxl.symm)
          have hp0 := List.length_pos_iff.mpr hn7
          have g9 := k8.gnone np9
          have hcl : cutV xs7 none (some (-1)) = xs7.take (xs7.length - 1) := cut_last xs7
          refine ⟨⟨p9, upd G7 p9 (.lst (cutV xs7 none (some (-1)))), b7.take (xs7.length - 1), rfl, k8.new np9, x7.trans (Ex.new g9), ?_, ?_, ?_, okB_take ok7, Nat.le_trans nstB_take nd7, Nat.le_trans cntB_takeLe cc7⟩, ?_⟩
          · rw [upd_ne (ne_of_none (e8 _ _ hf7) np9)]
            exact e8 _ _ hf7
          · rw [upd_ne (ne_of_none (e8 _ _ hf7) np9)]
            exact gf7
          · refine .lst upd_same ?_
            rw [hcl, bodyD_map, List.map_take, ← bodyD_map]
            exact dqa_take _ (hx7.mono (same_ex (Ex.new g9)))
          · show (match (upd H8 p9 (.lst (cutV xs7 none (some (-1))))) p9 with | some (.lst xs) => xs.length | _ => 0) < (match H7 p7 with | some (.lst xs) => xs.length | _ => 0)
            rw [upd_same, k7.x.gh _ _ hp7]
            show (cutV xs7 none (some (-1))).length < xs7.length
            rw [hcl, List.length_take]
            omega
        · have hcn : cntB b7 ≤ 12 := by
            have : ¬ ((12 : Int) < (cntB b7 : Int)) := fun z => hgt (Bool.or_eq_true_iff.mpr (.inl (decide_eq_true z)))
            omega
          have k8 := k7.step ⟨e8, Ex.refl _, k7.x.gh.trans e8, fun _ _ _ => rfl⟩
          have hpo7 := k8.x.gh _ _ (x7 _ _ (x3 _ _ hpo))
          have hos0 : 0 < os.length := List.length_pos_iff.mpr hos.ne
          refine ⟨_, rfl, .inl ⟨rfl, _, SqL.of (e8 _ _ hf7)⟩, _, rfl, _, rfl, _, rfl, _, rfl, po, oxs, rfl, .inl (SqL.of hpo7), rnd_k k8 (by omega) (by have := hos.le; omega) fun ri H9 hri s9 k9 => ?_⟩
          rw [hol] at hri
          obtain ⟨io, hio, rfl⟩ : ∃ z : Nat, z < os.length ∧ ri = (z : Int) := ⟨ri.toNat, by omega, by omega⟩
          obtain ⟨ov, hov⟩ : ∃ ov, oxs[io]? = some ov := ⟨_, List.getElem?_eq_getElem (by omega)⟩
          obtain ⟨od, hod, hovd⟩ := dqa_get hox hov
          rw [List.getElem?_map] at hod
          obtain ⟨ow, how, rfl⟩ : ∃ ow, os[io]? = some ow ∧ od = ownD ow := by
            cases hz : os[io]? with
            | none => rw [hz] at hod; cases hod
            | some ow => rw [hz] at hod; exact ⟨ow, rfl, (Option.some.inj hod).symm⟩
          have x9 : Ex G3 G7 := x3.trans x7
          obtain ⟨ta, ys, rfl, hT, hy⟩ : ∃ ta ys, ov = .ref ta ∧ SqT K G3 ta ys ∧ DqA K G3 ys [.str ow.1, strsD ow.2] := by
            cases hovd with
            | tup h1 h2 => exact ⟨_, _, rfl, h1, h2⟩
          obtain ⟨yr, rfl⟩ : ∃ yr, ys = .str ow.1 :: yr := by
            cases hy with
            | cons h1 h2 =>
              cases h1
              exact ⟨_, rfl⟩
          have hf9 : H9 pf = some (.lst vs) := by
            rw [s9 _ fg]
            exact e8 _ _ hf7
          have hvl : vs.length = i := by
            have e1 := dqa_len hd
            have e2 := congrArg List.length hfs
            rw [List.length_map, List.length_take] at e2
            rw [List.length_map] at e1 hn4
            omega
          refine ⟨po, _, _, .ref ta, rfl, rfl, SqL.of (k9.x.gh _ _ (x9 _ _ hpo)), atI_nat hov, ta, _, 0, .str ow.1, rfl, rfl, sqt_ex (same_ex (x9.trans k9.x.gh)) hT, atI_nat (j := 0) rfl, _, rfl, by show 3 ≤ sizeLine; decide, fun tp ntp => ?_⟩
          have ftp : pf ≠ tp := ne_of_none hf9 ntp
          have gtp := k9.gnone ntp
          have xt : Ex G' (upd G7 tp (.tup [.str nm, .str ow.1, .ref p7])) := x7.trans (Ex.new gtp)
          have gft : (upd G7 tp (.tup [.str nm, .str ow.1, .ref p7])) pf = none := by
            rw [upd_ne ftp]
            exact gf7
          refine ⟨pf, vs, .ref tp, rfl, rfl, by rw [upd_ne ftp]; exact hf9, by omega, vs ++ [.ref tp], fs ++ [(nm, ow.1, b7)], _, _, _, rfl, (((k9.new ntp).put (k3.hnone npf) gft fg).le ?_), x3.trans xt, upd_same, gft, ?_, ?_, ?_⟩
          · have : (i + 1) * 756 = i * 756 + 756 := Nat.succ_mul ..
            omega
          · rw [List.map_append]
            exact dqa_app (hd.mono (same_ex xt)) (.tup (.inl (.inl upd_same)) (.cons (.str _) (.cons (.str _) (.cons (.lst (Ex.new gtp _ _ hp7) (hx7.mono (same_ex (Ex.new gtp)))) .nil))))
          · rw [List.map_append, hfs, List.take_succ, hnm]
            rfl
          · intro f hf
            rcases List.mem_append.mp hf with hf | hf
            · exact hok f hf
            · rw [List.mem_singleton.mp hf]
              exact ⟨List.mem_map.mpr ⟨ow, List.mem_of_getElem? how, rfl⟩, okB_mono (fun _ z => z) hin ok7, nd7, hcn⟩
    · rintro σ H' ⟨vs, fs, G', a, b, rfl, k, x3, hf, gf', hd, hfs, hok⟩
      rw [hn4] at k hfs
      rw [List.take_of_length_le (by rw [List.length_map] at hn4; omega)] at hfs
      have kf := k.freeze (k3.hnone npf) gf' fg hf
      have x4 : Ex G3 (upd G' pf (.lst vs)) := x3.trans (Ex.new gf')
      refine ⟨_, rfl, _, rfl, _, rfl, by show 3 ≤ sizeLine; decide, fun p np => ?_⟩
      have xp : Ex (upd G' pf (.lst vs)) (upd (upd G' pf (.lst vs)) p (.lst [.ref pr, .ref po, .ref pf])) := Ex.new (kf.gnone np)
      refine q p _ _ ⟨rights3.take (c + 1), os, fs⟩ ((kf.new np).le (by omega)) (.lst upd_same (.cons (dq_strs (xp _ _ (x4 _ _ g3r))) (.cons (g3o'.mono (same_ex (x4.trans xp))) (.cons (.lst (xp _ _ upd_same) (hd.mono (same_ex ((Ex.new gf').trans xp)))) .nil)))) ⟨⟨c, hc, rfl⟩, hos, hfs, hok⟩
end
end Lx

set_option Elab.async false
set_option maxRecDepth 100000
set_option linter.all false
set_option maxHeartbeats 4000000
namespace Lx
open PySem PySem.Spec PyProof.Rows L2 Evl Kx
/-- a path with small numbers, not long -/
def Small (n k : Nat) (p : List Int) : Prop := (∀ z ∈ p, 0 ≤ z ∧ z ≤ (n : Int)) ∧ p.length ≤ k
theorem Small.mono {n k n' k' : Nat} {p : List Int} (h : Small n k p) (a : n ≤ n') (b : k ≤ k') : Small n' k' p := ⟨fun z hz => ⟨(h.1 z hz).1, by have := (h.1 z hz).2; omega⟩, Nat.le_trans h.2 b⟩
theorem Small.cons {n k : Nat} {p : List Int} {z : Int} (h : Small n k p) (h0 : 0 ≤ z) (h1 : z ≤ (n : Int)) : Small n (k + 1) (z :: p) := by
  refine ⟨fun y hy => ?_, by rw [List.length_cons]; exact Nat.succ_le_succ h.2⟩
  rcases List.mem_cons.mp hy with rfl | hy
  · exact ⟨h0, h1⟩
  · exact h.1 y hy
mutual
theorem allS_small : ∀ (s : Stp) (x : List Int × Stp), x ∈ allS s [] → Small (cntS s + 1) (2 * nstS s) x.1
  | .either a b, x, h => by
    simp only [allS, List.nil_append, List.mem_append] at h
    rcases h with h | h
    · rw [allB_at] at h
      obtain ⟨y, hy, rfl⟩ := List.mem_map.mp h
      have h1 := allB_small a 0 y hy
      refine ((h1.mono (n' := cntS (.either a b) + 1) (k' := 2 * nstB a + 1) (by simp only [cntS]; omega) (Nat.le_refl _)).cons (z := 0) (by decide) (by omega)).mono (Nat.le_refl _) (by simp only [nstS]; omega)
    · rw [allB_at] at h
      obtain ⟨y, hy, rfl⟩ := List.mem_map.mp h
      have h1 := allB_small b 0 y hy
      refine ((h1.mono (n' := cntS (.either a b) + 1) (k' := 2 * nstB b + 1) (by simp only [cntS]; omega) (Nat.le_refl _)).cons (z := 1) (by decide) (by omega)).mono (Nat.le_refl _) (by simp only [nstS]; omega)
  | .loop b, x, h => by
    simp only [allS] at h
    exact (allB_small b 0 x h).mono (by simp only [cntS]; omega) (by simp only [nstS]; omega)
  | .block _ b, x, h => by
    simp only [allS] at h
    exact (allB_small b 0 x h).mono (by simp only [cntS]; omega) (by simp only [nstS]; omega)
  | .call _, _, h => by simp [allS] at h
  | .tail _, _, h => by simp [allS] at h
  | .check _, _, h => by simp [allS] at h
  | .back, _, h => by simp [allS] at h
theorem allB_small : ∀ (b : List Stp) (i : Nat) (x : List Int × Stp), x ∈ allB b i [] → Small (i + cntB b + 1) (2 * nstB b + 1) x.1
  | [], _, _, h => by simp [allB] at h
  | s :: r, i, x, h => by
    have hc := cnt_one s
    simp only [allB, List.nil_append, List.mem_cons, List.mem_append] at h
    rcases h with rfl | h | h
    · exact ⟨fun z hz => by rw [List.mem_singleton.mp hz]; omega, by simp⟩
    · rw [allS_at] at h
      obtain ⟨y, hy, rfl⟩ := List.mem_map.mp h
      have h1 := allS_small s y hy
      refine ((h1.mono (n' := i + cntB (s :: r) + 1) (k' := 2 * nstS s) (by simp only [cntB]; omega) (Nat.le_refl _)).cons (z := (i : Int)) (by omega) (by omega)).mono (Nat.le_refl _) (by simp only [nstB]; omega)
    · exact (allB_small r (i + 1) x h).mono (by simp only [cntB]; omega) (by simp only [nstB]; omega)
end
theorem mem_every {fs : List Fn} {x : Str × List Int × Stp} : x ∈ everyF fs ↔ ∃ g ∈ fs, x.1 = g.1 ∧ (x.2.1, x.2.2) ∈ allB g.2.2 0 [] := by
  unfold everyF
  constructor
  · intro h
    obtain ⟨g, hg, h⟩ := List.mem_flatMap.mp h
    obtain ⟨y, hy, rfl⟩ := List.mem_map.mp h
    exact ⟨g, hg, rfl, hy⟩
  · rintro ⟨g, hg, e, h⟩
    refine List.mem_flatMap.mpr ⟨g, hg, List.mem_map.mpr ⟨_, h, ?_⟩⟩
    rw [← e]
theorem every_place {fs : List Fn} {n : Str} {p : List Int} {s : Stp} (h : placeF fs n p = some s) : (n, p, s) ∈ everyF fs := by
  unfold placeF at h
  obtain ⟨g, hg, hs⟩ := Option.bind_eq_some_iff.mp h
  have h2 := List.find?_some hg
  exact mem_every.mpr ⟨g, List.mem_of_find?_eq_some hg, (of_decide_eq_true h2).symm, (onF_all _ _ _).mp hs⟩
theorem find_nodup {n : Str} {g : Fn} : ∀ {fs : List Fn}, (fs.map (·.1)).Nodup → g ∈ fs → n = g.1 → fs.find? (fun g => decide (g.1 = n)) = some g
  | [], _, hg, _ => nomatch hg
  | a :: fs, hn, hg, e => by
    rw [List.map_cons] at hn
    obtain ⟨n1, n2⟩ := List.nodup_cons.mp hn
    rcases List.mem_cons.mp hg with rfl | hg
    · rw [List.find?_cons_of_pos (p := fun g : Fn => decide (g.1 = n)) (by simp [e])]
    · have hne : ¬ a.1 = n := fun z => n1 (by rw [z, e]; exact List.mem_map.mpr ⟨g, hg, rfl⟩)
      rw [List.find?_cons_of_neg (p := fun g : Fn => decide (g.1 = n)) (by simpa using hne)]
      exact find_nodup n2 hg e
theorem place_every {fs : List Fn} {x : Str × List Int × Stp} (hn : (fs.map (·.1)).Nodup) (h : x ∈ everyF fs) : placeF fs x.1 x.2.1 = some x.2.2 := by
  obtain ⟨g, hg, e, h⟩ := mem_every.mp h
  unfold placeF
  rw [find_nodup hn hg e]
  exact (onF_all _ _ _).mpr h
theorem sh_int {z : Int} (h0 : 0 ≤ z) (h1 : z ≤ 102) : ShowB (.int z) 104 := by
  have := Nat.log2_le_self z.natAbs
  refine ⟨?_, ?_⟩
  · simp only [PyData.showable, decide_eq_true_eq]
    omega
  · simp only [bnd]
    omega
theorem sh_pt {p : List Int} (h : Small 102 9 p) : ShowB (ptD p) 1000 := by
  refine sh_tup (n := 954) ?_ (by omega)
  have := shA_all (m := 104) (ds := p.map PyData.int) (fun d hd => by
    obtain ⟨z, hz, rfl⟩ := List.mem_map.mp hd
    exact sh_int (h.1 z hz).1 (by have := (h.1 z hz).2; omega))
  refine ⟨this.1, Nat.le_trans this.2 ?_⟩
  have h2 := h.2
  rw [List.length_map]
  omega
theorem every_small {fs : List Fn} (hf : ∀ g ∈ fs, nstB g.2.2 ≤ 4 ∧ cntB g.2.2 ≤ 100) {x : Str × List Int × Stp} (h : x ∈ everyF fs) : Small 102 9 x.2.1 := by
  obtain ⟨g, hg, _, h⟩ := mem_every.mp h
  obtain ⟨h1, h2⟩ := hf g hg
  exact (allB_small _ _ _ h).mono (by omega) (by omega)
theorem sh_plc {x : Str × List Int} (h1 : x.1 ∈ namesG) (h2 : Small 102 9 x.2) : ShowB (plcD x) 1100 :=
  sh_tup (shA_cons (sh_of (.inr (.inr (.inl h1)))) (shA_cons (sh_pt h2) shA_nil (Nat.le_refl _)) (Nat.le_refl _)) (by omega)
end Lx

set_option Elab.async false
set_option maxRecDepth 100000
set_option linter.all false
set_option maxHeartbeats 4000000
namespace Lx
open PySem PySem.Spec PyProof.Rows L2 Evl Kx
/-- statements that are never reached -/
theorem pss_no {X : Cx} {ss : List Stmt} : PSs X ss (fun _ _ _ => False) := ⟨fun _ _ _ _ _ _ h => h.elim⟩
section
variable {P : Program} {w : World} {K : PySem.W.Frag} {mg : Str → Option Value} {base : Heap} {f : Addr} {fd : FuncData}
abbrev sNpl : Stmt := top 45
theorem scNpl : FnScope ["program", "value", "words", "step"] ["program", "value", "words"] (defScope sNpl) := ⟨rfl, rfl, rfl, by decide +kernel, rfl, by decide +kernel, by decide +kernel⟩
/-- no place for a step with one of the words -/
def noPl (fs : List Fn) (ws : List Str) (d : PyData) : Prop := ∀ s, stepOf fs d = some s → ws.any (eqS (.str (wordS s))) = false
structure spNpl (K : PySem.W.Frag) (C CA : Addr) (n : Nat) (vs : List V) (H : Hp) (Q : VK) (E : XK) : Prop where
  mk' ::
  out : ∃ pp q v d wa ws, vs = [.ref pp, v, .ref wa] ∧ ProgAt K C H pp q ∧ Dq K H v d ∧ spotL d ∧ SqT K H wa (ws.map V.str) ∧ (∀ g ∈ q.fs, nstB g.2.2 ≤ n) ∧
    ((noPl q.fs ws d ∧ Refuse H E CA v) ∨ ∃ s, stepOf q.fs d = some s ∧ ws.any (eqS (.str (wordS s))) = true ∧ ∀ H2, Ex H H2 → Q .non H2)
theorem refuse_mono {H H2 : Hp} {E : XK} {c : Addr} {v : V} (e : Ex H H2) (h : Refuse H E c v) : Refuse H2 E c v := fun H3 e3 => h H3 (e.trans e3)
theorem ok_npl {C CA fI fK : Addr} {n : Nat} {fdI fdK : FuncData} (F : Fun K "need_place" "need_place" sNpl f fd) (TA : XCls P w K mg "InvalidPlace" "value" CA fI fdI)
    (FK : FnOk P w K mg base CX0 (n + 4) fK fdK ["program", "value"] (spKs K C n)) (mK : mg "kept_step" = some (.ref fK)) (kK : PySem.W.keepIn K (.ref fK) = true) (bK : Binds K fdK ["program", "value"] []) :
    FnOk P w K mg base (L2.CX P w) (n + 5) f fd ["program", "value", "words"] (spNpl K C CA n) := by
  refine F.okX scNpl (fun vs H Q E h => ?_) (fun cdv A outer s H vs Q E hr h => ?_)
  · obtain ⟨_, _, _, _, _, _, rfl, _⟩ := h
    rfl
  · obtain ⟨pp, q, v, d, wa, ws, rfl, hP, hv, hsl, hW, hn, k⟩ := h
    have hu1 : (A.deeper (envOfC "need_place" (defScope sNpl) s.heap.objs.size f cdv)).units + 1 < cLine := Nat.lt_of_le_of_lt (Nat.add_le_add_left (by decide : 1 ≤ 64) _) hr.units
    have r2 := hr.mono (j := 2) (by omega)
    refine ⟨_, pss_cons (ps_set (i := 3) scNpl.nd rfl (Or.inl rfl) (pe_call FK hr rfl mK kK bK .nil pass0 (pa_cons (pv 0) (pa_cons (pv 1) pa_nil))))
      (pss_one (ps_if (PW.pt (pw_or (pt_cmp (pc_isN (pv 3))) (pw_or1 (pt_cmpR (op_notInTT hu1) (pe_ix ix_tup (pv 3) pe_int (fun _ _ => rfl)) (pv 2) (by rfl))))) (pss_one (ps_raiseX rfl rfl (takes_of rfl rfl rfl rfl) TA r2 (by rfl) (pv 1) (fun σ H Q Q' k ⟨v, h1, h2⟩ => ⟨v, h1, k _ _ h2⟩))) pss_nil)), ?_⟩
    refine ⟨_, rfl, _, rfl, ⟨pp, q, v, d, rfl, hP, hn, hv, hsl, fun e0 H2 e2 => ?_, fun st es v2 G2 H2 x2 h2 => ?_⟩⟩
    · rcases k with ⟨hno, hR⟩ | ⟨s0, es0, _⟩
      · exact ⟨_, rfl, _, rfl, iteT ⟨_, rfl, fun a ha => fresh_back e2 ha, hR H2 e2⟩⟩
      · rw [e0] at es0
        cases es0
    · obtain ⟨a2, zs, rfl, hTz, hz⟩ := step_at h2
      have w0 : zs[0]? = some (.str (wordS st)) := by
        cases h : st <;> rw [h] at hz <;> (cases hz with | cons a b => cases a; rfl)
      refine ⟨_, rfl, _, rfl, ite2 (fun h => nomatch (of_decide_eq_true h)) fun _ => ⟨_, rfl, a2, zs, 0, .str (wordS st), rfl, rfl, sqt_ex (same_ex x2.gh) hTz, atI_nat (j := 0) w0, _, rfl, .str (wordS st), ws, wa, .str _, rfl, sqt_ex (same_ex x2.hh) hW, ?_⟩⟩
      rcases k with ⟨hno, hR⟩ | ⟨s0, es0, hin, hQ⟩
      · have hf := hno st es
        rw [hf]
        exact ⟨_, rfl, iteT ⟨_, rfl, fun a ha => fresh_back x2.hh ha, hR H2 x2.hh⟩⟩
      · rw [es] at es0
        cases es0
        rw [hin]
        exact ⟨_, rfl, iteF (hQ H2 x2.hh)⟩
abbrev sNo : Stmt := top 47
theorem scNo : FnScope ["value", "rights"] ["value", "rights"] (defScope sNo) := ⟨rfl, rfl, rfl, by decide +kernel, rfl, by decide +kernel, by decide +kernel⟩
structure spNor (K : PySem.W.Frag) (CL : Addr) (vs : List V) (H : Hp) (Q : VK) (E : XK) : Prop where
  mk' ::
  out : ∃ v d pr rs, vs = [v, .ref pr] ∧ Dq K H v d ∧ (isLst d = true → SeqAt.shaped d = true) ∧ H pr = some (.lst (rs.map V.str)) ∧ rs.length ≤ 4096 ∧ (∀ r ∈ rs, PySem.PyData.strOk r = true) ∧ ordF rs d = false ∧ Refuse H E CL v
theorem ok_nor {CL fI fO : Addr} {fdI fdO : FuncData} (F : Fun K "need_ordered" "need_ordered" sNo f fd) (TL : XCls P w K mg "InvalidList" "value" CL fI fdI)
    (FO : FnOk P w K mg base CX0 1 fO fdO ["value", "rights"] (spIo K)) (mO : mg "is_ordered" = some (.ref fO)) (kO : PySem.W.keepIn K (.ref fO) = true) (bO : Binds K fdO ["value", "rights"] []) :
    FnOk P w K mg base (L2.CX P w) 3 f fd ["value", "rights"] (spNor K CL) := by
  refine F.okX scNo (fun vs H Q E h => ?_) (fun cdv A outer s H vs Q E hr h => ?_)
  · obtain ⟨_, _, _, _, rfl, _⟩ := h
    rfl
  · obtain ⟨v, d, pr, rs, rfl, hv, hsh, hpr, hrl, hso, hno, hR⟩ := h
    have r1 := hr.mono (j := 1) (by decide)
    refine ⟨_, pss_one (ps_if (pt_not (pt_val (pe_call FO r1 rfl mO kO bO .nil pass0 (pa_cons (pv 0) (pa_cons (pv 1) pa_nil))))) (pss_one (ps_raiseX rfl rfl (takes_of rfl rfl rfl rfl) TL hr (by rfl) (pv 0) (fun σ H Q Q' k ⟨v, h1, h2⟩ => ⟨v, h1, k _ _ h2⟩))) pss_nil), ?_⟩
    refine ⟨_, rfl, _, rfl, ⟨v, d, pr, rs, rfl, hv, hsh, hpr, hrl, hso, fun H2 e2 => ⟨_, rfl, ?_⟩⟩⟩
    rw [hno]
    exact iteT ⟨_, rfl, fun a ha => fresh_back e2 ha, hR H2 e2⟩
theorem lk_no {a1 a2 a3 : Addr} {m : Str} (h1 : (m == ("_rights" : Str)) = false) (h2 : (m == ("_owners" : Str)) = false) (h3 : (m == ("_functions" : Str)) = false) : (progF a1 a2 a3).lookup m = none := by
  unfold progF
  simp only [List.lookup, h1, h2, h3]
/-! ### the four doors, refused -/
abbrev sRt : Stmt := top 59
theorem scRt : FnScope ["program", "place", "standing", "wanted", "search"] ["program", "place", "standing"] (defScope sRt) := ⟨rfl, rfl, rfl, by decide +kernel, rfl, by decide +kernel, by decide +kernel⟩
def evW : List Str := ["call", "tail", "check"]
structure spRt (K : PySem.W.Frag) (C CP CA CL : Addr) (n : Nat) (vs : List V) (H : Hp) (Q : VK) (E : XK) : Prop where
  mk' ::
  out : ∃ v x y, vs = [v, x, y] ∧ ((∃ d, Dq K H v d ∧ Refuse H E CP v) ∨ ∃ pp q dx, v = .ref pp ∧ ProgAt K C H pp q ∧ Dq K H x dx ∧ spotL dx ∧ (∀ g ∈ q.fs, nstB g.2.2 ≤ n) ∧
    ((noPl q.fs evW dx ∧ Refuse H E CA x) ∨ ∃ s dy, stepOf q.fs dx = some s ∧ evW.any (eqS (.str (wordS s))) = true ∧ Dq K H y dy ∧ (isLst dy = true → SeqAt.shaped dy = true) ∧ q.rs.length ≤ 4096 ∧ (∀ r ∈ q.rs, PySem.PyData.strOk r = true) ∧ ordF q.rs dy = false ∧ Refuse H E CL y))
theorem ok_rt {C CP CA CL fN fP fO fR W : Addr} {n : Nat} {dN dP dO dR : FuncData} (F : Fun K "run_to" "run_to" sRt f fd) (T : PTxt K mg C)
    (FN : FnOk P w K mg base (L2.CX P w) 3 fN dN ["value"] (spNp K C CP)) (mN : mg "need_program" = some (.ref fN)) (kN : PySem.W.keepIn K (.ref fN) = true) (bN : Binds K dN ["value"] [])
    (FP : FnOk P w K mg base (L2.CX P w) (n + 5) fP dP ["program", "value", "words"] (spNpl K C CA n)) (mP : mg "need_place" = some (.ref fP)) (kP : PySem.W.keepIn K (.ref fP) = true) (bP : Binds K dP ["program", "value", "words"] [])
    (FO : FnOk P w K mg base (L2.CX P w) 3 fO dO ["value", "rights"] (spNor K CL)) (mO : mg "need_ordered" = some (.ref fO)) (kO : PySem.W.keepIn K (.ref fO) = true) (bO : Binds K dO ["value", "rights"] [])
    (FR : FnOk P w K mg base CX0 1 fR dR ["self"] (spRi K C)) (mR : Meth K C "rights" fR) (bR : Binds K dR ["self"] []) (mW : mg "EVENT_WORDS" = some (.ref W)) (hW : ∀ H : Hp, SqT K H W (evW.map V.str)) :
    FnOk P w K mg base (L2.CX P w) (n + 6) f fd ["program", "place", "standing"] (spRt K C CP CA CL n) := by
  refine F.okX scRt (fun vs H Q E h => ?_) (fun cdv A outer s H vs Q E hr h => ?_)
  · obtain ⟨_, _, _, rfl, _⟩ := h
    rfl
  · obtain ⟨v, x, y, rfl, k⟩ := h
    have r3 := hr.mono (j := 3) (by omega)
    have r1 := hr.mono (j := 1) (by omega)
    refine ⟨_, pss_cons (ps_expr (pe_callS FN r3 (by rfl) mN kN bN (fun σ => passAt (takes_of rfl rfl rfl rfl) σ) (pa_cons (pv 0) pa_nil)))
      (pss_cons (ps_expr (pe_callS FP hr (by rfl) mP kP bP (fun σ => passAt (takes_of rfl rfl rfl rfl) σ) (pa_cons (pv 0) (pa_cons (pv 1) (pa_cons (pe_glob (v := .ref W) (by rfl) mW rfl) pa_nil)))))
      (pss_cons (ps_expr (pe_callS FO r3 (by rfl) mO kO bO (fun σ => passAt (takes_of rfl rfl rfl rfl) σ) (pa_cons (pv 2) (pa_cons (pe_meth0 (pv 0) T.cl mR FR r1 bR .nil pass0) pa_nil)))) pss_no)), ?_⟩
    rcases k with ⟨d0, h0, hR⟩ | ⟨pp, q, dx, rfl, hP, hx, hsl, hn, k⟩
    · exact ⟨_, rfl, ⟨v, rfl, .inr ⟨d0, h0, hR⟩⟩⟩
    refine ⟨_, rfl, ⟨_, rfl, .inl ⟨pp, q, rfl, hP, ?_⟩⟩⟩
    rcases k with ⟨hno, hR⟩ | ⟨st, dy, hst, hin, hy, hsh, hl, hso, hord, hR⟩
    · exact ⟨_, rfl, _, rfl, ⟨pp, q, x, dx, W, evW, rfl, hP, hx, hsl, hW _, hn, .inl ⟨hno, hR⟩⟩⟩
    refine ⟨_, rfl, _, rfl, ⟨pp, q, x, dx, W, evW, rfl, hP, hx, hsl, hW _, hn, .inr ⟨st, hst, hin, fun H2 e2 => ?_⟩⟩⟩
    have hP2 := hP.mono e2
    obtain ⟨dxx, c1, c2, c3, j0, j1, j2, j3⟩ := hP.mono e2
    refine ⟨_, rfl, _, rfl, pp, dxx, _, rfl, j0, lk_no (by decide +kernel) (by decide +kernel) (by decide +kernel), ⟨pp, q, rfl, hP2, fun l H3 M k3 fr => ?_⟩⟩
    exact ⟨y, dy, l, q.rs, rfl, hy.mono (same_ex (e2.trans k3.hh)), hsh, k3.mh _ _ fr, hl, hso, hord, refuse_mono (e2.trans k3.hh) hR⟩
abbrev sOc : Stmt := top 61
theorem scOc : FnScope ["program", "place", "search", "words", "event"] ["program", "place"] (defScope sOc) := ⟨rfl, rfl, rfl, by decide +kernel, rfl, by decide +kernel, by decide +kernel⟩
structure spOc (K : PySem.W.Frag) (C CP CA : Addr) (n : Nat) (vs : List V) (H : Hp) (Q : VK) (E : XK) : Prop where
  mk' ::
  out : ∃ v x, vs = [v, x] ∧ ((∃ d, Dq K H v d ∧ Refuse H E CP v) ∨ ∃ pp q dx, v = .ref pp ∧ ProgAt K C H pp q ∧ Dq K H x dx ∧ spotL dx ∧ (∀ g ∈ q.fs, nstB g.2.2 ≤ n) ∧ noPl q.fs ["check"] dx ∧ Refuse H E CA x)
theorem ok_oc {C CP CA fN fP : Addr} {n : Nat} {dN dP : FuncData} (F : Fun K "outcome" "outcome" sOc f fd)
    (FN : FnOk P w K mg base (L2.CX P w) 3 fN dN ["value"] (spNp K C CP)) (mN : mg "need_program" = some (.ref fN)) (kN : PySem.W.keepIn K (.ref fN) = true) (bN : Binds K dN ["value"] [])
    (FP : FnOk P w K mg base (L2.CX P w) (n + 5) fP dP ["program", "value", "words"] (spNpl K C CA n)) (mP : mg "need_place" = some (.ref fP)) (kP : PySem.W.keepIn K (.ref fP) = true) (bP : Binds K dP ["program", "value", "words"] []) :
    FnOk P w K mg base (L2.CX P w) (n + 6) f fd ["program", "place"] (spOc K C CP CA n) := by
  refine F.okX scOc (fun vs H Q E h => ?_) (fun cdv A outer s H vs Q E hr h => ?_)
  · obtain ⟨_, _, rfl, _⟩ := h
    rfl
  · obtain ⟨v, x, rfl, k⟩ := h
    have r3 := hr.mono (j := 3) (by omega)
    refine ⟨_, pss_cons (ps_expr (pe_callS FN r3 (by rfl) mN kN bN (fun σ => passAt (takes_of rfl rfl rfl rfl) σ) (pa_cons (pv 0) pa_nil)))
      (pss_cons (ps_expr (pe_callS FP hr (by rfl) mP kP bP (fun σ => passAt (takes_of rfl rfl rfl rfl) σ) (pa_cons (pv 0) (pa_cons (pv 1) (pa_cons (pe_tup (pa_cons pe_str pa_nil)) pa_nil))))) pss_no), ?_⟩
    rcases k with ⟨d0, h0, hR⟩ | ⟨pp, q, dx, rfl, hP, hx, hsl, hn, hno, hR⟩
    · exact ⟨_, rfl, ⟨v, rfl, .inr ⟨d0, h0, hR⟩⟩⟩
    refine ⟨_, rfl, ⟨_, rfl, .inl ⟨pp, q, rfl, hP, ?_⟩⟩⟩
    refine ⟨_, rfl, _, rfl, by show 1 ≤ sizeLine; decide, fun wa nwa => ?_⟩
    have eN := Ex.new (o := HO.tup [V.str "check"]) nwa
    exact ⟨pp, q, x, dx, wa, ["check"], rfl, hP.mono eN, hx.mono (same_ex eN), hsl, .inl (.inl upd_same), hn, .inl ⟨hno, refuse_mono eN hR⟩⟩
abbrev sFf : Stmt := top 62
abbrev sLe : Stmt := top 64
theorem scFf : FnScope ["program"] ["program"] (defScope sFf) := ⟨rfl, rfl, rfl, by decide +kernel, rfl, by decide +kernel, by decide +kernel⟩
theorem scLe : FnScope ["program"] ["program"] (defScope sLe) := ⟨rfl, rfl, rfl, by decide +kernel, rfl, by decide +kernel, by decide +kernel⟩
structure spNoP (K : PySem.W.Frag) (CP : Addr) (vs : List V) (H : Hp) (Q : VK) (E : XK) : Prop where
  mk' ::
  out : ∃ v d, vs = [v] ∧ Dq K H v d ∧ Refuse H E CP v
theorem ok_ff {C CP fN : Addr} {dN : FuncData} (F : Fun K "first_fail" "first_fail" sFf f fd)
    (FN : FnOk P w K mg base (L2.CX P w) 3 fN dN ["value"] (spNp K C CP)) (mN : mg "need_program" = some (.ref fN)) (kN : PySem.W.keepIn K (.ref fN) = true) (bN : Binds K dN ["value"] []) : FnOk P w K mg base (L2.CX P w) 4 f fd ["program"] (spNoP K CP) := by
  refine F.okX scFf (fun vs H Q E h => ?_) (fun cdv A outer s H vs Q E hr h => ?_)
  · obtain ⟨_, _, rfl, _⟩ := h
    rfl
  · obtain ⟨v, d, rfl, hd, hR⟩ := h
    refine ⟨_, pss_cons (ps_expr (pe_callS FN hr (by rfl) mN kN bN (fun σ => passAt (takes_of rfl rfl rfl rfl) σ) (pa_cons (pv 0) pa_nil))) pss_no, ?_⟩
    exact ⟨_, rfl, ⟨v, rfl, .inr ⟨d, hd, hR⟩⟩⟩
theorem ok_le {C CP fN : Addr} {dN : FuncData} (F : Fun K "last_end" "last_end" sLe f fd)
    (FN : FnOk P w K mg base (L2.CX P w) 3 fN dN ["value"] (spNp K C CP)) (mN : mg "need_program" = some (.ref fN)) (kN : PySem.W.keepIn K (.ref fN) = true) (bN : Binds K dN ["value"] []) : FnOk P w K mg base (L2.CX P w) 4 f fd ["program"] (spNoP K CP) := by
  refine F.okX scLe (fun vs H Q E h => ?_) (fun cdv A outer s H vs Q E hr h => ?_)
  · obtain ⟨_, _, rfl, _⟩ := h
    rfl
  · obtain ⟨v, d, rfl, hd, hR⟩ := h
    refine ⟨_, pss_cons (ps_expr (pe_callS FN hr (by rfl) mN kN bN (fun σ => passAt (takes_of rfl rfl rfl rfl) σ) (pa_cons (pv 0) pa_nil))) pss_no, ?_⟩
    exact ⟨_, rfl, ⟨v, rfl, .inr ⟨d, hd, hR⟩⟩⟩
end
end Lx

set_option Elab.async false
set_option maxRecDepth 100000
set_option linter.all false
set_option maxHeartbeats 4000000
namespace Lx
open PySem PySem.Spec PyProof.Rows L2 Evl Kx
/-- the errors as the text has made them -/
structure ETxt3 (P : Program) (w : World) (K : PySem.W.Frag) (mg : Str → Option Value) (CR CP CA CL fP fA fL : Addr) (dP dA dL : FuncData) : Prop where
  mR : mg "RightsError" = some (.ref CR)
  xP : XCls P w K mg "InvalidProgram" "value" CP fP dP
  xA : XCls P w K mg "InvalidPlace" "value" CA fA dA
  xL : XCls P w K mg "InvalidList" "value" CL fL dL
  e : ∀ i : Nat, i < 3 → PySem.W.exmOne K (.ref (([CP, CA, CL] : List Addr).getD i 0)) (.ref CR) = some true
  k : ∀ i j : Nat, i < 3 → j < 3 → PySem.W.kitOne K (.ref (([CP, CA, CL] : List Addr).getD i 0)) (.ref (([CP, CA, CL] : List Addr).getD j 0)) = some (decide (i = j))
section
variable {P : Program} {w : World} {K : PySem.W.Frag} {mg : Str → Option Value} {base : Heap} {f : Addr} {fd : FuncData}
abbrev sCa : Stmt := top 80
theorem scCa : FnScope ["door", "program", "place", "standing", "caught", "error", "kinds"] ["door", "program", "place", "standing"] (defScope sCa) := ⟨rfl, rfl, rfl, by decide +kernel, rfl, by decide +kernel, by decide +kernel⟩
/-- what is refused: kind, thing -/
def Bad (K : PySem.W.Frag) (C : Addr) (H : Hp) (dr : Int) (v x y vv : V) (d : PyData) : Nat → Prop
  | 0 => vv = v
  | 1 => vv = x ∧ spotL d ∧ ∃ pp q, v = .ref pp ∧ ProgAt K C H pp q ∧ (∀ g ∈ q.fs, nstB g.2.2 ≤ 4) ∧ ((dr = 0 ∧ noPl q.fs evW d) ∨ (dr = 1 ∧ noPl q.fs ["check"] d))
  | 2 => vv = y ∧ dr = 0 ∧ (isLst d = true → SeqAt.shaped d = true) ∧ ∃ pp q dx s, v = .ref pp ∧ ProgAt K C H pp q ∧ (∀ g ∈ q.fs, nstB g.2.2 ≤ 4) ∧ Dq K H x dx ∧ spotL dx ∧ stepOf q.fs dx = some s ∧ evW.any (eqS (.str (wordS s))) = true ∧
      q.rs.length ≤ 4096 ∧ (∀ r ∈ q.rs, PySem.PyData.strOk r = true) ∧ ordF q.rs d = false
  | _ => False
structure spCa (K : PySem.W.Frag) (C : Addr) (vs : List V) (H : Hp) (Q : VK) (E_ : XK) : Prop where
  mk' ::
  out : ∃ (dr : Int) (v x y vv : V) (d : PyData) (k : Nat), vs = [.int dr, v, x, y] ∧ Sys H ∧ Dq K H vv d ∧ okD d ∧ Bad K C H dr v x y vv d k ∧ ∀ l H2 M, New H H2 M → Dq K M (.ref l) (.list [.int k, .str d.shown]) → Q (.ref l) H2
theorem new_ofEx' {H H2 : Hp} (e : Ex H H2) : New H H2 emp := New.refl.more e
theorem ok_ca {C CR CP CA CL iP iA iL fR fO fF fE : Addr} {jP jA jL dR dO dF dE : FuncData} (F : Fun K "_law_caught" "_law_caught" sCa f fd) (TE : ETxt3 P w K mg CR CP CA CL iP iA iL jP jA jL)
    (FR : FnOk P w K mg base (L2.CX P w) 10 fR dR ["program", "place", "standing"] (spRt K C CP CA CL 4)) (mR : mg "run_to" = some (.ref fR)) (kR : PySem.W.keepIn K (.ref fR) = true) (bR : Binds K dR ["program", "place", "standing"] [])
    (FO : FnOk P w K mg base (L2.CX P w) 10 fO dO ["program", "place"] (spOc K C CP CA 4)) (mO : mg "outcome" = some (.ref fO)) (kO : PySem.W.keepIn K (.ref fO) = true) (bO : Binds K dO ["program", "place"] [])
    (FF : FnOk P w K mg base (L2.CX P w) 4 fF dF ["program"] (spNoP K CP)) (mF : mg "first_fail" = some (.ref fF)) (kF : PySem.W.keepIn K (.ref fF) = true) (bF : Binds K dF ["program"] [])
    (FE : FnOk P w K mg base (L2.CX P w) 4 fE dE ["program"] (spNoP K CP)) (mE : mg "last_end" = some (.ref fE)) (kE : PySem.W.keepIn K (.ref fE) = true) (bE : Binds K dE ["program"] [])
    (mI : mg "isinstance" = none) (mRep : mg "repr" = none) : GnOk P w K mg base CX0 11 f fd ["door", "program", "place", "standing"] (spCa K C) := by
  refine gn_ok F scCa (fun vs H Q E h => ?_) (fun cdv A outer s H vs Q E hg hr h => ?_)
  · obtain ⟨_, _, _, _, _, _, _, rfl, _⟩ := h
    rfl
  · obtain ⟨dr, v, x, y, vv, d, k, rfl, sy, hd, okd, bad, fin⟩ := h
    have hu := hr.units
    have hgu : (A.deeper (envOfC "_law_caught" (defScope sCa) s.heap.objs.size f cdv)).guards = some [] := hg
    have r4 := hr.mono (j := 4) (by decide)
    have k3 : k < 3 := by
      match k, bad with
      | 0, _ => decide
      | 1, _ => decide
      | 2, _ => decide
    refine ⟨_, pss_cons (ps_set (i := 4) scCa.nd rfl (Or.inl rfl) pe_non)
      (pss_cons (ps_try_keep (i := 5) rfl rfl rfl scCa.nd rfl rfl ⟨rfl, by decide, .inl TE.mR⟩ takes0 (fun W pn xe tk _ => pss_one (ps_if (pt_cmpR op_eq (pv 0) pe_int (nomark _))
            (pss_one (ps_expr (pe_callS FR hr (by rfl) mR kR bR (fun σ => passAt tk σ) (pa_cons (pv 1) (pa_cons (pv 2) (pa_cons (pv 3) pa_nil))))))
            (pss_one (ps_if (pt_cmpR op_eq (pv 0) pe_int (nomark _)) (pss_one (ps_expr (pe_callS FO hr (by rfl) mO kO bO (fun σ => passAt tk σ) (pa_cons (pv 1) (pa_cons (pv 2) pa_nil)))))
            (pss_one (ps_if (pt_cmpR op_eq (pv 0) pe_int (nomark _)) (pss_one (ps_expr (pe_callS FF r4 (by rfl) mF kF bF (fun σ => passAt tk σ) (pa_cons (pv 1) pa_nil))))
            (pss_one (ps_expr (pe_callS FE r4 (by rfl) mE kE bE (fun σ => passAt tk σ) (pa_cons (pv 1) pa_nil))))))))))
          (fun a oe C d pn hz hf => pss_one (ps_set (i := 4) scCa.nd rfl (Or.inl rfl) (pv 5))))
      (pss_cons (ps_set (i := 6) scCa.nd rfl (Or.inl rfl) (pe_lst (pa_cons (pe_callB (isX_K (K := K)) (by rfl) mI PyProof.Rows.boot_isinstance (pa_cons (pv 4) (pa_cons (pe_cls (by rfl) TE.xP.mgC) pa_nil)))
          (pa_cons (pe_callB (isX_K (K := K)) (by rfl) mI PyProof.Rows.boot_isinstance (pa_cons (pv 4) (pa_cons (pe_cls (by rfl) TE.xA.mgC) pa_nil)))
          (pa_cons (pe_callB (isX_K (K := K)) (by rfl) mI PyProof.Rows.boot_isinstance (pa_cons (pv 4) (pa_cons (pe_cls (by rfl) TE.xL.mgC) pa_nil))) pa_nil)))))
      (pss_one (ps_ret (pe_lst (pa_cons (pe_bm PySem.F.plainAttrs_list PySem.F.slot_list_index PySem.F.type_list_index mt_index (pe_op op_cat (pv 6) (pe_lst (pa_cons pe_bl pa_nil))) (pa_cons pe_bl pa_nil))
          (pa_cons (pe_ifExp (pt_cmp (pc_isN (pv 4))) pe_non (pe_callB (call_repr hgu hu) (by rfl) mRep PyProof.Rows.boot_repr (pa_cons (pe_xatK (K := K) (pv 4)) pa_nil))) pa_nil))))))), ?_⟩
    have ec := TE.e k k3
    have ek := fun j hj => TE.k k j k3 hj
    obtain ⟨c, hc, exC, hno⟩ : ∃ c, ([CP, CA, CL] : List Addr).getD k 0 = c ∧ ExcC K c ∧ PySem.W.findIn K (.ref c) "value" = some none := by
      match k, k3 with
      | 0, _ => exact ⟨CP, rfl, TE.xP.e, TE.xP.no⟩
      | 1, _ => exact ⟨CA, rfl, TE.xA.e, TE.xA.no⟩
      | 2, _ => exact ⟨CL, rfl, TE.xL.e, TE.xL.no⟩
    rw [hc] at ec ek
    have go : ∀ {Q' : VK} {E : XK}, Refuse H E c vv → (dr = 0 → spRt K C CP CA CL 4 [v, x, y] H Q' E) ∧ (dr = 1 → spOc K C CP CA 4 [v, x] H Q' E) ∧ (dr ≠ 0 → dr ≠ 1 → spNoP K CP [v] H Q' E) := fun {Q' E} hR => by
      match k, bad, hc with
      | 0, e, hc =>
        cases e
        cases hc
        exact ⟨fun _ => ⟨_, x, y, rfl, .inl ⟨d, hd, hR⟩⟩, fun _ => ⟨_, x, rfl, .inl ⟨d, hd, hR⟩⟩, fun _ _ => ⟨_, d, rfl, hd, hR⟩⟩
      | 1, ⟨e, hsl, pp, q, ev, hP, hn, hnp⟩, hc =>
        cases hc
        subst e ev
        refine ⟨fun h0 => ⟨_, vv, y, rfl, .inr ⟨pp, q, d, rfl, hP, hd, hsl, hn, .inl ⟨?_, hR⟩⟩⟩, fun h1 => ⟨_, vv, rfl, .inr ⟨pp, q, d, rfl, hP, hd, hsl, hn, ?_, hR⟩⟩, fun n0 n1 => ?_⟩
        · rcases hnp with ⟨_, h⟩ | ⟨e, _⟩
          · exact h
          · rw [h0] at e; cases e
        · rcases hnp with ⟨e, _⟩ | ⟨_, h⟩
          · rw [h1] at e; cases e
          · exact h
        · rcases hnp with ⟨e, _⟩ | ⟨e, _⟩
          · exact absurd e n0
          · exact absurd e n1
      | 2, ⟨e, h0, hsh, pp, q, dx, st, ev, hP, hn, hx, hsl, hst, hin, hl, hso, hord⟩, hc =>
        cases hc
        subst e ev h0
        exact ⟨fun _ => ⟨_, x, vv, rfl, .inr ⟨pp, q, dx, rfl, hP, hx, hsl, hn, .inr ⟨st, d, hst, hin, hd, hsh, hl, hso, hord, hR⟩⟩⟩, fun h => (by cases h), fun h => absurd rfl h⟩
    refine ⟨_, rfl, rfl, _, rfl, ite2 (fun hdr => ⟨_, rfl, _, rfl, _, rfl, (go ?_).1 ?_⟩) (fun hdr => ⟨_, rfl, rfl, _, rfl, ite2 (fun hd1 => ⟨_, rfl, _, rfl, (go ?_).2.1 ?_⟩) (fun hd1 => ⟨_, rfl, rfl, _, rfl, ite2 (fun hd2 => ⟨_, rfl, (go ?_).2.2 ?_ ?_⟩) (fun hd2 => ⟨_, rfl, (go ?_).2.2 ?_ ?_⟩)⟩)⟩)⟩
    case refine_2 =>
      have := of_decide_eq_true hdr
      injection this
    case refine_4 =>
      have := of_decide_eq_true hd1
      injection this
    case refine_6 => exact fun z => hdr (decide_eq_true (by rw [z]))
    case refine_7 => exact fun z => hd1 (decide_eq_true (by rw [z]))
    case refine_9 => exact fun z => hdr (decide_eq_true (by rw [z]))
    case refine_10 => exact fun z => hd1 (decide_eq_true (by rw [z]))
    all_goals
      intro H1 x1 dd H2 xf
      refine ⟨c, true, rfl, ec, fun _ a na => ?_, fun z => nomatch z⟩
      have x3 : Ex H (upd H2 a (exk a c (some dd))) := (x1.trans xf.1).trans (Ex.new na)
      have ne : dd ≠ a := ne_of_none xf.2 na
      have hX : XAt (upd H2 a (exk a c (some dd))) a c (some dd) := xat_exk upd_same
      have hF : FAt (upd H2 a (exk a c (some dd))) dd [("value", vv)] := .inl (by rw [upd_ne ne]; exact xf.2)
      refine ⟨_, rfl, ?_⟩
      refine ⟨_, rfl, a, c, _, _, _, rfl, .inr ⟨dd, _, hX, hF⟩, exC, .own _, ek 0 (by decide), ?_⟩
      refine ⟨_, rfl, a, c, _, _, _, rfl, .inr ⟨dd, _, hX, hF⟩, exC, .own _, ek 1 (by decide), ?_⟩
      refine ⟨_, rfl, a, c, _, _, _, rfl, .inr ⟨dd, _, hX, hF⟩, exC, .own _, ek 2 (by decide), ?_⟩
      refine ⟨by show 3 ≤ sizeLine; decide, fun kp nkp => ?_⟩
      generalize (upd H2 a (exk a c (some dd))) = H3 at x3 hX hF nkp ⊢
      have hk4 : (upd H3 kp (.lst [.bl (decide (k = 0)), .bl (decide (k = 1)), .bl (decide (k = 2))])) kp = some (.lst [.bl (decide (k = 0)), .bl (decide (k = 1)), .bl (decide (k = 2))]) := upd_same
      have x4 := x3.trans (Ex.new (o := .lst [.bl (decide (k = 0)), .bl (decide (k = 1)), .bl (decide (k = 2))]) nkp)
      have hX4 := hX.mono (same_ex (Ex.new (o := .lst [.bl (decide (k = 0)), .bl (decide (k = 1)), .bl (decide (k = 2))]) nkp))
      have hF4 := hF.mono (same_ex (Ex.new (o := .lst [.bl (decide (k = 0)), .bl (decide (k = 1)), .bl (decide (k = 2))]) nkp))
      generalize (upd H3 kp (.lst [.bl (decide (k = 0)), .bl (decide (k = 1)), .bl (decide (k = 2))])) = H4 at hk4 x4 hX4 hF4 ⊢
      refine ⟨_, rfl, by show 1 ≤ sizeLine; decide, fun tl ntl => ⟨kp, tl, _, _, rfl, rfl, Ex.new ntl _ _ hk4, upd_same, by show 3 + 1 ≤ sizeLine; decide, fun kq nkq => ?_⟩⟩
      have x5 := x4.trans ((Ex.new (o := .lst [.bl true]) ntl).trans (Ex.new (o := .lst ([.bl (decide (k = 0)), .bl (decide (k = 1)), .bl (decide (k = 2))] ++ [.bl true])) nkq))
      have hX5 := hX4.mono (same_ex ((Ex.new (o := .lst [.bl true]) ntl).trans (Ex.new (o := .lst ([.bl (decide (k = 0)), .bl (decide (k = 1)), .bl (decide (k = 2))] ++ [.bl true])) nkq)))
      have hF5 := hF4.mono (same_ex ((Ex.new (o := .lst [.bl true]) ntl).trans (Ex.new (o := .lst ([.bl (decide (k = 0)), .bl (decide (k = 1)), .bl (decide (k = 2))] ++ [.bl true])) nkq)))
      have hk5 : (upd (upd H4 tl (.lst [.bl true])) kq (.lst ([.bl (decide (k = 0)), .bl (decide (k = 1)), .bl (decide (k = 2))] ++ [.bl true]))) kq = some (.lst ([.bl (decide (k = 0)), .bl (decide (k = 1)), .bl (decide (k = 2))] ++ [.bl true])) := upd_same
      generalize (upd (upd H4 tl (.lst [.bl true])) kq (.lst ([.bl (decide (k = 0)), .bl (decide (k = 1)), .bl (decide (k = 2))] ++ [.bl true]))) = H5 at x5 hX5 hF5 hk5 ⊢
      refine ⟨.inl ⟨rfl, _, SqL.of hk5⟩, kq, _, .bl true, k, .bl true, rfl, rfl, SqL.of hk5, rfl, rfl, ?_, rfl, ?_, ?_⟩
      · match k, k3 with
        | 0, _ => rfl
        | 1, _ => rfl
        | 2, _ => rfl
      · intro m z' hm hz
        match k, k3, m, hm with
        | 1, _, 0, _ => cases hz; rfl
        | 2, _, 0, _ => cases hz; rfl
        | 2, _, 1, _ => cases hz; rfl
      refine ⟨_, rfl, _, rfl, ite2 (fun h => nomatch (of_decide_eq_true h)) fun _ => ⟨_, rfl, a, c, dd, _, vv, rfl, hX5, hF5, exC, hno, rfl, ?_⟩⟩
      refine ⟨vv, d, rfl, sy.mono (same_ex x5), hd.mono (same_ex x5), okd.fits.1, okd.fits.2.1, okd.fits.2.2, ?_⟩
      refine ⟨by show 2 ≤ sizeLine; decide, fun l nl => fin l _ _ ((new_ofEx' x5).put nl) (.lst upd_same (.cons (.int _) (.cons (.str _) .nil)))⟩
end
end Lx

set_option Elab.async false
set_option maxRecDepth 100000
set_option linter.all false
set_option maxHeartbeats 2000000
/-! KitV: evaluation to data, rule by rule, all from one known part. -/
namespace Kx
open PySem PySem.Spec PyProof.Rows L2 Evl
/-- a part of the heap that holds both of two, which agree -/
theorem mid_ext {G G' G2 H1 H2 : Hp} (e : Ex G G') (a : Ex G' H1) (x : Ext G H1 G2 H2) : ∃ G3, Ex G2 G3 ∧ Ext G' H1 G3 H2 := by
  refine ⟨join G' G2, fun b o hb => ?_, ⟨x.hh, join_l, fun b o hb => ?_, fun b o hb => ?_⟩⟩
  · unfold join
    cases z : G' b with
    | none => exact hb
    | some o' =>
      have h1 := x.hh b o' (a b o' z)
      have h2 := x.gh b o hb
      rw [h1] at h2
      exact h2
  · rcases join_inv hb with h | ⟨_, h⟩
    · exact x.hh b o (a b o h)
    · exact x.gh b o h
  · unfold join
    cases z : G' b with
    | none =>
      show G2 b = none
      rw [x.ag b o hb]
      cases z2 : G b with
      | none => rfl
      | some u =>
        rw [e b u z2] at z
        cases z
    | some o' => rfl
section
variable {K : PySem.W.Frag} {σ : L2.St} {G G' : Hp} {te ta tb : TE} {tr : TA} {d : PyData} {ds es : List PyData}
theorem EvDA.mono (e : Ex G G') (h : EvDA K tr σ G ds) : EvDA K tr σ G' ds := fun H1 a Q q => h H1 (e.trans a) Q fun v G2 H2 x hd => by
  obtain ⟨G3, e3, x3⟩ := mid_ext e a x
  exact q v G3 H2 x3 (hd.mono (same_ex e3))
theorem da_cons (h : EvD K te σ G d) (hr : EvDA K tr σ G ds) : EvDA K (tCons te tr) σ G (d :: ds) := eda_cons h fun _ x => hr.mono x
theorem ed_non : EvD K (tC .non) σ G .none := fun H1 e Q q => q _ G H1 (Ext.refl e) .non
theorem ed_bl {b : Bool} : EvD K (tC (.bl b)) σ G (.bool b) := fun H1 e Q q => q _ G H1 (Ext.refl e) (.bl b)
theorem ed_int {i : Int} : EvD K (tC (.int i)) σ G (.int i) := fun H1 e Q q => q _ G H1 (Ext.refl e) (.int i)
theorem ed_str {z : Str} : EvD K (tC (.str z)) σ G (.str z) := fun H1 e Q q => q _ G H1 (Ext.refl e) (.str z)
theorem ed_var {i : Nat} {v : V} (h : σ[i]? = some (some v)) (hd : Dq K G v d) : EvD K (tVar i) σ G d := fun H1 e Q q => ⟨v, h, q _ G H1 (Ext.refl e) hd⟩
theorem ed_dict : EvD K tDNewK σ G (.dict []) := fun H1 e Q q p hp =>
  q _ _ _ (Ext.new e hp (Ex.new hp) upd_same) (.dic upd_same .nil)
theorem ed_cat (h : EvD K ta σ G (.list ds)) (hb : EvD K tb σ G (.list es)) (hl : ds.length + es.length ≤ 100000) : EvD K (tOp rCat ta tb) σ G (.list (ds ++ es)) := fun H1 e Q q =>
  h H1 e _ fun v G2 H2 x hd => (hb.mono x.gg) H2 x.gh _ fun v' G3 H3 y he => by
    cases hd with
    | @lst a1 xs1 _ h1 h2 =>
    cases he with
    | @lst a2 xs2 _ h3 h4 =>
    have l1 := dqa_len h2
    have l2 := dqa_len h4
    refine ⟨_, _, _, _, rfl, rfl, y.hh _ _ (x.gh _ _ h1), y.gh _ _ h3, sz_of (by omega), fun l hl' => ?_⟩
    have z := (x.trans y).more (o := .lst (xs1 ++ xs2)) hl' (Ex.new hl') upd_same
    have gl := fresh_back (x.trans y).gh hl'
    refine q _ _ _ z (.lst upd_same ?_)
    exact (dqa_cat (h2.mono (same_ex y.gg)) h4).mono (same_ex (Ex.new gl))
where
  dqa_cat {G : Hp} : ∀ {xs ys : List V} {ds es : List PyData}, DqA K G xs ds → DqA K G ys es → DqA K G (xs ++ ys) (ds ++ es)
  | _, _, _, _, .nil, h => h
  | _, _, _, _, .cons a b, h => .cons a (dqa_cat b h)
theorem EvD.use {H : Hp} {Q : VK} (h : EvD K te σ G d) (e : Ex G H) (q : ∀ v G2 H2, Ext G H G2 H2 → Dq K G2 v d → Q v H2) : te σ H Q := h H e Q q
theorem EvDA.use {H : Hp} {Q : List V → Hp → Prop} (h : EvDA K tr σ G ds) (e : Ex G H) (q : ∀ vs G2 H2, Ext G H G2 H2 → DqA K G2 vs ds → Q vs H2) : tr σ H Q := h H e Q q
/-! ### statements, read with data -/
theorem rd_seq {t u : TS} {D : Ends} {H : Hp} (h : t { D with nx := u D } σ H) : tSeq t u D σ H := h
theorem rd_set {i : Nat} {D : Ends} {H : Hp} (h : EvD K te σ G d) (e : Ex G H) (q : ∀ v G2 H2, Ext G H G2 H2 → Dq K G2 v d → D.nx (σ.set i (some v)) H2) : tAsg te (gName i) D σ H := h H e _ q
theorem rd_sset {i : Nat} {u : TS} {D : Ends} {H : Hp} (h : EvD K te σ G d) (e : Ex G H) (q : ∀ v G2 H2, Ext G H G2 H2 → Dq K G2 v d → u D (σ.set i (some v)) H2) : tSeq (tAsg te (gName i)) u D σ H := h H e _ q
theorem rd_nx {u : TS} {D : Ends} {H : Hp} (h : u D σ H) : ({ D with nx := u D } : Ends).nx σ H := h
theorem rd_ret {D : Ends} {H : Hp} (h : EvD K te σ G d) (e : Ex G H) (q : ∀ v G2 H2, Ext G H G2 H2 → Dq K G2 v d → D.rt v H2) : tRet te D σ H := h H e _ q
theorem ext_new {H G2 H2 : Hp} (x : Ext emp H G2 H2) : New H H2 G2 := ⟨x.hh, x.gh, fun a o h => x.ag a o h⟩
theorem ex_emp {H : Hp} : Ex emp H := fun a o h => nomatch h
theorem New.extE {H H2 M : Hp} (k : New H H2 M) (e : Ex G H) : Ext G H (join G M) H2 := k.ext e
end
end Kx
namespace Kx
open PySem PySem.Spec PyProof.Rows L2 Evl
section
variable {K : PySem.W.Frag} {σ : L2.St} {G : Hp} {te tl : TE} {es : List PyData}
/-- [F(x) for x in data] -/
theorem ed_lcD {j : Nat} {ws : List Nat} (F : PyData → PyData) (h : EvD K tl σ G (.list es)) (hl : es.length ≤ 40000) (hw : ∀ x, wipe ((wipe σ ws).set j (some x)) ws = wipe σ ws)
    (he : ∀ (e : PyData) (x : V) G1, Ex G G1 → e ∈ es → Dq K G1 x e → EvD K te ((wipe σ ws).set j (some x)) G1 (F e)) : EvD K (tLc (iList K tl) (gName j) tYes te ws) σ G (.list (es.map F)) := fun H0 e0 Q q => h H0 e0 _ fun v G2 H2 x hd => by
  cases hd with
  | @lst a xs _ ha hx =>
  have hlen := dqa_len hx
  refine ⟨a, rfl, ⟨xs, SqL.of (x.gh _ _ ha)⟩, fun Dl hD => ?_⟩
  refine lc_list (xs := xs) (Cd K G2 H2 (fun _ => true) (fun i => F (es.getD i .none)) Dl) (cd_start x.gh hD) (fun i H' _ p => by obtain ⟨Gi, vs, y, _⟩ := p; exact SqL.of (y.gh _ _ (y.gg _ _ ha))) ?_ ?_
  · intro i y H' hi p
    obtain ⟨dx, hdx, gx⟩ := dqa_get hx hi
    have hil := (List.getElem?_eq_some_iff.mp hi).1
    refine ⟨hw y, cd_turn hD p (by omega) (fun G1 g1 => et_yes) (fun G1 g1 _ => ?_)⟩
    have ed : es.getD i .none = dx := by rw [List.getD_eq_getElem?_getD, hdx]; rfl
    rw [ed]
    exact he dx y G1 (x.gg.trans g1) (List.mem_of_getElem? hdx) (gx.mono (same_ex g1))
  · intro H' p
    obtain ⟨G3, y, hd⟩ := cd_end hD p
    have e1 : gvn xs.length (fun _ => true) (fun i => F (es.getD i .none)) = es.map F := by
      unfold gvn
      rw [hlen, List.filter_eq_self.mpr fun _ _ => rfl]
      refine List.ext_getElem (by simp) fun i h1 h2 => ?_
      simp only [List.length_map] at h2
      simp [List.getElem?_eq_getElem h2]
    rw [e1] at hd
    exact q _ G3 H' (x.trans y) hd
end
end Kx
namespace Kx
open PySem PySem.Spec PyProof.Rows L2 Evl
section
variable {K : PySem.W.Frag} {σ : L2.St} {G H : Hp} {te tl : TE} {es : List PyData} {c : TT} {t u tb : TS} {D : Ends} {j : Nat}
theorem rd_ifF (h : EvT c σ G false) (e : Ex G H) (q : ∀ H2, Ex H H2 → u D σ H2) : tIfS c t u D σ H := h H e _ fun H2 e2 => q H2 e2
theorem rd_sifF {t2 : TS} (h : EvT c σ G false) (e : Ex G H) (q : ∀ H2, Ex H H2 → u D σ H2) : tSeq (tIfS c t tNext) u D σ H := h H e _ fun H2 e2 => q H2 e2
/-- a loop over data: R holds of the slots, things are only made -/
theorem rd_for (R : L2.St → Prop) (h : EvD K tl σ G (.list es)) (e : Ex G H) (r0 : R σ)
    (hb : ∀ H1 G2, Ext G H G2 H1 → ∀ (i : Nat) d x σ' H', es[i]? = some d → Dq K G2 x d → R σ' → Ex H1 H' → tb { D with nx := fun σ2 H2 => R σ2 ∧ Ex H1 H2, ct := fun σ2 H2 => R σ2 ∧ Ex H1 H2, bk := D.nx } (σ'.set j (some x)) H')
    (hd : ∀ σ' H', R σ' → Ex H H' → D.nx σ' H') : tFor (iList K tl) (gName j) tb D σ H := h H e _ fun v G2 H1 x hx => by
  cases hx with
  | @lst a xs _ ha hs =>
  refine ⟨a, rfl, ⟨xs, SqL.of (x.gh _ _ ha)⟩, ?_⟩
  refine for_list (K := K) (a := a) (xs := xs) (fun _ σ' H' => R σ' ∧ Ex H1 H') ⟨r0, Ex.refl H1⟩ (fun i σ' H' _ p => SqL.of (p.2 _ _ (x.gh _ _ ha))) (fun i y σ' H' hi p => ?_) (fun σ' H' p => hd σ' H' p.1 (x.hh.trans p.2))
  obtain ⟨d, hdx, gx⟩ := dqa_get hs hi
  exact hb H1 G2 x i d y σ' H' hdx gx p.1 p.2
theorem rd_sfor (R : L2.St → Prop) (h : EvD K tl σ G (.list es)) (e : Ex G H) (r0 : R σ)
    (hb : ∀ H1 G2, Ext G H G2 H1 → ∀ (i : Nat) d x σ' H', es[i]? = some d → Dq K G2 x d → R σ' → Ex H1 H' → tb { D with nx := fun σ2 H2 => R σ2 ∧ Ex H1 H2, ct := fun σ2 H2 => R σ2 ∧ Ex H1 H2, bk := u D } (σ'.set j (some x)) H')
    (hd : ∀ σ' H', R σ' → Ex H H' → u D σ' H') : tSeq (tFor (iList K tl) (gName j) tb) u D σ H :=
  rd_for (D := { D with nx := u D }) R h e r0 hb hd
end
end Kx

set_option Elab.async false
set_option maxRecDepth 100000
set_option linter.all false
set_option maxHeartbeats 2000000
/-! KitW: more statements, read with data. -/
namespace Kx
open PySem PySem.Spec PyProof.Rows L2 Evl
section
variable {K : PySem.W.Frag} {σ : L2.St} {G H : Hp} {ta tb : TE} {d e : PyData} {u : TS} {D : Ends} {i j : Nat}
theorem rd_spar (h1 : EvD K ta σ G d) (h2 : EvD K tb σ G e) (x0 : Ex G H) (q : ∀ v w G2 H2, Ext G H G2 H2 → Dq K G2 v d → Dq K G2 w e → u D ((σ.set i (some v)).set j (some w)) H2) : tSeq (tPar i j (tCons ta (tCons tb tNil))) u D σ H :=
  (da_cons h1 (da_cons h2 eda_nil) : EvDA K _ σ G [d, e]) H x0 (fun vs H1 => ∃ v w, vs = [v, w] ∧ u D ((σ.set i (some v)).set j (some w)) H1) fun vs G2 H2 x hd => by
    cases hd with
    | cons g1 hd =>
    cases hd with
    | cons g2 hd =>
    cases hd
    exact ⟨_, _, rfl, q _ _ G2 H2 x g1 g2⟩
end
end Kx

set_option Elab.async false
set_option maxRecDepth 100000
set_option linter.all false
set_option maxHeartbeats 2000000
/-! KitX: slices, items, repetitions, choices, tuple(..) of data. -/
namespace Kx
open PySem PySem.Spec PyProof.Rows L2 Evl
section
variable {K : PySem.W.Frag} {σ : L2.St} {G H : Hp} {te ta tb ti : TE} {d e : PyData} {ds : List PyData} {t : TT}
theorem dqa_drop {H : Hp} : ∀ {vs : List V} {ds : List PyData} (i : Nat), DqA K H vs ds → DqA K H (vs.drop i) (ds.drop i)
  | _, _, 0, h => h
  | _, _, i + 1, .nil => .nil
  | _, _, i + 1, .cons a b => dqa_drop i b
/-- the data of a slice -/
def cutD (ds : List PyData) (lo hi : Option Int) : List PyData := (ds.drop (HT.sIx ds.length 0 lo)).take (HT.sIx ds.length ds.length hi - HT.sIx ds.length 0 lo)
theorem ed_sl {tl th : TO} {lo hi : Option Int} (h : EvD K te σ G (.list ds)) (h1 : ∀ G', Ex G G' → EvO tl σ G' lo) (h2 : ∀ G', Ex G G' → EvO th σ G' hi) : EvD K (tSl (rSlL K) te tl th) σ G (.list (cutD ds lo hi)) := fun H1 x Q q =>
  h H1 x _ fun v G2 H2 y hd => by
    cases hd with
    | @lst a xs _ ha hx =>
    have hl := dqa_len hx
    refine h1 H2 (x.trans y.hh) H2 (Ex.refl H2) _ fun H3 e3 => h2 H3 (x.trans (y.hh.trans e3)) H3 (Ex.refl H3) _ fun H4 e4 => ?_
    have e34 := e3.trans e4
    refine ⟨a, xs, rfl, SqL.of (e34 _ _ (y.gh _ _ ha)), fun p hp => ?_⟩
    have y4 : Ext G H1 G2 H4 := ⟨y.hh.trans e34, y.gg, y.gh.trans e34, y.ag⟩
    refine q _ _ _ (y4.more (o := .lst (cutV xs lo hi)) hp (Ex.new hp) upd_same) (.lst upd_same ?_)
    refine DqA.mono (same_ex (Ex.new (fresh_back y4.gh hp))) ?_
    unfold cutV cutD
    rw [hl]
    exact dqa_take _ (dqa_drop _ hx)
theorem dqa_nth {H : Hp} : ∀ {vs : List V} {ds : List PyData} {i : Nat} {d : PyData}, DqA K H vs ds → ds[i]? = some d → ∃ v, vs[i]? = some v ∧ Dq K H v d
  | _, _, 0, _, .cons a _, h => ⟨_, rfl, by simp only [List.getElem?_cons_zero] at h; rw [← Option.some.inj h]; exact a⟩
  | _, _, i + 1, _, .cons _ b, h => by
    simp only [List.getElem?_cons_succ] at h ⊢
    exact dqa_nth b h
theorem ed_ixL {i : Nat} (h : EvD K te σ G (.list ds)) (hi : Ev ti σ G (.int (i : Int))) (hd : ds[i]? = some d) : EvD K (tOp (rIxL K) te ti) σ G d := fun H1 x Q q =>
  h H1 x _ fun v G2 H2 y hx => hi H2 (x.trans y.hh) _ fun H3 e3 => by
    cases hx with
    | @lst a xs _ ha hx =>
    obtain ⟨u, hu, gu⟩ := dqa_nth hx hd
    exact ⟨a, xs, _, u, rfl, rfl, SqL.of (e3 _ _ (y.gh _ _ ha)), atI_nat hu, q u G2 H3 ⟨y.hh.trans e3, y.gg, y.gh.trans e3, y.ag⟩ gu⟩
theorem ed_ixT {i : Nat} (h : EvD K te σ G (.tuple ds)) (hi : Ev ti σ G (.int (i : Int))) (hd : ds[i]? = some d) : EvD K (tOp (rIxT K) te ti) σ G d := fun H1 x Q q =>
  h H1 x _ fun v G2 H2 y hx => hi H2 (x.trans y.hh) _ fun H3 e3 => by
    cases hx with
    | @tup a xs _ ha hx =>
    obtain ⟨u, hu, gu⟩ := dqa_nth hx hd
    exact ⟨a, xs, _, u, rfl, rfl, sqt_ex (same_ex (y.gh.trans e3)) ha, atI_nat hu, q u G2 H3 ⟨y.hh.trans e3, y.gg, y.gh.trans e3, y.ag⟩ gu⟩
theorem dqa_rep {H : Hp} {vs : List V} {ds : List PyData} (h : DqA K H vs ds) : ∀ n : Nat, DqA K H (List.replicate n vs).flatten (List.replicate n ds).flatten
  | 0 => .nil
  | n + 1 => by
    simp only [List.replicate_succ, List.flatten_cons]
    exact ed_cat.dqa_cat h (dqa_rep h n)
theorem ed_rep {n : Nat} (h : EvD K te σ G (.list ds)) (hi : Ev ti σ G (.int (n : Int))) (hl : ds.length * n ≤ 100000) (hn : n ≤ 100000) : EvD K (tOp rRep te ti) σ G (.list (List.replicate n ds).flatten) := fun H1 x Q q =>
  h H1 x _ fun v G2 H2 y hx => hi H2 (x.trans y.hh) _ fun H3 e3 => by
    cases hx with
    | @lst a xs _ ha hx =>
    have l1 := dqa_len hx
    have y3 : Ext G H1 G2 H3 := ⟨y.hh.trans e3, y.gg, y.gh.trans e3, y.ag⟩
    refine ⟨a, _, xs, rfl, rfl, e3 _ _ (y.gh _ _ ha), by omega, by omega, by rw [Int.toNat_natCast, l1]; exact sz_of hl, fun p hp => ?_⟩
    rw [Int.toNat_natCast]
    exact q _ _ _ (y3.more (o := .lst (List.replicate n xs).flatten) hp (Ex.new hp) upd_same) (.lst upd_same ((dqa_rep hx n).mono (same_ex (Ex.new (fresh_back y3.gh hp)))))
theorem ed_if {b : Bool} (h : EvT t σ G b) (h1 : b = true → EvD K ta σ G d) (h2 : b = false → EvD K tb σ G d) : EvD K (tIf t ta tb) σ G d := fun H1 x Q q =>
  h H1 x _ fun H2 e2 => by
    cases b with
    | true => exact h1 rfl H2 (x.trans e2) Q fun v G2 H3 y hd => q v G2 H3 ⟨e2.trans y.hh, y.gg, y.gh, fun a o ha => y.ag a o (e2 _ _ ha)⟩ hd
    | false => exact h2 rfl H2 (x.trans e2) Q fun v G2 H3 y hd => q v G2 H3 ⟨e2.trans y.hh, y.gg, y.gh, fun a o ha => y.ag a o (e2 _ _ ha)⟩ hd
theorem ed_tupOf (h : EvD K te σ G (.list ds)) : EvD K (tThen te (kTup K)) σ G (.tuple ds) := fun H1 x Q q =>
  h H1 x _ fun v G2 H2 y hx => by
    cases hx with
    | @lst a xs _ ha hx =>
    refine .inl ⟨a, xs, rfl, SqL.of (y.gh _ _ ha), fun p hp => ?_⟩
    exact q _ _ _ (y.more (o := .tup xs) hp (Ex.new hp) upd_same) (.tup (.inl (.inl upd_same)) (hx.mono (same_ex (Ex.new (fresh_back y.gh hp)))))
end
end Kx

set_option Elab.async false
set_option maxRecDepth 100000
set_option linter.all false
set_option maxHeartbeats 2000000
namespace Kx
open PySem PySem.Spec PyProof.Rows L2 Evl
section
variable {K : PySem.W.Frag} {σ : L2.St} {G H : Hp} {te tl : TE} {ds es : List PyData} {tb u : TS} {D : Ends} {j : Nat}
theorem cutD_take (ds : List PyData) (k : Nat) : cutD ds none (some (k : Int)) = ds.take k := by
  have h1 : HT.sIx ds.length 0 none = 0 := rfl
  have h2 : HT.sIx ds.length ds.length (some (k : Int)) = min k ds.length := by
    unfold HT.sIx
    simp only
    split <;> omega
  unfold cutD
  rw [h1, h2, List.drop_zero, Nat.sub_zero, List.take_eq_take_iff]
  omega
theorem ed_take {th : TO} {i : Int} (k : Nat) (h : EvD K te σ G (.list ds)) (h2 : ∀ G', Ex G G' → EvO th σ G' (some i)) (hi : i = (k : Int) := by rfl) : EvD K (tSl (rSlL K) te tNoPart th) σ G (.list (ds.take k)) := by
  subst hi
  have := ed_sl (lo := none) (hi := some (k : Int)) h (fun _ _ => eo_none) h2
  rw [cutD_take] at this
  exact this
/-- a loop over range(n), n written -/
theorem rd_rng (R : L2.St → Prop) {n : Nat} {i : Int} (hi : i = (n : Int) := by rfl) (hn : n ≤ 1000 := by decide) (r0 : R σ)
    (hb : ∀ (i : Nat) σ' H', i < n → R σ' → Ex H H' → tb { D with nx := fun σ2 H2 => R σ2 ∧ Ex H H2, ct := fun σ2 H2 => R σ2 ∧ Ex H H2, bk := D.nx } (σ'.set j (some (.int (i : Int)))) H')
    (hd : ∀ σ' H', R σ' → Ex H H' → D.nx σ' H') : tFor (iRng1 (tCons (tC (.int i)) tNil)) (gName j) tb D σ H := by
  subst hi
  refine ⟨(n : Int), rfl, by omega, by omega, ?_⟩
  rw [Int.toNat_natCast]
  refine for_range (lo := 0) (n := n) (fun _ σ' H' => R σ' ∧ Ex H H') ⟨r0, Ex.refl H⟩ (fun i σ' H' hi p => ?_) (fun σ' H' p => hd σ' H' p.1 p.2)
  rw [Int.zero_add]
  exact hb i σ' H' hi p.1 p.2
theorem rd_srng (R : L2.St → Prop) {n : Nat} {i : Int} (hi : i = (n : Int) := by rfl) (hn : n ≤ 1000 := by decide) (r0 : R σ)
    (hb : ∀ (i : Nat) σ' H', i < n → R σ' → Ex H H' → tb { D with nx := fun σ2 H2 => R σ2 ∧ Ex H H2, ct := fun σ2 H2 => R σ2 ∧ Ex H H2, bk := u D } (σ'.set j (some (.int (i : Int)))) H')
    (hd : ∀ σ' H', R σ' → Ex H H' → u D σ' H') : tSeq (tFor (iRng1 (tCons (tC (.int i)) tNil)) (gName j) tb) u D σ H :=
  rd_rng (D := { D with nx := u D }) R hi hn r0 hb hd
end
end Kx

set_option Elab.async false
set_option maxRecDepth 100000
set_option linter.all false
set_option maxHeartbeats 2000000
namespace Kx
open PySem PySem.Spec PyProof.Rows L2 Evl
section
variable {K : PySem.W.Frag} {σ : L2.St} {G H : Hp} {te ti : TE} {ds : List PyData} {d : PyData} {c : TT} {t u : TS} {D : Ends} {b : Bool}
theorem cutD_last (ds : List PyData) (d : PyData) : cutD (ds ++ [d]) none (some (-1)) = ds := by
  have h1 : HT.sIx (ds ++ [d]).length 0 none = 0 := rfl
  have h2 : HT.sIx (ds ++ [d]).length (ds ++ [d]).length (some (-1)) = ds.length := by
    unfold HT.sIx
    simp
    omega
  unfold cutD
  rw [h1, h2, List.drop_zero, Nat.sub_zero]
  simp
theorem cutD_from (ds : List PyData) (k : Nat) : cutD ds (some (k : Int)) none = ds.drop k := by
  have h1 : HT.sIx ds.length ds.length none = ds.length := rfl
  have h2 : HT.sIx ds.length 0 (some (k : Int)) = min k ds.length := by
    unfold HT.sIx
    simp only
    split <;> omega
  unfold cutD
  rw [h1, h2]
  by_cases h : k ≤ ds.length
  · rw [Nat.min_eq_left h]
    exact List.take_of_length_le (by rw [List.length_drop]; exact Nat.le_refl _)
  · rw [Nat.min_eq_right (by omega), List.drop_of_length_le (Nat.le_refl _), List.drop_of_length_le (by omega)]
    simp
theorem ed_init {tl th : TO} (h : EvD K te σ G (.list (ds ++ [d]))) (h1 : ∀ G', Ex G G' → EvO tl σ G' none) (h2 : ∀ G', Ex G G' → EvO th σ G' (some (-1))) : EvD K (tSl (rSlL K) te tl th) σ G (.list ds) := by
  have := ed_sl h h1 h2
  rw [cutD_last] at this
  exact this
theorem ed_from {tl th : TO} (k : Nat) (h : EvD K te σ G (.list ds)) (h1 : ∀ G', Ex G G' → EvO tl σ G' (some (k : Int))) (h2 : ∀ G', Ex G G' → EvO th σ G' none) : EvD K (tSl (rSlL K) te tl th) σ G (.list (ds.drop k)) := by
  have := ed_sl h h1 h2
  rw [cutD_from] at this
  exact this
theorem atI_last {α : Type} (xs : List α) (x : α) : atI (xs ++ [x]) (-1) = some x := by
  have h : ixN (xs ++ [x]).length (-1) = some xs.length := by
    unfold ixN
    rw [if_neg (by omega), if_pos (by rw [List.length_append]; show -((xs.length + 1 : Nat) : Int) ≤ -1; omega), List.length_append]
    show some ((-1 : Int) + ((xs.length + 1 : Nat) : Int)).toNat = some xs.length
    congr 1
    omega
  unfold atI
  rw [h]
  simp
theorem dqa_snoc {H : Hp} : ∀ {ds : List PyData} {vs : List V}, DqA K H vs (ds ++ [d]) → ∃ ws w, vs = ws ++ [w] ∧ DqA K H ws ds ∧ Dq K H w d
  | [], vs, h => by
    cases h with
    | cons a b =>
    cases b
    exact ⟨[], _, rfl, .nil, a⟩
  | e :: ds, vs, h => by
    cases h with
    | cons a b =>
    obtain ⟨ws, w, rfl, h1, h2⟩ := dqa_snoc b
    exact ⟨_ :: ws, w, rfl, .cons a h1, h2⟩
theorem ed_ixLast (h : EvD K te σ G (.list (ds ++ [d]))) (hi : Ev ti σ G (.int (-1))) : EvD K (tOp (rIxL K) te ti) σ G d := fun H1 x Q q =>
  h H1 x _ fun v G2 H2 y hx => hi H2 (x.trans y.hh) _ fun H3 e3 => by
    cases hx with
    | @lst a xs _ ha hx =>
    obtain ⟨ws, w, rfl, _, gw⟩ := dqa_snoc hx
    exact ⟨a, _, _, w, rfl, rfl, SqL.of (e3 _ _ (y.gh _ _ ha)), atI_last _ _, q w G2 H3 ⟨y.hh.trans e3, y.gg, y.gh.trans e3, y.ag⟩ gw⟩
theorem ed_rev (h : EvD K te σ G (.list ds)) : EvD K (tRevL K te) σ G (.list ds.reverse) := fun H1 x Q q =>
  h H1 x _ fun v G2 H2 y hx => by
    cases hx with
    | @lst a xs _ ha hx =>
    refine ⟨a, xs, rfl, SqL.of (y.gh _ _ ha), fun p hp => ?_⟩
    exact q _ _ _ (y.more (o := .lst xs.reverse) hp (Ex.new hp) upd_same) (.lst upd_same ((dqa_rv hx).mono (same_ex (Ex.new (fresh_back y.gh hp)))))
where
  dqa_rv {G : Hp} : ∀ {vs : List V} {ds : List PyData}, DqA K G vs ds → DqA K G vs.reverse ds.reverse
  | _, _, .nil => .nil
  | _, _, .cons a b => by
    rw [List.reverse_cons, List.reverse_cons]
    exact dqa_app (dqa_rv b) a
theorem ev_lenD (h : EvD K te σ G (.list ds)) : Ev (tCB (rLenS K) (tCons te tNil)) σ G (.int (ds.length : Int)) := fun H1 x Q q =>
  h H1 x _ fun v G2 H2 y hx => by
    cases hx with
    | @lst a xs _ ha hx =>
    have hl := dqa_len hx
    refine ⟨a, xs, rfl, .inl (SqL.of (y.gh _ _ ha)), ?_⟩
    rw [hl]
    exact q H2 y.hh
theorem rd_sifX (h : EvT c σ G b) (e : Ex G H) (q1 : b = true → ∀ H2, Ex H H2 → t { D with nx := u D } σ H2) (q2 : b = false → ∀ H2, Ex H H2 → u D σ H2) : tSeq (tIfS c t tNext) u D σ H := h H e _ fun H2 e2 => by
  cases b with
  | true => exact q1 rfl H2 e2
  | false => exact q2 rfl H2 e2
theorem rd_ifX (h : EvT c σ G b) (e : Ex G H) (q1 : b = true → ∀ H2, Ex H H2 → t D σ H2) (q2 : b = false → ∀ H2, Ex H H2 → D.nx σ H2) : tIfS c t tNext D σ H := h H e _ fun H2 e2 => by
  cases b with
  | true => exact q1 rfl H2 e2
  | false => exact q2 rfl H2 e2
end
/-- a list of our own that grows at F, holding data that is known -/
structure Fnd (K : PySem.W.Frag) (G0 H0 : Hp) (F : Addr) (ds : List PyData) (G H : Hp) : Prop where
  hh : Ex H0 H
  gg : Ex G0 G
  gh : Ex G H
  gF : G F = none
  h0 : H0 F = none
  ag : ∀ a o, H0 a = some o → G a = G0 a
  at_ : ∃ vs, H F = some (.lst vs) ∧ DqA K G vs ds
section
variable {K : PySem.W.Frag} {σ : L2.St} {G0 H0 G H H2 : Hp} {F : Addr} {ds : List PyData} {d : PyData} {te : TE} {u : TS} {D : Ends} {i : Nat}
theorem Fnd.ex (s : Fnd K G0 H0 F ds G H) (e : Ex H H2) : Fnd K G0 H0 F ds G H2 := ⟨s.hh.trans e, s.gg, s.gh.trans e, s.gF, s.h0, s.ag, let ⟨vs, a, b⟩ := s.at_; ⟨vs, e _ _ a, b⟩⟩
theorem rd_push (s : Fnd K G0 H0 F ds G H) (hσ : σ[i]? = some (some (.ref F))) (h : EvD K te σ G d) (hl : ds.length ≤ 1000) (k : ∀ G2 H2, Fnd K G0 H0 F (ds ++ [d]) G2 H2 → Ex G G2 → D.nx σ H2) : tDrop (tBM K "list" rAppend (tVar i) (tCons te tNil)) D σ H := by
  obtain ⟨vs, hF, hd⟩ := s.at_
  refine ⟨_, hσ, .inl ⟨rfl, _, SqL.of hF⟩, ?_⟩
  refine h H s.gh _ fun v G2 H2 x hv => ?_
  have hF2 := x.hh _ _ hF
  have g2 : G2 F = none := (x.ag _ _ hF).trans s.gF
  have l1 := dqa_len hd
  refine ⟨F, vs, v, rfl, rfl, hF2, sz_lt (by omega), k G2 _ ⟨fun a o e => ?_, s.gg.trans x.gg, fun a o e => ?_, g2, s.h0, fun a o e => (x.ag a o (s.hh a o e)).trans (s.ag a o e), vs ++ [v], upd_same, dqa_app (hd.mono (same_ex x.gg)) hv⟩ x.gg⟩
  · rw [upd_ne (ne_of_none e s.h0)]
    exact x.hh _ _ (s.hh _ _ e)
  · rw [upd_ne (ne_of_none e g2)]
    exact x.gh _ _ e
theorem rd_spush (s : Fnd K G0 H0 F ds G H) (hσ : σ[i]? = some (some (.ref F))) (h : EvD K te σ G d) (hl : ds.length ≤ 1000) (k : ∀ G2 H2, Fnd K G0 H0 F (ds ++ [d]) G2 H2 → Ex G G2 → u D σ H2) : tSeq (tDrop (tBM K "list" rAppend (tVar i) (tCons te tNil))) u D σ H :=
  rd_push (D := { D with nx := u D }) s hσ h hl k
theorem rd_slst {ta : TA} {i : Nat} (h : EvDA K ta σ G ds) (e : Ex G H) (hl : ds.length ≤ 1000) (q : ∀ F G2 H2, Fnd K G H F ds G2 H2 → u D (σ.set i (some (.ref F))) H2) : tSeq (tAsg (tLst ta) (gName i)) u D σ H :=
  h H e (fun xs H1 => xs.length ≤ sizeLine ∧ ∀ p, H1 p = none → u D (σ.set i (some (.ref p))) (upd H1 p (.lst xs))) fun vs G2 H2 x hd => by
    have l1 := dqa_len hd
    exact ⟨sz_of (by omega), fun p hp => q p G2 _ ⟨x.hh.trans (Ex.new hp), x.gg, x.gh.trans (Ex.new hp), fresh_back x.gh hp, fresh_back x.hh hp, x.ag, vs, upd_same, hd⟩⟩
theorem Fnd.done (s : Fnd K G0 H0 F ds G H) : ∃ G2, Ext G0 H0 G2 H ∧ Dq K G2 (.ref F) (.list ds) := by
  obtain ⟨vs, hF, hd⟩ := s.at_
  refine ⟨upd G F (.lst vs), ⟨s.hh, s.gg.trans (Ex.new s.gF), fun a o h => ?_, fun a o h => ?_⟩, .lst upd_same (hd.mono (same_ex (Ex.new s.gF)))⟩
  · by_cases z : a = F
    · rw [z, upd_same] at h
      rw [z, hF]
      exact h
    · rw [upd_ne z] at h
      exact s.gh a o h
  · rw [upd_ne (ne_of_none h s.h0)]
    exact s.ag a o h
theorem ed_eq {e : PyData} (h : EvD K te σ G d) (he : d = e) : EvD K te σ G e := he ▸ h
theorem rd_sasgG {g : TG} (h : te σ H fun x H1 => g x σ H1 (u D)) : tSeq (tAsg te g) u D σ H := h
theorem rd_srngP {n j : Nat} {tb : TS} (Pv : Nat → L2.St → Hp → Prop) (h : Ev te σ G (.int (n : Int))) (e : Ex G H) (hn : n ≤ 1000) (h0 : ∀ H2, Ex H H2 → Pv 0 σ H2)
    (hb : ∀ (i : Nat) σ' H', i < n → Pv i σ' H' → tb { D with nx := Pv (i + 1), ct := Pv (i + 1), bk := u D } (σ'.set j (some (.int (i : Int)))) H') (hd : ∀ σ' H', Pv n σ' H' → u D σ' H') : tSeq (tFor (iRng1 (tCons te tNil)) (gName j) tb) u D σ H :=
  h H e _ fun H2 e2 => by
    refine ⟨(n : Int), rfl, by omega, by omega, ?_⟩
    rw [Int.toNat_natCast]
    refine for_range (lo := 0) (n := n) Pv (h0 H2 e2) (fun i σ' H' hi p => ?_) hd
    rw [Int.zero_add]
    exact hb i σ' H' hi p
end
end Kx

set_option Elab.async false
set_option maxRecDepth 100000
set_option linter.all false
set_option maxHeartbeats 2000000
/-! KitTx: what repr shows of data is a text of good signs again. -/
namespace Kx
open PySem PySem.Spec PyProof.Rows L2 Evl
def Gd (x : Str) : Prop := ∀ c ∈ x.cps.toList, c < 0x110000
theorem gd_iff {x : Str} : PySem.PyData.strOk x = true ↔ Gd x := by
  unfold PySem.PyData.strOk Gd
  rw [Array.all_eq_true_iff_forall_mem]
  simp
theorem gd_app {x y : Str} (a : Gd x) (b : Gd y) : Gd (x ++ y) := by
  intro c hc
  have : c ∈ (x.cps ++ y.cps).toList := hc
  rw [Array.toList_append, List.mem_append] at this
  exact this.elim (a c) (b c)
theorem chr_lt (c : Char) : c.toNat < 0x110000 := by
  have := c.valid
  show c.val.toNat < _
  rcases this with h | ⟨_, h⟩
  · exact Nat.lt_trans h (by decide)
  · exact h
theorem gd_str (s : String) : Gd (Str.ofString s) := by
  rw [Str.ofString_eq_toList]
  intro c hc
  obtain ⟨ch, _, rfl⟩ := List.mem_map.mp hc
  exact chr_lt ch
theorem gd_char {q c : Nat} (hq : q < 0x110000) (hc : c < 0x110000) : ∀ z ∈ Builtin.Str.reprChar q c, z < 0x110000 := by
  intro z hz
  have hx : ∀ w : Nat, ∀ z ∈ (let d := (Nat.toDigits 16 c).map Char.toNat; List.replicate (w - d.length) 48 ++ d), z < 0x110000 := by
    intro w z hz
    rcases List.mem_append.mp hz with hz | hz
    · rw [List.eq_of_mem_replicate hz]; decide
    · obtain ⟨ch, _, rfl⟩ := List.mem_map.mp hz
      exact chr_lt ch
  unfold Builtin.Str.reprChar at hz
  dsimp only at hz
  repeat' split at hz
  all_goals
    simp only [List.mem_cons, List.mem_append, List.not_mem_nil, or_false, List.cons_append, List.nil_append] at hz
  · rcases hz with rfl | rfl
    · decide
    · exact hc
  · rcases hz with rfl | rfl <;> decide
  · rcases hz with rfl | rfl <;> decide
  · rcases hz with rfl | rfl <;> decide
  · rw [hz]; exact hc
  · rcases hz with rfl | rfl | hz
    · decide
    · decide
    · exact hx 2 z (List.mem_append.mpr hz)
  · rcases hz with rfl | rfl | hz
    · decide
    · decide
    · exact hx 4 z (List.mem_append.mpr hz)
  · rcases hz with rfl | rfl | hz
    · decide
    · decide
    · exact hx 8 z (List.mem_append.mpr hz)
theorem gd_fold {q : Nat} (hq : q < 0x110000) : ∀ (l : List Nat) (acc : Array Nat), (∀ c ∈ l, c < 0x110000) → (∀ c ∈ acc.toList, c < 0x110000) → ∀ c ∈ (l.foldl (fun out c => out ++ (Builtin.Str.reprChar q c).toArray) acc).toList, c < 0x110000
  | [], acc, _, ha => ha
  | c :: l, acc, hl, ha => by
    rw [List.foldl_cons]
    refine gd_fold hq l _ (fun z hz => hl z (List.mem_cons_of_mem _ hz)) fun z hz => ?_
    rw [Array.toList_append, List.mem_append] at hz
    rcases hz with hz | hz
    · exact ha z hz
    · exact gd_char hq (hl c (List.mem_cons_self ..)) z hz
theorem gd_repr {x : Str} (h : Gd x) : Gd (reprText x) := by
  have hq : reprQuote x < 0x110000 := by unfold reprQuote; split <;> decide
  intro c hc
  unfold reprText at hc
  rw [Array.toList_push, List.mem_append] at hc
  rcases hc with hc | hc
  · rw [← Array.foldl_toList] at hc
    refine gd_fold hq _ _ h (fun c hc => ?_) c hc
    have : c = reprQuote x := by simpa using hc
    rw [this]
    exact hq
  · rw [List.mem_singleton.mp hc]
    exact hq
theorem gd_from : ∀ (ts : List Str) (k : Nat) (acc : Str), (∀ t ∈ ts, Gd t) → Gd acc → Gd (textFrom k acc ts)
  | [], _, _, _, ha => ha
  | t :: ts, k, acc, ht, ha => gd_from ts (k + 1) _ (fun y hy => ht y (List.mem_cons_of_mem _ hy)) (gd_app (gd_app ha (gd_str _)) (ht t (List.mem_cons_self ..)))
theorem gd_join {sep : Str} (hs : Gd sep) : ∀ ts : List Str, (∀ t ∈ ts, Gd t) → Gd (Str.join sep ts)
  | [], _ => fun c hc => nomatch hc
  | [x], h => h x (List.mem_cons_self ..)
  | x :: y :: r, h => gd_app (gd_app (h x (List.mem_cons_self ..)) hs) (gd_join hs (y :: r) fun t ht => h t (List.mem_cons_of_mem _ ht))
mutual
/-- the texts within data are of good signs -/
def txB : PyData → Bool
  | .none => true
  | .bool _ => true
  | .int _ => true
  | .str x => PySem.PyData.strOk x
  | .list xs => txA xs
  | .tuple xs => txA xs
  | .dict kvs => txD kvs
def txA : List PyData → Bool
  | [] => true
  | x :: xs => txB x && txA xs
def txD : List (PyData × PyData) → Bool
  | [] => true
  | (k, v) :: r => txB k && txB v && txD r
end
mutual
theorem gd_shown : ∀ d : PyData, txB d = true → Gd d.shown
  | .none, _ => by rw [PyData.shown]; exact gd_str _
  | .bool b, _ => by rw [PyData.shown]; split <;> exact gd_str _
  | .int i, _ => by rw [PyData.shown]; exact gd_str _
  | .str x, h => by
    rw [PyData.shown]
    exact gd_repr (gd_iff.mp (by simpa only [txB] using h))
  | .list xs, h => by
    rw [PyData.shown]
    exact gd_app (gd_from _ _ _ (gd_shownA xs (by simpa only [txB] using h)) (gd_str _)) (gd_str _)
  | .tuple xs, h => by
    rw [PyData.shown]
    exact gd_app (gd_app (gd_str _) (gd_join (gd_str _) _ (gd_shownA xs (by simpa only [txB] using h)))) (gd_str _)
  | .dict kvs, h => by
    rw [PyData.shown]
    exact gd_app (gd_app (gd_str _) (gd_join (gd_str _) _ (gd_shownD kvs (by simpa only [txB] using h)))) (gd_str _)
theorem gd_shownA : ∀ ds : List PyData, txA ds = true → ∀ t ∈ PyData.shownAll ds, Gd t
  | [], _, t, ht => by rw [PyData.shownAll] at ht; cases ht
  | d :: ds, h, t, ht => by
    simp only [txA, Bool.and_eq_true] at h
    rw [PyData.shownAll] at ht
    rcases List.mem_cons.mp ht with rfl | ht
    · exact gd_shown d h.1
    · exact gd_shownA ds h.2 t ht
theorem gd_shownD : ∀ ds : List (PyData × PyData), txD ds = true → ∀ t ∈ PyData.shownKv ds, Gd t
  | [], _, t, ht => by rw [PyData.shownKv] at ht; cases ht
  | (k, v) :: ds, h, t, ht => by
    simp only [txD, Bool.and_eq_true] at h
    rw [PyData.shownKv] at ht
    rcases List.mem_cons.mp ht with rfl | ht
    · exact gd_app (gd_app (gd_shown k h.1.1) (gd_str _)) (gd_shown v h.1.2)
    · exact gd_shownD ds h.2 t ht
end
theorem tx_shown {d : PyData} (h : txB d = true) : PySem.PyData.strOk d.shown = true := gd_iff.mpr (gd_shown d h)
theorem txA_all : ∀ {ds : List PyData}, (∀ d ∈ ds, txB d = true) → txA ds = true
  | [], _ => rfl
  | d :: ds, h => by
    simp only [txA, h d (List.mem_cons_self ..), txA_all fun x hx => h x (List.mem_cons_of_mem _ hx), Bool.and_self]
end Kx

set_option Elab.async false
set_option maxRecDepth 100000
set_option linter.all false
set_option maxHeartbeats 2000000
/-! KitV2: tuples of any data put together and cut, as data. -/
namespace Kx
open PySem PySem.Spec PyProof.Rows L2 Evl
section
variable {K : PySem.W.Frag} {σ : L2.St} {G : Hp} {ta tb : TE} {ds es : List PyData}
theorem tup_at {v : V} (h : Dq K G v (.tuple ds)) : ∃ a xs, v = .ref a ∧ SqT K G a xs ∧ DqA K G xs ds := by
  cases h with
  | tup h1 h2 => exact ⟨_, _, rfl, h1, h2⟩
theorem dqa_catV {H : Hp} {ws : List V} {es : List PyData} : ∀ {vs : List V} {ds : List PyData}, DqA K H vs ds → DqA K H ws es → DqA K H (vs ++ ws) (ds ++ es)
  | _, _, .nil, h => h
  | _, _, .cons a b, h => .cons a (dqa_catV b h)
theorem ed_catT (h : EvD K ta σ G (.tuple ds)) (hb : EvD K tb σ G (.tuple es)) (hl : ds.length + es.length ≤ 4096) : EvD K (tOp (rCatA K) ta tb) σ G (.tuple (ds ++ es)) := fun H1 e Q q =>
  h H1 e _ fun v G2 H2 x hd => (hb.mono x.gg) H2 x.gh _ fun v' G3 H3 y he => by
    obtain ⟨a, xs, rfl, ha, hx⟩ := tup_at (hd.mono (same_ex y.gg))
    obtain ⟨b, ys, rfl, hb', hy⟩ := tup_at he
    have lx := dqa_len hx
    have ly := dqa_len hy
    refine ⟨a, b, xs, ys, rfl, rfl, sqt_ex (same_ex y.gh) ha, sqt_ex (same_ex y.gh) hb', Nat.le_trans (show xs.length + ys.length ≤ 4096 by omega) (by decide), fun z => ?_, fun n z => ?_, fun n m c nc => ?_⟩
    · have : ds = [] := List.eq_nil_of_length_eq_zero (by rw [← lx, z]; rfl)
      subst this
      exact q _ G3 H3 (x.trans y) (.tup hb' hy)
    · have : es = [] := List.eq_nil_of_length_eq_zero (by rw [← ly, z]; rfl)
      subst this
      refine q _ G3 H3 (x.trans y) ?_
      rw [List.append_nil]
      exact .tup ha hx
    · have eN := Ex.new (o := .tup (xs ++ ys)) (fresh_back y.gh nc)
      exact q _ _ _ ((x.trans y).trans (Kx.Ext.new y.gh nc (Ex.new nc) upd_same)) (.tup (.inl (.inl upd_same)) (dqa_catV (hx.mono (same_ex eN)) (hy.mono (same_ex eN))))
theorem dqa_cut {H : Hp} {vs : List V} {ds : List PyData} (lo hi : Option Int) (h : DqA K H vs ds) : DqA K H (cutV vs lo hi) (cutL ds lo hi) := by
  have hl := dqa_len h
  have dr : ∀ (n : Nat) {vs : List V} {ds : List PyData}, DqA K H vs ds → DqA K H (vs.drop n) (ds.drop n) := by
    intro n
    induction n with
    | zero => intro vs ds h; exact h
    | succ n ih =>
      intro vs ds h
      cases h with
      | nil => exact .nil
      | cons a b => exact ih b
  unfold cutV cutL
  rw [hl]
  exact dqa_take _ (dr _ h)
/-- t[:-1] -/
theorem ed_slT (h : EvD K ta σ G (.tuple ds)) : EvD K (tSl (rSlA K) ta tNoPart (tPart (tUn (rU fun i => .int (-i)) (tC (.int 1))))) σ G (.tuple (cutL ds none (some (-1)))) := fun H1 e Q q =>
  h H1 e _ fun v G2 H2 x hd => by
    obtain ⟨a, xs, rfl, ha, hx⟩ := tup_at hd
    have lx := dqa_len hx
    refine ⟨1, rfl, -1, rfl, a, xs, rfl, sqt_ex (same_ex x.gh) ha, fun z => ?_, fun z c nc => ?_⟩
    · rw [lx] at z
      have := q (.ref a) G2 H2 x
      rw [cutL_whole z] at this
      exact this hd
    · have eN := Ex.new (o := .tup (cutV xs none (some (-1)))) (fresh_back x.gh nc)
      exact q _ _ _ (x.trans (Kx.Ext.new x.gh nc (Ex.new nc) upd_same)) (.tup (.inl (.inl upd_same)) ((dqa_cut _ _ hx).mono (same_ex eN)))
theorem ed_as {te te' : TE} {d : PyData} (h : EvD K te σ G d) (e : te = te') : EvD K te' σ G d := e ▸ h
end
theorem cutL_mem {α : Type} {xs : List α} {lo hi : Option Int} {x : α} (h : x ∈ cutL xs lo hi) : x ∈ xs := List.mem_of_mem_drop (List.mem_of_mem_take h)
theorem cutL_len {α : Type} (xs : List α) (lo hi : Option Int) : (cutL xs lo hi).length ≤ xs.length := by
  unfold cutL
  rw [List.length_take, List.length_drop]
  omega
end Kx

set_option Elab.async false
set_option maxRecDepth 100000
set_option linter.all false
set_option maxHeartbeats 4000000
namespace Lx
open PySem PySem.Spec PyProof.Rows L2 Evl Kx
theorem tx_name {x : Str} (h : x ∈ rightsN ∨ x ∈ namesO ∨ x ∈ namesG) : txB (.str x) = true := (good_of h).2.2
theorem shw {d : PyData} {n : Nat} (h : ShowB d n) (hn : n ≤ 16000000) : d.showable = true ∧ d.shown.length ≤ sizeLine := ⟨h.1, Nat.le_trans (shown_le _) (Nat.le_trans (Nat.le_trans h.2 hn) (by decide))⟩
theorem plc_dep (x : Str × List Int) : (plcD x).depth ≤ 4 := by
  have := pt_dep x.2
  simp only [plcD, PyData.depth, PyData.depthAll]
  omega
theorem depA_all {n : Nat} : ∀ {ds : List PyData}, (∀ d ∈ ds, d.depth ≤ n) → PyData.depthAll ds ≤ n
  | [], _ => by simp [PyData.depthAll]
  | d :: ds, h => by
    have h1 := h d (List.mem_cons_self ..)
    have h2 := depA_all (ds := ds) fun x hx => h x (List.mem_cons_of_mem _ hx)
    simp only [PyData.depthAll]
    omega
theorem Nice.fb {q : Prt} (n : Nice q) : ∀ g ∈ q.fs, nstB g.2.2 ≤ 4 ∧ cntB g.2.2 ≤ 100 := fun g hg => ⟨(n.fm g hg).2.2.2.1, (n.fm g hg).2.2.2.2⟩
theorem every_name {q : Prt} (n : Nice q) {x : Str × List Int × Stp} (h : x ∈ everyF q.fs) : x.1 ∈ namesG := by
  obtain ⟨g, hg, e, _⟩ := mem_every.mp h
  rw [e]
  exact (n.fm g hg).1
theorem every_len' {q : Prt} (n : Nice q) : (everyF q.fs).length ≤ 600 := by
  have := every_len (n := 100) (fs := q.fs) fun g hg => (n.fb g hg).2
  have := n.fl
  omega
theorem inn_ok {rs ns : List Str} {mk : Bool} {s : Stp} {x : List Int × List Stp} (h : x ∈ innP s) (ok : okS rs ns mk s = true) : ∃ mk', Kx.okB rs ns mk' x.2 = true := by
  cases s <;> simp only [innP, List.mem_cons, List.not_mem_nil, or_false] at h
  · simp only [okS, Bool.and_eq_true] at ok
    rcases h with rfl | rfl
    · exact ⟨_, ok.1⟩
    · exact ⟨_, ok.2⟩
  · subst h
    simp only [okS] at ok
    exact ⟨_, ok⟩
  · subst h
    simp only [okS] at ok
    exact ⟨_, ok⟩
theorem onF_ok {rs ns : List Str} : ∀ (n : Nat) {p : List Int} {b : List Stp} {s : Stp} {mk : Bool}, p.length ≤ n → onF b p = some s → Kx.okB rs ns mk b = true → ∃ mk', okS rs ns mk' s = true
  | _, [], b, s, mk, _, h, _ => by rw [onF] at h; cases h
  | 0, _ :: _, _, _, _, hl, _, _ => by simp at hl
  | n + 1, i :: r, b, s, mk, hl, h, ok => by
    rw [List.length_cons] at hl
    rw [onF] at h
    split at h
    · split at h
      · cases h
      · rename_i t ht
        have h1 := okB_mem ok (List.mem_of_getElem? ht)
        split at h
        · cases h
          exact ⟨_, h1⟩
        · split at h
          · cases h
          · rename_i x hx
            obtain ⟨hxm, _⟩ := innF_mem hx
            obtain ⟨mk', h2⟩ := inn_ok hxm h1
            exact onF_ok n (by rw [List.length_drop]; omega) h h2
    · cases h
theorem Nice.stOk {q : Prt} (n : Nice q) {x : Str × List Int × Stp} (h : x ∈ everyF q.fs) : ∃ mk, okS q.rs (q.fs.map (·.1)) mk x.2.2 = true := by
  obtain ⟨g, hg, _, h⟩ := mem_every.mp h
  exact onF_ok _ (Nat.le_refl _) ((onF_all _ _ _).mpr h) (n.fm g hg).2.2.1
theorem ev_at {K : PySem.W.Frag} {H : Hp} {v : V} {x : Str × List Int × Stp} (h : Dq K H v (evD x)) : ∃ a a1 b, v = .ref a ∧ SqT K H a [.ref a1, .ref b] ∧ Dq K H (.ref a1) (plcD (x.1, x.2.1)) ∧ Dq K H (.ref b) (stpD x.2.2) := by
  unfold evD at h
  cases h with
  | tup hT hy =>
  cases hy with
  | @cons v1 _ _ _ h1 hy =>
  cases hy with
  | @cons v2 _ _ _ h2 hy =>
  cases hy
  obtain ⟨a1, rfl⟩ : ∃ a1, v1 = .ref a1 := by cases h1; exact ⟨_, rfl⟩
  obtain ⟨b, _, rfl, _, _⟩ := step_at h2
  exact ⟨_, a1, b, rfl, hT, h1, h2⟩
theorem pl_good {q : Prt} (n : Nice q) {x : Str × List Int × Stp} (h : x ∈ everyF q.fs) : okD (plcD (x.1, x.2.1)) ∧ txB (plcD (x.1, x.2.1)) = true ∧ spotL (plcD (x.1, x.2.1)) ∧ stepOf q.fs (plcD (x.1, x.2.1)) = some x.2.2 := by
  have sm := every_small n.fb h
  have sh := sh_plc (x := (x.1, x.2.1)) (every_name n h) sm
  have dp := plc_dep (x.1, x.2.1)
  refine ⟨⟨sh.1, by omega, Nat.le_trans sh.2 (by decide)⟩, ?_, fun a l e => ?_, ?_⟩
  · have := tx_name (.inr (.inr (every_name n h)))
    have hi : txA (x.2.1.map PyData.int) = true := txA_all fun d hd => by
      obtain ⟨z, _, rfl⟩ := List.mem_map.mp hd
      rfl
    simp only [plcD, ptD, txB, txA, hi, Bool.and_true] at this ⊢
    exact this
  · unfold plcD ptD at e
    injection e with e
    injection e with _ e
    injection e with e _
    injection e with e
    rw [← e, List.length_map]
    exact Nat.le_trans sm.2 (by decide)
  · show stepOf q.fs (.tuple [.str x.1, ptD x.2.1]) = _
    rw [stepOf_spot, place_every n.fn h]
def plF (x : Str × List Int × Stp) : PyData := plcD (x.1, x.2.1)
def pick (f : Str × List Int × Stp → Bool) (o : Option (Str × List Int × Stp)) : Bool := match o with | some x => f x | none => false
def plO (o : Option (Str × List Int × Stp)) : PyData := match o with | some x => plF x | none => .none
theorem gvn_pick (f : Str × List Int × Stp → Bool) (es : List (Str × List Int × Stp)) : ∀ n, n ≤ es.length → gvn n (fun i => pick f es[i]?) (fun i => plO es[i]?) = ((es.take n).filter f).map plF
  | 0, _ => by simp [gvn]
  | n + 1, h => by
    have ih := gvn_pick f es n (by omega)
    have hx : es[n]? = some es[n] := List.getElem?_eq_getElem (by omega)
    have tk : es.take (n + 1) = es.take n ++ [es[n]] := by rw [List.take_succ, hx]; rfl
    cases hf : f es[n] with
    | true =>
      rw [gvn_yes (by rw [hx]; exact hf), ih, tk, List.filter_append, List.map_append, hx]
      simp [hf, plO]
    | false =>
      rw [gvn_no (by rw [hx]; exact hf), ih, tk, List.filter_append, List.map_append]
      simp [hf]
section
variable {K : PySem.W.Frag} {σ : L2.St} {G : Hp}
/-- [place for place, step in every if t] -/
theorem ed_plc {i j : Nat} {tl : TE} {tt : TT} {es : List (Str × List Int × Stp)} (f : Str × List Int × Stp → Bool) (h : EvD K tl σ G (.list (es.map evD))) (hl : es.length ≤ 40000)
    (hw : ∀ x y : V, wipe (((wipe σ [i, j]).set i (some x)).set j (some y)) [i, j] = wipe σ [i, j]) (hg : ∀ x y : V, (((wipe σ [i, j]).set i (some x)).set j (some y))[i]? = some (some x))
    (ht : ∀ (x : Str × List Int × Stp) (a1 b : Addr) G1, Ex G G1 → x ∈ es → Dq K G1 (.ref b) (stpD x.2.2) → EvT tt (((wipe σ [i, j]).set i (some (.ref a1))).set j (some (.ref b))) G1 (f x)) :
    EvD K (tLc (iList K tl) (gTup K 2 (gCons (gName i) (gCons (gName j) gNil))) tt (tVar i) [i, j]) σ G (.list ((es.filter f).map plF)) := fun H0 e0 Q q => h H0 e0 _ fun v G1 H1 x1 d1 => by
  cases d1 with
  | @lst l zs _ h1 hz =>
  have lz := dqa_len hz
  rw [List.length_map] at lz
  refine ⟨l, rfl, ⟨zs, SqL.of (x1.gh _ _ h1)⟩, fun Dl nD => ?_⟩
  refine lc_list (K := K) (a := l) (xs := zs) (Cd K G1 H1 (fun i => pick f es[i]?) (fun i => plO es[i]?) Dl) (cd_start x1.gh nD) (fun i H' _ p => by obtain ⟨Gi, vs, y, _⟩ := p; exact SqL.of (y.gh _ _ (y.gg _ _ h1))) ?_ ?_
  · intro i2 y H' hi p
    have p0 := p
    obtain ⟨Gi, _, yx, _⟩ := p0
    obtain ⟨dx, hdx, gx⟩ := dqa_get hz hi
    rw [List.getElem?_map] at hdx
    obtain ⟨x, hx2, rfl⟩ := Option.map_eq_some_iff.mp hdx
    have hil := (List.getElem?_eq_some_iff.mp hi).1
    have hxm := List.mem_of_getElem? hx2
    obtain ⟨a, a1, b, rfl, hT, g1, g2⟩ := ev_at gx
    refine ⟨a, _, rfl, sqt_ex (same_ex (yx.gg.trans yx.gh)) hT, rfl, _, _, rfl, _, _, rfl, rfl, hw _ _, cd_turn nD p (by omega) (fun G3 g3 => ?_) (fun G3 g3 _ => ?_)⟩
    · rw [hx2]
      exact ht x a1 b G3 (x1.gg.trans g3) hxm (g2.mono (same_ex g3))
    · rw [hx2]
      exact ed_var (hg _ _) (g1.mono (same_ex g3))
  · intro H' p
    obtain ⟨G3, y, hd⟩ := cd_end nD p
    rw [lz, gvn_pick f es es.length (Nat.le_refl _), List.take_length] at hd
    exact q _ G3 H' (x1.trans y) hd
/-- step[0] in a list of words -/
theorem ev_wd {i : Nat} {b : Addr} {s : Stp} (h : σ[i]? = some (some (.ref b))) (hd : Dq K G (.ref b) (stpD s)) : Ev (tOp (rIxT K) (tVar i) (tC (.int 0))) σ G (.str (wordS s)) := fun H1 e Q q => by
  obtain ⟨_, zs, eb, hTz, hz⟩ := step_at hd
  cases eb
  have w0 : zs[0]? = some (.str (wordS s)) := by
    cases h : s <;> rw [h] at hz <;> (cases hz with | cons a b => cases a; rfl)
  exact ⟨_, h, b, zs, 0, .str (wordS s), rfl, rfl, sqt_ex (same_ex e) hTz, atI_nat (j := 0) w0, q H1 (Ex.refl H1)⟩
/-- word in a list of texts, and not in it -/
theorem et_in {neg : Bool} {ta tb : TE} {x : Str} {ws : List Str} (ha : Ev ta σ G (.str x)) (hb : EvD K tb σ G (.list (ws.map PyData.str))) : EvT (tTest (tOp (rInS K neg) ta tb)) σ G (cond neg (!ws.any (eqS (.str x))) (ws.any (eqS (.str x)))) := fun H1 e Q q => ha H1 e _ fun H2 e2 => hb H2 (e.trans e2) _ fun v G3 H3 y hd => by
  cases hd with
  | @lst p xs _ hp hx =>
  have ex := strs_of' hx
  subst ex
  exact ⟨.str x, ws, p, .str x, rfl, SqL.of (y.gh _ _ hp), _, rfl, q H3 (e2.trans y.hh)⟩
where
  strs_of' {H : Hp} : ∀ {ss : List Str} {vs : List V}, DqA K H vs (ss.map PyData.str) → vs = ss.map V.str
  | [], _, h => by cases h; rfl
  | s :: ss, _, h => by
    cases h with
    | cons a b =>
      cases a
      rw [strs_of' b]
      rfl
end
end Lx

set_option Elab.async false
set_option maxRecDepth 100000
set_option linter.all false
set_option maxHeartbeats 4000000
namespace Lx
open PySem PySem.Spec PyProof.Rows L2 Evl Kx
section
variable {K : PySem.W.Frag} {σ : L2.St} {G : Hp} {C : Addr}
theorem ix_tupK {X : Cx} {K : PySem.W.Frag} (h : X.K = K := by rfl) : IxR X (rIxT K) := h ▸ ix_tup
theorem et_ca {E : XK} {t0 t1 t2 t3 te : TE} {dr ki : Int} {v : V} {dx dy d : PyData} (k : Nat) (hk : ki = (k : Int)) (h0 : Ev t0 σ G (.int dr)) (h1 : Ev t1 σ G v) (h2 : EvD K t2 σ G dx) (h3 : EvD K t3 σ G dy) (hd : EvD K te σ G d) (sy : Sys G) (ok : okD d) (tx : txB d = true)
    (bad : ∀ H x y, Ex G H → Dq K H x dx → Dq K H y dy → ∃ vv, Dq K H vv d ∧ Bad K C H dr v x y vv d k) : EvT (tTest (tOp (rNeD K) (tCall (spCa K C) [] E (tCons t0 (tCons t1 (tCons t2 (tCons t3 tNil))))) (tLst (tCons (tC (.int ki)) (tCons (tCB (rRepr K) (tCons te tNil)) tNil))))) σ G false := by
  subst hk
  have so := tx_shown tx
  have dd : ∀ i : Int, (PyData.list [.int i, .str d.shown]).hasDict = false := fun i => by simp only [PyData.hasDict, PyData.hasDictAll, Bool.or_self]
  have ss : ∀ i : Int, SeqAt.shaped (PyData.list [.int i, .str d.shown]) = true := fun i => by
    unfold SeqAt.shaped
    simp [PyData.canLay0, PyData.canLayAll0, so, PyData.depth, PyData.depthAll]
  have c : EvD K (tCall (spCa K C) [] E (tCons t0 (tCons t1 (tCons t2 (tCons t3 tNil))))) σ G (.list [.int (k : Int), .str d.shown]) := fun H1 e Q q => h0 H1 e _ fun H2 e2 => h1 H2 (e.trans e2) _ fun H3 e3 => h2 H3 ((e.trans e2).trans e3) _ fun x G4 H4 x4 hx => (h3.mono x4.gg) H4 x4.gh _ fun y G5 H5 x5 hy => by
    have x0 : Kx.Ext G H1 G H3 := ⟨e2.trans e3, Ex.refl G, (e.trans e2).trans e3, fun _ _ _ => rfl⟩
    have xx := (x0.trans x4).trans x5
    have eG5 := xx.gg.trans xx.gh
    obtain ⟨vv, hvv, hb⟩ := bad H5 x y eG5 (hx.mono (same_ex (x5.gg.trans x5.gh))) (hy.mono (same_ex x5.gh))
    refine spCa.mk' ⟨dr, v, _, _, vv, d, k, rfl, sy.mono (same_ex eG5), hvv, ok, hb, fun l H6 M kk hl => q _ _ H6 (xx.trans (kk.ext xx.gh)) (hl.mono (same_ex (kk.exr xx.gh)))⟩
  have r : EvD K (tLst (tCons (tC (.int (k : Int))) (tCons (tCB (rRepr K) (tCons te tNil)) tNil))) σ G (.list [.int (k : Int), .str d.shown]) := ed_lst (da_cons ed_int (da_cons (ed_ev (ed_repr hd sy ok) (.str _)) eda_nil)) (Nat.le_of_ble_eq_true rfl)
  have := et_neD c r (dd _) (dd _) (ss _) (ss _)
  rw [eqv_self (dd _)] at this
  exact this
theorem et_neE {ta : TE} {ds : List PyData} (h : EvD K ta σ G (.list ds)) : EvT (tTest (tOp (rNeE K) ta (tLst tNil))) σ G (!ds.isEmpty) := fun H1 e Q q => h H1 e _ fun v G2 H2 x hd => by
  cases hd with
  | @lst a xs _ ha hx =>
  have hl := dqa_len hx
  have he : xs.isEmpty = ds.isEmpty := by
    cases xs <;> cases ds <;> simp_all
  refine ⟨by show 0 ≤ sizeLine; decide, fun p np => ⟨a, p, xs, rfl, rfl, SqL.of (Ex.new np _ _ (x.gh _ _ ha)), SqL.of upd_same, _, rfl, ?_⟩⟩
  rw [he]
  exact q _ (x.hh.trans (Ex.new np))
theorem et_lenG {te : TE} {ds : List PyData} {n : Int} (h : EvD K te σ G (.list ds)) : EvT (tTest (tOp (rI0 fun i j => V.bl (decide (j < i))) (tCB (fun xs H Q => ∃ p ys, xs = [V.ref p] ∧ (SqL K H p ys ∨ SqT K H p ys) ∧ Q (V.int (ys.length : Int)) H) (tCons te tNil)) (tC (.int n)))) σ G (decide (n < (ds.length : Int))) := fun H1 e Q q => h H1 e _ fun v G2 H2 x hd => by
  cases hd with
  | @lst a xs _ ha hx =>
  refine ⟨a, xs, rfl, .inl (SqL.of (x.gh _ _ ha)), _, _, rfl, rfl, _, rfl, ?_⟩
  rw [dqa_len hx]
  exact q H2 x.hh
theorem rd_ifF' {c : TT} {t : TS} {D : Ends} {H : Hp} (h : EvT c σ G false) (e : Ex G H) (q : ∀ H2, Ex H H2 → D.nx σ H2) : tIfS c t tNext D σ H := h H e _ fun H2 e2 => q H2 e2
end
def evOk (x : Str × List Int × Stp) : Bool := evW.any (eqS (.str (wordS x.2.2)))
def rsK (k : Nat) : List Str := rights3.take (k + 1)
def rsd (k : Nat) : List PyData := (rsK k).map PyData.str
def lrA (k : Nat) : List PyData := [.none, .int 3, .tuple [], .tuple (rsd k), .str "write", .dict [], .bool true, .list [.str "zz"], .list [.none], .list (rsd k ++ rsd k), .list [.list (rsd k)]]
def lrB (k : Nat) : List PyData := if decide ((1 : Int) < ((rsd k).length : Int)) then [.list (rsd k).reverse] else []
def lrD (k : Nat) : List PyData := (lrA k ++ lrB k) ++ [.list (rsd k ++ [.int 0])]
def tB (d : PyData) : Bool := d.showable && decide (d.depth ≤ 50) && decide (bnd d ≤ 1000000) && txB d
theorem tB_ok {d : PyData} (h : tB d = true) : okD d ∧ txB d = true := by
  simp only [tB, Bool.and_eq_true, decide_eq_true_eq] at h
  exact ⟨⟨h.1.1.1, h.1.1.2, h.1.2⟩, h.2⟩
theorem all3 {p : Nat → Bool} (h : ([0, 1, 2].all p) = true) {k : Nat} (hk : k < 3) : p k = true := List.all_eq_true.mp h k (by
  match k, hk with
  | 0, _ => simp
  | 1, _ => simp
  | 2, _ => simp)
def lrC (k : Nat) (d : PyData) : Bool := tB d && (!isLst d || SeqAt.shaped d) && !ordF (rsK k) d
theorem lr_ok : ([0, 1, 2].all fun k => (lrD k).all (lrC k)) = true := by decide +kernel
theorem rs_tx : ∀ r ∈ rights3, PySem.PyData.strOk r = true := by decide +kernel
section
variable {P : Program} {w : World} {K : PySem.W.Frag} {mg : Str → Option Value} {base : Heap} {f : Addr} {fd : FuncData}
abbrev sLr : Stmt := top 81
theorem scLr : FnScope ["program", "parts", "every", "place", "step", "good", "bads", "bad"] ["program", "parts", "every"] (defScope sLr) := ⟨rfl, rfl, rfl, by decide +kernel, rfl, by decide +kernel, by decide +kernel⟩
structure spLr (K : PySem.W.Frag) (C : Addr) (vs : List V) (H : Hp) (Q : VK) (E_ : XK) : Prop where
  mk' ::
  out : ∃ pp pt ev q k, vs = [.ref pp, .ref pt, .ref ev] ∧ ProgAt K C H pp q ∧ Dq K H (.ref pt) (prtD q) ∧ Dq K H (.ref ev) (.list ((everyF q.fs).map evD)) ∧ Sys H ∧ Nice q ∧ k < 3 ∧ q.rs = rsK k ∧ ∀ H2, Ex H H2 → Q (.bl true) H2
theorem ok_lr {C : Addr} {fC : Addr} {dC : FuncData} (F : Fun K "_law_lists_refused" "_law_lists_refused" sLr f fd)
    (FC : GnOk P w K mg base CX0 11 fC dC ["door", "program", "place", "standing"] (spCa K C)) (mC : mg "_law_caught" = some (.ref fC)) (kC : PySem.W.keepIn K (.ref fC) = true) (bC : Binds K dC ["door", "program", "place", "standing"] [])
    (mRep : mg "repr" = none) (mT : mg "tuple" = none) (mLen : mg "len" = none) : GnOk P w K mg base CX0 12 f fd ["program", "parts", "every"] (spLr K C) := by
  refine gn_ok F scLr (fun vs H Q E h => ?_) (fun cdv A outer s H vs Q E hg hr h => ?_)
  · obtain ⟨_, _, _, _, _, rfl, _⟩ := h
    rfl
  · obtain ⟨pp, pt, ev, q, k, rfl, hP, hq, hev, sy, nq, hk3, hrs, fin⟩ := h
    have hu := hr.units
    have hu1 : (A.deeper (envOfC "_law_lists_refused" (defScope sLr) s.heap.objs.size f cdv)).units + 1 < cLine := Nat.lt_of_le_of_lt (Nat.add_le_add_left (by decide : 1 ≤ 64) _) hr.units
    have r11 := hr.mono (j := 11) (by decide)
    have hgu : (A.deeper (envOfC "_law_lists_refused" (defScope sLr) s.heap.objs.size f cdv)).guards = some [] := hg
    refine ⟨_, pss_cons (ps_setLc (i := 5) (own := [("place", 3), ("step", 4)]) (g := gTup K 2 (gCons (gName 3) (gCons (gName 4) gNil))) rfl scLr.nd rfl rfl (sw_true rfl rfl rfl (by decide +kernel)) (pi_list (pv 2))
              (blkOk_by (own := [("place", 3), ("step", 4)]) (N := ["program", "parts", "every", "place", "step", "good", "bads", "bad"]) (sc := defScope sLr) (by decide +kernel))
              (fun _ _ _ _ _ => pg_tupK rfl (pgs_cons (pg_name (i := 3) scLr.nd rfl (Or.inl rfl)) (pgs_cons (pg_name (i := 4) scLr.nd rfl (Or.inl rfl)) pgs_nil)))
              (fun _ _ _ _ _ => pts_one (pt_cmpR (op_inTsK (K := K) hu1) (pe_ix (ix_tupK (K := K)) (pv 4) pe_int (fun _ _ => rfl)) (pe_lst (pa_cons pe_str (pa_cons pe_str (pa_cons pe_str pa_nil)))) (by rfl)))
              (fun _ _ _ _ _ => pv 3))
      (pss_cons (ps_set (i := 6) scLr.nd rfl (Or.inl rfl) (pe_lst (pa_cons pe_non (pa_cons pe_int (pa_cons (pe_tup pa_nil) (pa_cons (pe_tupleOf (by rfl) mT (pe_ix ix_list (pv 1) pe_int (fun _ _ => rfl))) (pa_cons pe_str (pa_cons pe_dnewK (pa_cons pe_bl (pa_cons (pe_lst (pa_cons pe_str pa_nil)) (pa_cons (pe_lst (pa_cons pe_non pa_nil)) (pa_cons (pe_op op_cat (pe_ix ix_list (pv 1) pe_int (fun _ _ => rfl)) (pe_ix ix_list (pv 1) pe_int (fun _ _ => rfl))) (pa_cons (pe_lst (pa_cons (pe_ix ix_list (pv 1) pe_int (fun _ _ => rfl)) pa_nil)) pa_nil)))))))))))))
      (pss_cons (ps_for PassesOwn.never rfl (pi_list (pe_op op_cat (pe_op op_cat (pv 6) (pe_ifExp (pt_cmpR op_gt (pe_callB call_len_seq (by rfl) mLen PySem.boot_len (pa_cons (pe_ix ix_list (pv 1) pe_int (fun _ _ => rfl)) pa_nil)) pe_int (nomark _)) (pe_lst (pa_cons (pe_revL (pe_ix ix_list (pv 1) pe_int (fun _ _ => rfl))) pa_nil)) (pe_lst pa_nil))) (pe_lst (pa_cons (pe_op op_cat (pe_ix ix_list (pv 1) pe_int (fun _ _ => rfl)) (pe_lst (pa_cons pe_int pa_nil))) pa_nil)))) (pg_name (i := 7) scLr.nd rfl (Or.inl rfl))
        (pss_one (ps_if (PW.pt (pw_and (pt_cmpR (op_neE hu) (pv 5) (pe_lst pa_nil) (nomark _)) (pw_and1 (pt_cmpR (op_neD hu) (pe_callG FC hgu r11 rfl mC kC bC .nil pass0 (pa_cons pe_int (pa_cons (pv 0) (pa_cons (pe_ix ix_list (pv 5) pe_int (fun _ _ => rfl)) (pa_cons (pv 7) pa_nil))))) (pe_lst (pa_cons pe_int (pa_cons (pe_callB (call_repr hgu hu) (by rfl) mRep PyProof.Rows.boot_repr (pa_cons (pv 7) pa_nil)) pa_nil))) (nomark _))))) (pss_one (ps_ret pe_bl)) pss_nil)))
      (pss_one (ps_ret pe_bl)))), ?_⟩
    have hcc : (rsd k).length + (rsd k).length ≤ 100000 := by
      have : (rsd k).length ≤ 3 := by
        unfold rsd rsK
        rw [List.length_map, List.length_take]
        have : rights3.length = 3 := rfl
        omega
      omega
    have hrl : (rsd k).length ≤ 3 := by
      unfold rsd rsK
      rw [List.length_map, List.length_take]
      have : rights3.length = 3 := rfl
      omega
    have hpr : prtD q = .list [.list (rsd k), .list (q.os.map ownD), .list (q.fs.map fnD)] := by
      unfold prtD strsD rsd
      rw [hrs]
    rw [hpr] at hq
    have l2 := every_len' nq
    refine rd_sset (K := K) (G := H) (d := .list (((everyF q.fs).filter evOk).map plF)) (ed_plc (i := 3) (j := 4) evOk (ed_var rfl hev) (by omega) (fun _ _ => rfl) (fun _ _ => rfl) fun x a1 b G1 e1 hx hb => et_in (neg := false) (ws := evW) (ev_wd rfl hb) (ed_lst (da_cons ed_str (da_cons ed_str (da_cons ed_str eda_nil))) (Nat.le_of_ble_eq_true rfl))) (Ex.refl _) fun v5 G1 H1 x1 d5 => ?_
    have hq1 := hq.mono (same_ex x1.gg)
    refine rd_sset (K := K) (G := G1) (d := .list (lrA k)) (ed_lst (da_cons ed_non (da_cons ed_int (da_cons (ed_tup eda_nil (Nat.le_of_ble_eq_true rfl)) (da_cons (ed_tupOf (ed_ixL (i := 0) (ed_var rfl hq1) ev_c rfl)) (da_cons ed_str (da_cons ed_dict (da_cons ed_bl (da_cons (ed_lst (da_cons ed_str eda_nil) (Nat.le_of_ble_eq_true rfl)) (da_cons (ed_lst (da_cons ed_non eda_nil) (Nat.le_of_ble_eq_true rfl)) (da_cons (ed_cat (ed_ixL (i := 0) (ed_var rfl hq1) ev_c rfl) (ed_ixL (i := 0) (ed_var rfl hq1) ev_c rfl) hcc) (da_cons (ed_lst (da_cons (ed_ixL (i := 0) (ed_var rfl hq1) ev_c rfl) eda_nil) (Nat.le_of_ble_eq_true rfl)) eda_nil))))))))))) (Nat.le_of_ble_eq_true rfl)) x1.gh fun v6 G2 H2 x2 d6 => ?_
    have d52 := d5.mono (same_ex x2.gg)
    have hq2 := hq1.mono (same_ex x2.gg)
    have e2 := x1.gg.trans x2.gg
    have x12 := x1.trans x2
    refine rd_sfor (K := K) (G := G2) (es := lrD k) (fun σ => ∃ o7, σ = [some (.ref pp), some (.ref pt), some (.ref ev), none, none, some v5, some v6, o7])
      (ed_cat (ed_cat (ed_var rfl d6) (ed_if (b := decide ((1 : Int) < ((rsd k).length : Int))) (et_lenG (ed_ixL (i := 0) (ed_var rfl hq2) ev_c rfl)) (fun hb => ?_) (fun hb => ?_)) ?_) (ed_lst (da_cons (ed_cat (ed_ixL (i := 0) (ed_var rfl hq2) ev_c rfl) (ed_lst (da_cons ed_int eda_nil) (Nat.le_of_ble_eq_true rfl)) ?_) eda_nil) (Nat.le_of_ble_eq_true rfl)) ?_) x12.gh ⟨_, rfl⟩ ?_ ?_
    · unfold lrB
      rw [if_pos hb]
      exact ed_lst (da_cons (ed_rev (ed_ixL (i := 0) (ed_var rfl hq2) ev_c rfl)) eda_nil) (Nat.le_of_ble_eq_true rfl)
    · unfold lrB
      rw [if_neg (by rw [hb]; decide)]
      exact ed_lst eda_nil (Nat.le_of_ble_eq_true rfl)
    · have : (lrB k).length ≤ 1 := by unfold lrB; split <;> simp
      show 11 + _ ≤ _
      omega
    · show (rsd k).length + 1 ≤ _
      omega
    · have : (lrB k).length ≤ 1 := by unfold lrB; split <;> simp
      rw [List.length_append]
      show 11 + _ + 1 ≤ _
      omega
    · rintro H3 G3 x3 i d x σ H4 hd hx ⟨o7, rfl⟩ e4
      have chk := List.all_eq_true.mp (all3 lr_ok hk3) d (List.mem_of_getElem? hd)
      simp only [lrC, Bool.and_eq_true, Bool.not_eq_true', Bool.or_eq_true] at chk
      obtain ⟨⟨ht, hsh⟩, hord⟩ := chk
      obtain ⟨okd, tx⟩ := tB_ok ht
      have e3 := e2.trans x3.gg
      have d53 := d52.mono (same_ex x3.gg)
      refine rd_ifF' (G := G3) (et_is (et_and (b := false) (et_neE (ed_var rfl d53)) fun hne => ?_) (Bool.and_false _)) (x3.gh.trans e4) fun H5 e5 => ⟨⟨_, rfl⟩, e4.trans e5⟩
      cases hl : (everyF q.fs).filter evOk with
      | nil => rw [hl] at hne; cases hne
      | cons y ys =>
        rw [hl] at d53
        have hy := List.mem_filter.mp (show y ∈ (everyF q.fs).filter evOk by rw [hl]; exact List.mem_cons_self ..)
        obtain ⟨_, _, ysl, yst⟩ := pl_good nq hy.1
        refine et_ca 2 rfl ev_c (ev_var rfl) (ed_ixL (i := 0) (d := plF y) (ed_var rfl d53) ev_c rfl) (ed_var rfl hx) (ed_var rfl hx) (sy.mono (same_ex e3)) okd tx fun H6 x6 y6 e6 hx6 hy6 => ⟨y6, hy6, rfl, rfl, fun h => ?_, pp, q, plF y, y.2.2, rfl, hP.mono (e3.trans e6), fun g hg => (nq.fb g hg).1, hx6, ysl, yst, hy.2, by have := nq.rl; omega, fun r hr => ?_, ?_⟩
        · rcases hsh with hsh | hsh
          · rw [h] at hsh; cases hsh
          · exact hsh
        · rw [hrs] at hr
          exact rs_tx r (List.mem_of_mem_take hr)
        · rw [hrs]
          exact hord
    · rintro σ H3 ⟨o7, rfl⟩ e3
      exact fin H3 (x12.hh.trans e3)
end
end Lx

set_option Elab.async false
set_option maxRecDepth 100000
set_option linter.all false
set_option maxHeartbeats 4000000
namespace Lx
open PySem PySem.Spec PyProof.Rows L2 Evl Kx
theorem op_notInTsK {X : Cx} {K : PySem.W.Frag} (hu : X.A.units + 1 < cLine) (h : X.K = K := by rfl) : OpR X (compareOp .NotIn) (rInS K true) := h ▸ op_notInTs hu
theorem ed_neg {K : PySem.W.Frag} {σ : L2.St} {G : Hp} {i : Int} : EvD K (tUn (rU fun i => .int (-i)) (tC (.int i))) σ G (.int (-i)) := fun H1 e Q q => ⟨i, rfl, q _ G H1 (Kx.Ext.refl e) (.int (-i))⟩
def bdA : List PyData := [.none, .int 3, .str "main", .tuple [], .tuple [.str "main"], .tuple [.str "main", .tuple []], .list [.str "main", .tuple [.int 0]], .tuple [.str "zz", .tuple [.int 0]], .tuple [.str "main", .tuple [.int 99]], .dict [], .bool true]
def bdB : List PyData := bdA ++ [.tuple [.str "main", .tuple [.int (-1)]], .tuple [.str "main", .list [.int 0]], .tuple [.str "main", .tuple [.bool true]], .tuple [.none, .tuple [.int 0]]]
def bd0 : List PyData := [.none, .int 3, .list [], .tuple [], .dict [], .str "program", .bool true]
theorem bd0_ok : (bd0.all tB) = true := by decide +kernel
def spB (d : PyData) : Bool := match d with
  | .tuple [_, .tuple l] => decide (l.length ≤ 4000)
  | _ => true
theorem spB_ok {d : PyData} (h : spB d = true) : spotL d := fun a l e => by
  subst e
  exact of_decide_eq_true h
theorem bdB_ok : (bdB.all fun d => tB d && spB d) = true := by decide +kernel
theorem placeF_none {fs : List Fn} {z : Str} {p : List Int} (h : ∀ g ∈ fs, g.1 = z → onF g.2.2 p = none) : placeF fs z p = none := by
  unfold placeF
  cases hf : fs.find? fun g => decide (g.1 = z) with
  | none => rfl
  | some g =>
    have h2 := List.find?_some hf
    exact h g (List.mem_of_find?_eq_some hf) (of_decide_eq_true h2)
theorem onF_nil (b : List Stp) : onF b [] = none := by unfold onF; rfl
theorem onF_out {b : List Stp} {i : Int} {r : List Int} (h : ¬ (0 ≤ i ∧ i < (b.length : Int))) : onF b (i :: r) = none := by
  unfold onF
  rw [if_neg h]
theorem bd_no {many : Nat} {q : Prt} (ok : PrtOk many q) {d : PyData} (h : d ∈ bdB) : stepOf q.fs d = none := by
  have hb : ∀ g ∈ q.fs, g.2.2.length ≤ 12 := fun g hg => Nat.le_trans (len_cnt _) (ok.fs g hg).2.2.2
  have hz : ∀ g ∈ q.fs, g.1 ≠ ("zz" : Str) := fun g hg e => by
    have : g.1 ∈ q.fs.map (·.1) := List.mem_map.mpr ⟨g, hg, rfl⟩
    rw [ok.ns, e] at this
    exact absurd (List.mem_of_mem_take this) (by decide +kernel)
  have s1 : stepOf q.fs (.tuple [.str "main", .tuple []]) = none := (stepOf_spot q.fs "main" []).trans (placeF_none fun g _ _ => onF_nil _)
  have s2 : stepOf q.fs (.tuple [.str "zz", .tuple [.int 0]]) = none := (stepOf_spot q.fs "zz" [0]).trans (placeF_none fun g hg e => absurd e (hz g hg))
  have s3 : stepOf q.fs (.tuple [.str "main", .tuple [.int 99]]) = none := (stepOf_spot q.fs "main" [99]).trans (placeF_none fun g hg _ => onF_out (by have := hb g hg; omega))
  have s4 : stepOf q.fs (.tuple [.str "main", .tuple [.int (-1)]]) = none := (stepOf_spot q.fs "main" [-1]).trans (placeF_none fun g hg _ => onF_out (by omega))
  simp only [bdB, bdA, List.mem_append, List.mem_cons, List.not_mem_nil, or_false] at h
  rcases h with (rfl | rfl | rfl | rfl | rfl | rfl | rfl | rfl | rfl | rfl | rfl) | rfl | rfl | rfl | rfl <;> first | exact s1 | exact s2 | exact s3 | exact s4 | exact stepOf_no (by rfl)
def wdsF (door : Nat) : List Str := if door = 0 then evW else ["check"]
def noEv (door : Nat) (x : Str × List Int × Stp) : Bool := !(wdsF door).any (eqS (.str (wordS x.2.2)))
section
variable {P : Program} {w : World} {K : PySem.W.Frag} {mg : Str → Option Value} {base : Heap} {f : Addr} {fd : FuncData}
abbrev sRf : Stmt := top 82
theorem scRf : FnScope ["program", "parts", "every", "door", "bad", "bads", "words", "place", "step"] ["program", "parts"] (defScope sRf) := ⟨rfl, rfl, rfl, by decide +kernel, rfl, by decide +kernel, by decide +kernel⟩
structure spRf (K : PySem.W.Frag) (C : Addr) (vs : List V) (H : Hp) (Q : VK) (E_ : XK) : Prop where
  mk' ::
  out : ∃ pp pt q many, vs = [.ref pp, .ref pt] ∧ ProgAt K C H pp q ∧ Dq K H (.ref pt) (prtD q) ∧ Sys H ∧ Nice q ∧ PrtOk many q ∧ ∀ H2, Ex H H2 → Q (.bl true) H2
theorem ok_rf {C : Addr} {fC fA fL : Addr} {dC dA dL : FuncData} (F : Fun K "_law_refused" "_law_refused" sRf f fd)
    (FC : GnOk P w K mg base CX0 11 fC dC ["door", "program", "place", "standing"] (spCa K C)) (mC : mg "_law_caught" = some (.ref fC)) (kC : PySem.W.keepIn K (.ref fC) = true) (bC : Binds K dC ["door", "program", "place", "standing"] [])
    (FA : FnOk P w K mg base CX0 2 fA dA ["parts"] (spAp K)) (mA : mg "_law_all_places" = some (.ref fA)) (kA : PySem.W.keepIn K (.ref fA) = true) (bA : Binds K dA ["parts"] [])
    (FL : GnOk P w K mg base CX0 12 fL dL ["program", "parts", "every"] (spLr K C)) (mL : mg "_law_lists_refused" = some (.ref fL)) (kL : PySem.W.keepIn K (.ref fL) = true) (bL : Binds K dL ["program", "parts", "every"] [])
    (mRep : mg "repr" = none) (mRng : mg "range" = none) : GnOk P w K mg base CX0 13 f fd ["program", "parts"] (spRf K C) := by
  refine gn_ok F scRf (fun vs H Q E h => ?_) (fun cdv A outer s H vs Q E hg hr h => ?_)
  · obtain ⟨_, _, _, _, rfl, _⟩ := h
    rfl
  · obtain ⟨pp, pt, q, many, rfl, hP, hq, sy, nq, ok, fin⟩ := h
    have hu := hr.units
    have hu1 : (A.deeper (envOfC "_law_refused" (defScope sRf) s.heap.objs.size f cdv)).units + 1 < cLine := Nat.lt_of_le_of_lt (Nat.add_le_add_left (by decide : 1 ≤ 64) _) hr.units
    have r11 := hr.mono (j := 11) (by decide)
    have r2 := hr.mono (j := 2) (by decide)
    have hgu : (A.deeper (envOfC "_law_refused" (defScope sRf) s.heap.objs.size f cdv)).guards = some [] := hg
    have l2 := every_len' nq
    refine ⟨_, pss_cons (ps_set (i := 2) scRf.nd rfl (Or.inl rfl) (pe_call FA r2 rfl mA kA bA .nil pass0 (pa_cons (pv 1) pa_nil)))
      (pss_cons (ps_for PassesOwn.never rfl (pi_range1 (by rfl) mRng (pa_cons pe_int pa_nil)) (pg_name (i := 3) scRf.nd rfl (Or.inr rfl)) (pss_one (ps_for PassesOwn.never rfl (pi_list (pe_lst (pa_cons pe_non (pa_cons pe_int (pa_cons (pe_lst pa_nil) (pa_cons (pe_tup pa_nil) (pa_cons pe_dnewK (pa_cons pe_str (pa_cons pe_bl pa_nil))))))))) (pg_name (i := 4) scRf.nd rfl (Or.inl rfl)) (pss_one (ps_if (pt_cmpR (op_neD hu) (pe_callG FC hgu r11 rfl mC kC bC .nil pass0 (pa_cons (pv 3) (pa_cons (pv 4) (pa_cons pe_non (pa_cons pe_non pa_nil))))) (pe_lst (pa_cons pe_int (pa_cons (pe_callB (call_repr hgu hu) (by rfl) mRep PyProof.Rows.boot_repr (pa_cons (pv 4) pa_nil)) pa_nil))) (nomark _)) (pss_one (ps_ret pe_bl)) pss_nil)))))
      (pss_cons (ps_set (i := 5) scRf.nd rfl (Or.inl rfl) (pe_lst (pa_cons pe_non (pa_cons pe_int (pa_cons pe_str (pa_cons (pe_tup pa_nil) (pa_cons (pe_tup (pa_cons pe_str pa_nil)) (pa_cons (pe_tup (pa_cons pe_str (pa_cons (pe_tup pa_nil) pa_nil))) (pa_cons (pe_lst (pa_cons pe_str (pa_cons (pe_tup (pa_cons pe_int pa_nil)) pa_nil))) (pa_cons (pe_tup (pa_cons pe_str (pa_cons (pe_tup (pa_cons pe_int pa_nil)) pa_nil))) (pa_cons (pe_tup (pa_cons pe_str (pa_cons (pe_tup (pa_cons pe_int pa_nil)) pa_nil))) (pa_cons pe_dnewK (pa_cons pe_bl pa_nil)))))))))))))
      (pss_cons (ps_set (i := 5) scRf.nd rfl (Or.inl rfl) (pe_op op_cat (pv 5) (pe_lst (pa_cons (pe_tup (pa_cons pe_str (pa_cons (pe_tup (pa_cons (pe_un un_neg pe_int) pa_nil)) pa_nil))) (pa_cons (pe_tup (pa_cons pe_str (pa_cons (pe_lst (pa_cons pe_int pa_nil)) pa_nil))) (pa_cons (pe_tup (pa_cons pe_str (pa_cons (pe_tup (pa_cons pe_bl pa_nil)) pa_nil))) (pa_cons (pe_tup (pa_cons pe_non (pa_cons (pe_tup (pa_cons pe_int pa_nil)) pa_nil))) pa_nil)))))))
      (pss_cons (ps_set (i := 6) scRf.nd rfl (Or.inr rfl) (pe_lst (pa_cons pe_str (pa_cons pe_str (pa_cons pe_str pa_nil)))))
      (pss_cons (ps_for PassesOwn.never rfl (pi_range1 (by rfl) mRng (pa_cons pe_int pa_nil)) (pg_name (i := 3) scRf.nd rfl (Or.inr rfl)) (pss_one (ps_for PassesOwn.never rfl (pi_list (pe_op op_cat (pv 5) (pe_lc (own := [("place", 7), ("step", 8)]) (g := gTup K 2 (gCons (gName 7) (gCons (gName 8) gNil))) rfl scRf.nd (pi_list (pv 2))
              (blkOk_by (own := [("place", 7), ("step", 8)]) (N := ["program", "parts", "every", "door", "bad", "bads", "words", "place", "step"]) (sc := defScope sRf) (by decide +kernel))
              (fun _ _ _ _ _ => pg_tupK rfl (pgs_cons (pg_name (i := 7) scRf.nd rfl (Or.inl rfl)) (pgs_cons (pg_name (i := 8) scRf.nd rfl (Or.inl rfl)) pgs_nil)))
              (fun _ _ _ _ _ => pts_one (pt_cmpR (op_notInTsK (K := K) hu1) (pe_ix (ix_tupK (K := K)) (pv 8) pe_int (fun _ _ => rfl)) (pe_ifExp (pt_cmpR op_eq (pv 3) pe_int (nomark _)) (pv 6) (pe_lst (pa_cons pe_str pa_nil))) (by rfl)))
              (fun _ _ _ _ _ => pv 7)))) (pg_name (i := 4) scRf.nd rfl (Or.inl rfl)) (pss_one (ps_if (pt_cmpR (op_neD hu) (pe_callG FC hgu r11 rfl mC kC bC .nil pass0 (pa_cons (pv 3) (pa_cons (pv 0) (pa_cons (pv 4) (pa_cons pe_non pa_nil))))) (pe_lst (pa_cons pe_int (pa_cons (pe_callB (call_repr hgu hu) (by rfl) mRep PyProof.Rows.boot_repr (pa_cons (pv 4) pa_nil)) pa_nil))) (nomark _)) (pss_one (ps_ret pe_bl)) pss_nil)))))
      (pss_one (ps_ret (pe_callG FL hgu hr rfl mL kL bL .nil pass0 (pa_cons (pv 0) (pa_cons (pv 1) (pa_cons (pv 2) pa_nil))))))))))), ?_⟩
    refine ⟨_, rfl, ⟨H, pt, q, rfl, Ex.refl H, hq, nq.fb, nq.fl, fun ev G0 H0 x0 dev => ?_⟩⟩
    refine rd_seq (rd_rng (n := 4) (fun σ => ∃ o3 o4, σ = [some (.ref pp), some (.ref pt), some (.ref ev), o3, o4, none, none, none, none]) rfl (by decide) ⟨_, _, rfl⟩ ?_ ?_)
    · rintro door σ H1 hdoor ⟨o3, o4, rfl⟩ e1
      have sy1 : Sys H1 := sy.mono (same_ex (x0.hh.trans e1))
      refine rd_for (K := K) (G := H1) (es := bd0) (fun σ => ∃ o4, σ = [some (.ref pp), some (.ref pt), some (.ref ev), some (.int (door : Int)), o4, none, none, none, none]) (ed_lst (da_cons ed_non (da_cons ed_int (da_cons (ed_lst eda_nil (Nat.le_of_ble_eq_true rfl)) (da_cons (ed_tup eda_nil (Nat.le_of_ble_eq_true rfl)) (da_cons ed_dict (da_cons ed_str (da_cons ed_bl eda_nil))))))) (Nat.le_of_ble_eq_true rfl)) (Ex.refl _) ⟨_, rfl⟩ ?_ ?_
      · rintro H2 G2 x2 i d x σ H3 hd hx ⟨o4, rfl⟩ e3
        obtain ⟨okd, tx⟩ := tB_ok (List.all_eq_true.mp bd0_ok d (List.mem_of_getElem? hd))
        exact rd_ifF' (G := G2) (et_ca 0 rfl (ev_var rfl) (ev_var rfl) ed_non ed_non (ed_var rfl hx) (sy1.mono (same_ex x2.gg)) okd tx fun H x' y' e _ _ => ⟨x, hx.mono (same_ex e), rfl⟩) (x2.gh.trans e3) fun H4 e4 => ⟨⟨_, rfl⟩, e3.trans e4⟩
      · rintro σ H2 ⟨o4, rfl⟩ e2
        exact ⟨⟨_, _, rfl⟩, e1.trans e2⟩
    rintro σ H1 ⟨o3, o4, rfl⟩ e1
    refine rd_sset (K := K) (G := G0) (d := .list bdA) (ed_lst (da_cons ed_non (da_cons ed_int (da_cons ed_str (da_cons (ed_tup eda_nil (Nat.le_of_ble_eq_true rfl)) (da_cons (ed_tup (da_cons ed_str eda_nil) (Nat.le_of_ble_eq_true rfl)) (da_cons (ed_tup (da_cons ed_str (da_cons (ed_tup eda_nil (Nat.le_of_ble_eq_true rfl)) eda_nil)) (Nat.le_of_ble_eq_true rfl)) (da_cons (ed_lst (da_cons ed_str (da_cons (ed_tup (da_cons ed_int eda_nil) (Nat.le_of_ble_eq_true rfl)) eda_nil)) (Nat.le_of_ble_eq_true rfl)) (da_cons (ed_tup (da_cons ed_str (da_cons (ed_tup (da_cons ed_int eda_nil) (Nat.le_of_ble_eq_true rfl)) eda_nil)) (Nat.le_of_ble_eq_true rfl)) (da_cons (ed_tup (da_cons ed_str (da_cons (ed_tup (da_cons ed_int eda_nil) (Nat.le_of_ble_eq_true rfl)) eda_nil)) (Nat.le_of_ble_eq_true rfl)) (da_cons ed_dict (da_cons ed_bl eda_nil))))))))))) (Nat.le_of_ble_eq_true rfl)) (x0.gh.trans e1) fun v5 G2 H2 x2 d5 => ?_
    refine rd_sset (K := K) (G := G2) (d := .list bdB) (ed_cat (ed_var rfl d5) (ed_lst (da_cons (ed_tup (da_cons ed_str (da_cons (ed_tup (da_cons ed_neg eda_nil) (Nat.le_of_ble_eq_true rfl)) eda_nil)) (Nat.le_of_ble_eq_true rfl)) (da_cons (ed_tup (da_cons ed_str (da_cons (ed_lst (da_cons ed_int eda_nil) (Nat.le_of_ble_eq_true rfl)) eda_nil)) (Nat.le_of_ble_eq_true rfl)) (da_cons (ed_tup (da_cons ed_str (da_cons (ed_tup (da_cons ed_bl eda_nil) (Nat.le_of_ble_eq_true rfl)) eda_nil)) (Nat.le_of_ble_eq_true rfl)) (da_cons (ed_tup (da_cons ed_non (da_cons (ed_tup (da_cons ed_int eda_nil) (Nat.le_of_ble_eq_true rfl)) eda_nil)) (Nat.le_of_ble_eq_true rfl)) eda_nil)))) (Nat.le_of_ble_eq_true rfl)) (by decide +kernel)) x2.gh fun v6 G3 H3 x3 d6 => ?_
    refine rd_sset (K := K) (G := G3) (d := .list (evW.map PyData.str)) (ed_lst (da_cons ed_str (da_cons ed_str (da_cons ed_str eda_nil))) (Nat.le_of_ble_eq_true rfl)) x3.gh fun v7 G4 H4 x4 d7 => ?_
    have x24 := (x2.trans x3).trans x4
    have d6 := d6.mono (same_ex x4.gg)
    have dev4 := dev.mono (same_ex x24.gg)
    have e04 : Ex H H4 := x0.hh.trans (e1.trans x24.hh)
    have eG4 : Ex H G4 := x0.gg.trans x24.gg
    refine rd_seq (rd_rng (n := 2) (fun σ => ∃ o3 o4, σ = [some (.ref pp), some (.ref pt), some (.ref ev), o3, o4, some v6, some v7, none, none]) rfl (by decide) ⟨_, _, rfl⟩ ?_ ?_)
    · rintro door σ H5 hdoor ⟨o3, o4, rfl⟩ e5
      refine rd_for (K := K) (G := G4) (es := bdB ++ ((everyF q.fs).filter (noEv door)).map plF) (fun σ => ∃ o4, σ = [some (.ref pp), some (.ref pt), some (.ref ev), some (.int (door : Int)), o4, some v6, some v7, none, none])
        (ed_cat (ed_var rfl d6) (ed_plc (i := 7) (j := 8) (noEv door) (ed_var rfl dev4) (by omega) (fun _ _ => rfl) (fun _ _ => rfl) fun x a1 b G5 e6 hx hb => et_in (neg := true) (ws := wdsF door) (ev_wd rfl hb) (ed_if (b := decide (V.int (door : Int) = V.int 0)) (fun H1 e Q q => ⟨_, rfl, rfl, _, rfl, q H1 (Ex.refl _)⟩) (fun hz => ?_) (fun hz => ?_))) ?_) (x24.gh.trans e5) ⟨_, rfl⟩ ?_ ?_
      · have hz0 : door = 0 := by
          have := of_decide_eq_true hz
          injection this with this
          omega
        unfold wdsF
        rw [if_pos hz0]
        exact ed_var rfl (d7.mono (same_ex e6))
      · have hz0 : door ≠ 0 := fun z => by
          have := of_decide_eq_false hz
          exact this (by rw [z]; rfl)
        unfold wdsF
        rw [if_neg hz0]
        exact ed_lst (da_cons ed_str eda_nil) (Nat.le_of_ble_eq_true rfl)
      · have := List.length_filter_le (noEv door) (everyF q.fs)
        rw [List.length_map]
        show 15 + _ ≤ _
        omega
      · rintro H6 G6 x6 i d x σ H7 hd hx ⟨o4, rfl⟩ e7
        have e46 := eG4.trans x6.gg
        have good : okD d ∧ txB d = true ∧ spotL d ∧ ((door = 0 ∧ noPl q.fs evW d) ∨ (door = 1 ∧ noPl q.fs ["check"] d)) := by
          have h01 : door = 0 ∨ door = 1 := by omega
          rcases List.mem_append.mp (List.mem_of_getElem? hd) with h | h
          · have c := List.all_eq_true.mp bdB_ok d h
            simp only [Bool.and_eq_true] at c
            have no := bd_no ok h
            have nn : ∀ ws, noPl q.fs ws d := fun ws s e => by rw [no] at e; cases e
            exact ⟨(tB_ok c.1).1, (tB_ok c.1).2, spB_ok c.2, h01.elim (fun h => .inl ⟨h, nn _⟩) fun h => .inr ⟨h, nn _⟩⟩
          · obtain ⟨y, hy, rfl⟩ := List.mem_map.mp h
            obtain ⟨hy, hn⟩ := List.mem_filter.mp hy
            obtain ⟨g1, g2, g3, g4⟩ := pl_good nq hy
            have nn : noPl q.fs (wdsF door) (plF y) := fun s e => by
              have : stepOf q.fs (plF y) = some y.2.2 := g4
              rw [this] at e
              cases e
              simpa [noEv] using hn
            exact ⟨g1, g2, g3, h01.elim (fun h => .inl ⟨h, by rw [h] at nn; exact nn⟩) fun h => .inr ⟨h, by rw [h] at nn; exact nn⟩⟩
        obtain ⟨okd, tx, hsl, hno⟩ := good
        refine rd_ifF' (G := G6) (et_ca 1 rfl (ev_var rfl) (ev_var rfl) (ed_var rfl hx) ed_non (ed_var rfl hx) (sy.mono (same_ex e46)) okd tx fun H x' y' e hx' _ => ⟨x', hx', rfl, hsl, pp, q, rfl, hP.mono (e46.trans e), fun g hg => (nq.fb g hg).1, hno.imp (fun h => ⟨by rw [h.1]; rfl, h.2⟩) fun h => ⟨by rw [h.1]; rfl, h.2⟩⟩) (x6.gh.trans e7) fun H8 e8 => ⟨⟨_, rfl⟩, e7.trans e8⟩
      · rintro σ H6 ⟨o4, rfl⟩ e6
        exact ⟨⟨_, _, rfl⟩, e5.trans e6⟩
    rintro σ H5 ⟨o3, o4, rfl⟩ e5
    obtain ⟨k, hk, hrs⟩ := ok.rs
    have e05 := e04.trans e5
    exact ⟨_, rfl, _, rfl, _, rfl, ⟨pp, pt, ev, q, k, rfl, hP.mono e05, hq.mono (same_ex e05), dev4.mono (same_ex (x24.gh.trans e5)), sy.mono (same_ex e05), nq, hk, hrs, fun H6 e6 => fin H6 (e05.trans e6)⟩⟩
end
end Lx

set_option Elab.async false
set_option maxRecDepth 100000
set_option linter.all false
set_option maxHeartbeats 4000000
namespace Lx
open PySem PySem.Spec PyProof.Rows L2 Evl Kx
section
variable {K : PySem.W.Frag} {σ : L2.St} {G H : Hp} {C : Addr}
theorem sql_ex {H H' : Hp} {a : Addr} {xs : List V} (e : Same H H') (h : SqL K H a xs) : SqL K H' a xs := by
  rcases h with (h | ⟨o, h⟩) | h
  · exact .inl (.inl (e _ _ h))
  · exact .inl (.inr ⟨o, e _ _ h⟩)
  · exact .inr h
theorem gen_k {l : Addr} {ns : List Int} {j : Nat} {Q : VK} {E : XK} (h : SqL K H l (ns.map V.int)) (q : ∀ p H', H p = none → Ex H H' → GenAt H' p (1000 * j) → Q (.ref p) H') : spGen K [.ref l, .int j] H Q E :=
  ⟨l, ns, j, rfl, h, fun p H' a b c => q p H' a (ex_same b) c⟩
theorem rndL_k {g : Addr} {n : Nat} {Q : VK} {E : XK} (h : GenAt H g n) (hn : n < 2 ^ 50) (q : ∀ (r : Int) H' o, 0 ≤ r ∧ r < 4 → H' = upd H g o → GenAt H' g (n + 2) → Q (.int r) H') : spRnd [.ref g, .int 4] H Q E :=
  ⟨g, n, 4, rfl, h, hn, ⟨by decide, by decide⟩, q⟩
theorem prt_k {g : Addr} {n many : Nat} {Q : VK} {E : XK} {m : Int} (hm : m = (many : Int)) (h1 : 1 ≤ many) (h4 : many ≤ 4) (h : GenAt H g n) (hn : n < 2 ^ 39) (e : Ex G H) (n0 : G g = none) (sy : Sys G)
    (q : ∀ (p : Addr) G2 H2 (pt : Prt), KS g G H G2 H2 (n + 4000) → Dq K G2 (.ref p) (prtD pt) → PrtOk many pt → Q (.ref p) H2) : spPrt2 K [.ref g, .int m, .int 4] H Q E := by
  subst hm
  exact ⟨g, n, G, many, 4, rfl, h1, h4, Nat.le_refl _, h, hn, e, n0, sy, q⟩
theorem pgm_k {p : Addr} {q : Prt} {Q : VK} {E : XK} (h : Dq K H (.ref p) (prtD q)) (n : Nice q) (k : ∀ p2 H2 M, New H H2 M → ProgAt K C M p2 q → Q (.ref p2) H2) : spPgm K 12 4 C [.ref p] H Q E :=
  ⟨p, q, rfl, h, n.good, k⟩
theorem eq_kP {p p2 : Addr} {q q2 : Prt} {Q : VK} {E : XK} (h : ProgAt K C H p q) (n : Nice q) (h2 : ProgAt K C H p2 q2) (n2 : Nice q2) (k : Q (.bl (sameP q q2)) H) : spEqP K C [.ref p, .ref p2] H Q E :=
  ⟨p, _, q, rfl, h, n.good.sh, .inl ⟨p2, q2, rfl, h2, n2.good.sh, k⟩⟩
theorem rf_k {p t : Addr} {q : Prt} {many : Nat} {Q : VK} {E : XK} (h : ProgAt K C H p q) (hd : Dq K H (.ref t) (prtD q)) (y : Sys H) (n : Nice q) (ok : PrtOk many q) (k : ∀ H2, Ex H H2 → Q (.bl true) H2) : spRf K C [.ref p, .ref t] H Q E := ⟨p, t, q, many, rfl, h, hd, y, n, ok, k⟩
end
structure Cal (K : PySem.W.Frag) (mg : Str → Option Value) (x : Str) (g : Addr) (fd : FuncData) (ps : List Str) : Prop where
  m : mg x = some (.ref g)
  k : PySem.W.keepIn K (.ref g) = true
  b : Binds K fd ps []
section
variable {P : Program} {w : World} {K : PySem.W.Frag} {mg : Str → Option Value} {base : Heap} {f : Addr} {fd : FuncData}
abbrev sLaw : Stmt := top 83
theorem scLaw : FnScope ["script", "index", "generator", "parts", "program"] ["script"] (defScope sLaw) := ⟨rfl, rfl, rfl, by decide +kernel, rfl, by decide +kernel, by decide +kernel⟩
def spLaw (K : PySem.W.Frag) : Sp := fun vs H Q _ => ∃ (l : Addr) (ns : List Int), vs = [.ref l] ∧ SqL K H l (ns.map V.int) ∧ Sys H ∧ ∀ H', Q (.bl true) H'
theorem ok_law {C fG fR fP fM fE fF : Addr} {dG dR dP dM dE dF : FuncData} (F : Fun K "law" "law" sLaw f fd) (T : PTxt K mg C) (I : PIsi K C) (O : OwnE K C fE)
    (nfC : PySem.W.notFirst K C (.ref C) = true)
    (FG : FnOk P w K mg base CX0 2 fG dG ["script", "index"] (spGen K)) (cG : Cal K mg "_law_generator" fG dG ["script", "index"])
    (FR : FnOk P w K mg base CX0 2 fR dR ["generator", "bound"] spRnd) (cR : Cal K mg "_law_random" fR dR ["generator", "bound"])
    (FP : GnOk P w K mg base CX0 9 fP dP ["generator", "many", "most"] (spPrt2 K)) (cP : Cal K mg "_law_parts" fP dP ["generator", "many", "most"])
    (FM : FnOk P w K mg base CX0 45 fM dM ["parts"] (spPgm K 12 4 C)) (cM : Cal K mg "_law_program" fM dM ["parts"])
    (FE : FnOk P w K mg base CX0 1 fE dE ["self", "other"] (spEqP K C)) (bE : Binds K dE ["self", "other"] [])
    (FF : GnOk P w K mg base CX0 13 fF dF ["program", "parts"] (spRf K C)) (cF : Cal K mg "_law_refused" fF dF ["program", "parts"])
    (mRng : mg "range" = none) : GnOk P w K mg base CX0 46 f fd ["script"] (spLaw K) := by
  refine gn_ok F scLaw (fun vs H Q E h => ?_) (fun cdv A outer s H vs Q E hg hr h => ?_)
  · obtain ⟨_, _, rfl, _⟩ := h
    rfl
  · obtain ⟨l, ns, rfl, hS, hy, fin⟩ := h
    have hu := hr.units
    have r2 := hr.mono (j := 2) (by decide)
    have r9 := hr.mono (j := 9) (by decide)
    have r13 := hr.mono (j := 13) (by decide)
    have r45 := hr.mono (j := 45) (by decide)
    have hgu : (A.deeper (envOfC "law" (defScope sLaw) s.heap.objs.size f cdv)).guards = some [] := hg
    refine ⟨_, pss_cons (ps_for PassesOwn.never rfl (pi_range1 (by rfl) mRng (pa_cons pe_int pa_nil)) (pg_name (i := 1) scLaw.nd rfl (Or.inl rfl))
        (pss_cons (ps_set (i := 2) scLaw.nd rfl (Or.inl rfl) (pe_call FG r2 rfl cG.m cG.k cG.b .nil pass0 (pa_cons (pv 0) (pa_cons (pv 1) pa_nil))))
        (pss_cons (ps_set (i := 3) scLaw.nd rfl (Or.inl rfl) (pe_callG FP hgu r9 rfl cP.m cP.k cP.b .nil pass0 (pa_cons (pv 2) (pa_cons (pe_op op_add pe_int (pe_call FR r2 rfl cR.m cR.k cR.b .nil pass0 (pa_cons (pv 2) (pa_cons pe_int pa_nil)))) (pa_cons pe_int pa_nil)))))
        (pss_cons (ps_set (i := 4) scLaw.nd rfl (Or.inl rfl) (pe_call FM r45 rfl cM.m cM.k cM.b .nil pass0 (pa_cons (pv 3) pa_nil)))
        (pss_one (ps_if (PW.pt (pw_or (pt_not (pt_val (pe_callG FF hgu r13 rfl cF.m cF.k cF.b .nil pass0 (pa_cons (pv 4) (pa_cons (pv 3) pa_nil))))) (pw_or1 (pt_cmpR (op_neO O FE bE r2 pass0) (pv 4) (pe_call FM r45 rfl cM.m cM.k cM.b .nil pass0 (pa_cons (pv 3) pa_nil)) (nomark _))))) (pss_one (ps_ret pe_bl)) pss_nil))))))
      (pss_one (ps_ret pe_bl)), ?_⟩
    refine rd_srng (n := 5) (fun σ' => ∃ o1 o2 o3 o4, σ' = [some (.ref l), o1, o2, o3, o4]) rfl (by decide) ⟨_, _, _, _, rfl⟩ ?_ ?_
    · rintro j σ' H0 hj ⟨o1, o2, o3, o4, rfl⟩ e0
      have y0 : Sys H0 := hy.mono (same_ex e0)
      refine ⟨_, rfl, _, rfl, gen_k (sql_ex (same_ex e0) hS) fun g H1 ng e1 gg => ?_⟩
      refine ⟨_, rfl, _, rfl, rndL_k gg (by omega) fun r H2 o hr4 hH2 g2 => ?_⟩
      subst hH2
      have hmany : (1 : Int) + r = ((1 + r.toNat : Nat) : Int) := by omega
      have eg : Ex H0 (upd H1 g o) := fun a u h => by
        rw [upd_ne (ne_of_none h ng)]
        exact e1 a u h
      refine ⟨_, _, rfl, rfl, prt_k hmany (by omega) (by omega) g2 (by omega) eg ng y0 fun pp G2 H3 q ks hq ok => ?_⟩
      have nq : Nice q := PrtOk.nice ok (by omega) (by omega)
      have e3 : Ex G2 H3 := ks.x.gh
      have e03 : Ex H0 H3 := ks.x.gg.trans ks.x.gh
      have y3 : Sys H3 := y0.mono (same_ex e03)
      have hq3 := hq.mono (same_ex e3)
      clear ks g2 eg gg e1
      refine ⟨_, rfl, pgm_k hq3 nq fun p H4 M4 k4 hp => ?_⟩
      have hp4 := hp.mono k4.mh
      refine ⟨_, rfl, _, rfl, rf_k hp4 (hq3.mono (same_ex k4.hh)) (y3.mono (same_ex k4.hh)) nq ok fun H6 e6 => ?_⟩
      have e36 := k4.hh.trans e6
      refine ⟨_, rfl, iteF ?_⟩
      refine ⟨_, rfl, _, rfl, pgm_k (hq3.mono (same_ex e36)) nq fun p7 H7 M7 k7 hp7 => ?_⟩
      have hq7 := hp7.mono k7.mh
      have h47 := hp4.mono (e6.trans k7.hh)
      obtain ⟨dx, c1, c2, c3, j0, j1, j2, j3⟩ := hp4.mono (e6.trans k7.hh)
      obtain ⟨dy, g1, g2, g3, q0, q1, q2, q3⟩ := hp7.mono k7.mh
      refine ⟨p, dx, _, .ref C, rfl, j0, .base (.ins q0 T.cl I.ha I.hn I.ht I.hm), nfC, eq_kP h47 nq hq7 nq ⟨_, rfl, ?_⟩⟩
      rw [sameP_self nq.good.sh]
      refine ⟨_, rfl, iteF ?_⟩
      exact ⟨⟨_, _, _, _, rfl⟩, e0.trans (e03.trans (e36.trans k7.hh))⟩
    rintro σ' H0 ⟨o1, o2, o3, o4, rfl⟩ e0
    exact fin H0
end
end Lx

set_option Elab.async false
set_option maxRecDepth 100000
set_option linter.all false
set_option maxHeartbeats 4000000
namespace Lx
open PySem PySem.Spec PyProof.Rows L2 Evl Kx
section
variable {P : Program} {w : World} {K : PySem.W.Frag} {mg : Str → Option Value} {base : Heap}
theorem ok_bod0 {f : Addr} {fd : FuncData} (F : Fun K "_law_body_drawn" "_law_body_drawn" sBod f fd) : FnOk P w K mg base CX0 2 f fd ["generator", "rights", "names", "deep", "marked", "most"] spNo :=
  F.ok scBod (fun vs H Q E h => h.elim) (fun cdv A outer s H vs Q E hr h => h.elim)
theorem ok_drawn {fR fS fB : Addr} {fdR fdS fdB : FuncData} (FS : Fun K "_law_step_drawn" "_law_step_drawn" sStp fS fdS) (FB : Fun K "_law_body_drawn" "_law_body_drawn" sBod fB fdB)
    (FR : FnOk P w K mg base CX0 2 fR fdR ["generator", "bound"] spRnd) (mR : mg "_law_random" = some (.ref fR)) (kR : PySem.W.keepIn K (.ref fR) = true) (bR : Binds K fdR ["generator", "bound"] [])
    (mB : mg "_law_body_drawn" = some (.ref fB)) (kB' : PySem.W.keepIn K (.ref fB) = true) (bB : Binds K fdB ["generator", "rights", "names", "deep", "marked", "most"] [])
    (mS : mg "_law_step_drawn" = some (.ref fS)) (kS' : PySem.W.keepIn K (.ref fS) = true) (bS : Binds K fdS ["generator", "rights", "names", "deep", "marked"] []) (mL : mg "len" = none) (mG : mg "range" = none) :
    ∀ d : Nat, FnOk P w K mg base CX0 (2 * d + 4) fB fdB ["generator", "rights", "names", "deep", "marked", "most"] (spBod K d)
  | 0 => ok_bod FB FR mR kR bR (ok_stp FS FR mR kR bR (ok_bod0 FB) mB kB' bB mL mG) mS kS' bS mG
  | d + 1 => ok_bod FB FR mR kR bR (ok_stp FS FR mR kR bR (ok_drawn FS FB FR mR kR bR mB kB' bB mS kS' bS mL mG d) mB kB' bB mL mG) mS kS' bS mG
end
end Lx

set_option Elab.async false
set_option maxRecDepth 100000
set_option linter.all false
set_option maxHeartbeats 4000000
namespace Lx
open PySem PySem.Spec PyProof.Rows L2 Evl Kx
def sInit (x : Nat) : Stmt := inClass (top x) 0
theorem all_mk {P : Program} {w : World} {K : PySem.W.Frag} {h : Heap} {mg : Str → Option Value} {fa : Addr} (X : K.In h) (G : h.Ns mainGlobals mg) (hfa : mg "law" = some (.ref fa)) (c : SaysX faH fnH chkH K) :
    ∃ fd : FuncData, (∀ (s : Shared) (v : Value), BindsTo s fd ⟨[v], []⟩ [("script", v)]) ∧ ∀ base : Heap, K.In base → base.Ns mainGlobals mg → GnOk P w K mg base CX0 46 fa fd ["script"] (spLaw K) := by
  have hc : chkH K = true := c.c
  unfold chkH at hc
  simp only [Bool.and_eq_true] at hc
  obtain ⟨hsys, q_InvalidList, q_InvalidItem, q_InvalidProgram, q_InvalidPlace, hx, c_Program, e_Program, t_EVENT_WORDS⟩ := hc
  have e := hfa.symm.trans (He.glo_ok X G (c.d.fact 66))
  cases e
  have n_len := He.free_ok X G (c.d.fact 0)
  have n_int := He.free_ok X G (c.d.fact 1)
  have n_max := He.free_ok X G (c.d.fact 2)
  have n_range := He.free_ok X G (c.d.fact 3)
  have n_isinstance := He.free_ok X G (c.d.fact 4)
  have n_repr := He.free_ok X G (c.d.fact 5)
  have n_list := He.free_ok X G (c.d.fact 6)
  have n_tuple := He.free_ok X G (c.d.fact 7)
  have n_sum := He.free_ok X G (c.d.fact 8)
  have n_str := He.free_ok X G (c.d.fact 9)
  have n_all := He.free_ok X G (c.d.fact 10)
  have n_bool := He.free_ok X G (c.d.fact 11)
  have n_dict := He.free_ok X G (c.d.fact 12)
  have n_sorted := He.free_ok X G (c.d.fact 13)
  obtain ⟨t_LONGEST_NAME, m_LONGEST_NAME⟩ := He.int_ok X G (c.d.fact 14)
  obtain ⟨t_MOST_RIGHTS, m_MOST_RIGHTS⟩ := He.int_ok X G (c.d.fact 15)
  obtain ⟨t_MOST_OWNERS, m_MOST_OWNERS⟩ := He.int_ok X G (c.d.fact 16)
  obtain ⟨t_MOST_FUNCTIONS, m_MOST_FUNCTIONS⟩ := He.int_ok X G (c.d.fact 17)
  obtain ⟨t_LETTERS, m_LETTERS⟩ := He.str_ok X G (c.d.fact 18)
  obtain ⟨fd0, D0⟩ := c.d.def_ 0
  have G0 := funD_fun (st := sWh) D0
  have gk0 := G0.kp
  have b0 := G0.binds (ps := ["value"]) fun _ _ _ _ _ _ us hl => match us, hl with | [_], _ => rfl
  have m0 := (He.glo_ok X G (c.d.fact 19))
  obtain ⟨fd1, D1⟩ := c.d.def_ 1
  have G1 := funD_fun (st := sNm) D1
  have gk1 := G1.kp
  have b1 := G1.binds (ps := ["value"]) fun _ _ _ _ _ _ us hl => match us, hl with | [_], _ => rfl
  have m1 := (He.glo_ok X G (c.d.fact 20))
  obtain ⟨fd2, D2⟩ := c.d.def_ 2
  have G2 := funD_fun (st := sTp) D2
  have gk2 := G2.kp
  have b2 := G2.binds (ps := ["value", "size"]) fun _ _ _ _ _ _ us hl => match us, hl with | [_, _], _ => rfl
  have m2 := (He.glo_ok X G (c.d.fact 21))
  obtain ⟨fd3, D3⟩ := c.d.def_ 3
  have G3 := funD_fun (st := sSt) D3
  have gk3 := G3.kp
  have b3 := G3.binds (ps := ["value", "names", "rights", "marked"]) fun _ _ _ _ _ _ us hl => match us, hl with | [_, _, _, _], _ => rfl
  have m3 := (He.glo_ok X G (c.d.fact 22))
  obtain ⟨fd4, D4⟩ := c.d.def_ 4
  have G4 := funD_fun (st := sNs) D4
  have gk4 := G4.kp
  have b4 := G4.binds (ps := ["value", "names", "rights", "marked"]) fun _ _ _ _ _ _ us hl => match us, hl with | [_, _, _, _], _ => rfl
  have m4 := (He.glo_ok X G (c.d.fact 23))
  obtain ⟨fd5, D5⟩ := c.d.def_ 5
  have G5 := funD_fun (st := sCb) D5
  have gk5 := G5.kp
  have b5 := G5.binds (ps := ["body"]) fun _ _ _ _ _ _ us hl => match us, hl with | [_], _ => rfl
  have m5 := (He.glo_ok X G (c.d.fact 24))
  obtain ⟨fd6, D6⟩ := c.d.def_ 6
  have G6 := funD_fun (st := sCs) D6
  have gk6 := G6.kp
  have b6 := G6.binds (ps := ["step"]) fun _ _ _ _ _ _ us hl => match us, hl with | [_], _ => rfl
  have m6 := (He.glo_ok X G (c.d.fact 25))
  obtain ⟨fd7, D7⟩ := c.d.def_ 7
  have G7 := funD_fun (st := sWi) D7
  have gk7 := G7.kp
  have b7 := G7.binds (ps := ["step", "change"]) fun _ _ _ _ _ _ us hl => match us, hl with | [_, _], _ => rfl
  have m7 := (He.glo_ok X G (c.d.fact 26))
  obtain ⟨fd8, D8⟩ := c.d.def_ 8
  have G8 := funD_fun (st := sIb) D8
  have gk8 := G8.kp
  have b8 := G8.binds (ps := ["step"]) fun _ _ _ _ _ _ us hl => match us, hl with | [_], _ => rfl
  have m8 := (He.glo_ok X G (c.d.fact 27))
  obtain ⟨fd9, D9⟩ := c.d.def_ 9
  have G9 := funD_fun (st := sIn) D9
  have gk9 := G9.kp
  have b9 := G9.binds (ps := ["step", "rest"]) fun _ _ _ _ _ _ us hl => match us, hl with | [_, _], _ => rfl
  have m9 := (He.glo_ok X G (c.d.fact 28))
  obtain ⟨fd10, D10⟩ := c.d.def_ 10
  have G10 := funD_fun (st := sOn) D10
  have gk10 := G10.kp
  have b10 := G10.binds (ps := ["body", "path"]) fun _ _ _ _ _ _ us hl => match us, hl with | [_, _], _ => rfl
  have m10 := (He.glo_ok X G (c.d.fact 29))
  obtain ⟨fd11, D11⟩ := c.d.def_ 11
  have G11 := funD_fun (st := sSpt) D11
  have gk11 := G11.kp
  have b11 := G11.binds (ps := ["value"]) fun _ _ _ _ _ _ us hl => match us, hl with | [_], _ => rfl
  have m11 := (He.glo_ok X G (c.d.fact 30))
  obtain ⟨fd12, D12⟩ := c.d.def_ 12
  have G12 := funD_fun (st := sSz) D12
  have gk12 := G12.kp
  have b12 := G12.binds (ps := ["value", "most"]) fun _ _ _ _ _ _ us hl => match us, hl with | [_, _], _ => rfl
  have m12 := (He.glo_ok X G (c.d.fact 31))
  obtain ⟨fd13, D13⟩ := c.d.def_ 13
  have G13 := funD_fun (st := sCkR) D13
  have gk13 := G13.kp
  have b13 := G13.binds (ps := ["rights"]) fun _ _ _ _ _ _ us hl => match us, hl with | [_], _ => rfl
  have m13 := (He.glo_ok X G (c.d.fact 32))
  obtain ⟨fd14, D14⟩ := c.d.def_ 14
  have G14 := funD_fun (st := sCkO) D14
  have gk14 := G14.kp
  have b14 := G14.binds (ps := ["owners", "rights"]) fun _ _ _ _ _ _ us hl => match us, hl with | [_, _], _ => rfl
  have m14 := (He.glo_ok X G (c.d.fact 33))
  obtain ⟨fd15, D15⟩ := c.d.def_ 15
  have G15 := funD_fun (st := sCkF) D15
  have gk15 := G15.kp
  have b15 := G15.binds (ps := ["functions", "owners", "rights"]) fun _ _ _ _ _ _ us hl => match us, hl with | [_, _, _], _ => rfl
  have m15 := (He.glo_ok X G (c.d.fact 34))
  obtain ⟨fd16, D16⟩ := c.d.def_ 16
  have G16 := funD_fun (st := sOwn) D16
  have gk16 := G16.kp
  have b16 := G16.binds (ps := ["value", "rights"]) fun _ _ _ _ _ _ us hl => match us, hl with | [_, _], _ => rfl
  have m16 := (He.glo_ok X G (c.d.fact 35))
  obtain ⟨fd17, D17⟩ := c.d.def_ 17
  have G17 := funD_fun (st := sCho) D17
  have gk17 := G17.kp
  have b17 := G17.binds (ps := ["value", "rights"]) fun _ _ _ _ _ _ us hl => match us, hl with | [_, _], _ => rfl
  have m17 := (He.glo_ok X G (c.d.fact 36))
  obtain ⟨fd18, D18⟩ := c.d.def_ 18
  have G18 := funD_fun (st := sFun) D18
  have gk18 := G18.kp
  have b18 := G18.binds (ps := ["value", "owner_names", "names", "rights"]) fun _ _ _ _ _ _ us hl => match us, hl with | [_, _, _, _], _ => rfl
  have m18 := (He.glo_ok X G (c.d.fact 37))
  obtain ⟨fd19, D19⟩ := c.d.def_ 19
  have G19 := funD_fun (st := sCpO) D19
  have gk19 := G19.kp
  have b19 := G19.binds (ps := ["owners"]) fun _ _ _ _ _ _ us hl => match us, hl with | [_], _ => rfl
  have m19 := (He.glo_ok X G (c.d.fact 38))
  obtain ⟨fd20, D20⟩ := c.d.def_ 20
  have G20 := funD_fun (st := sCpF) D20
  have gk20 := G20.kp
  have b20 := G20.binds (ps := ["functions"]) fun _ _ _ _ _ _ us hl => match us, hl with | [_], _ => rfl
  have m20 := (He.glo_ok X G (c.d.fact 39))
  obtain ⟨fd21, D21⟩ := c.d.def_ 21
  have G21 := funD_fun (st := sNp) D21
  have gk21 := G21.kp
  have b21 := G21.binds (ps := ["value"]) fun _ _ _ _ _ _ us hl => match us, hl with | [_], _ => rfl
  have m21 := (He.glo_ok X G (c.d.fact 40))
  obtain ⟨fd22, D22⟩ := c.d.def_ 22
  have G22 := funD_fun (st := sKs) D22
  have gk22 := G22.kp
  have b22 := G22.binds (ps := ["program", "value"]) fun _ _ _ _ _ _ us hl => match us, hl with | [_, _], _ => rfl
  have m22 := (He.glo_ok X G (c.d.fact 41))
  obtain ⟨fd23, D23⟩ := c.d.def_ 23
  have G23 := funD_fun (st := sNpl) D23
  have gk23 := G23.kp
  have b23 := G23.binds (ps := ["program", "value", "words"]) fun _ _ _ _ _ _ us hl => match us, hl with | [_, _, _], _ => rfl
  have m23 := (He.glo_ok X G (c.d.fact 42))
  obtain ⟨fd24, D24⟩ := c.d.def_ 24
  have G24 := funD_fun (st := sIo) D24
  have gk24 := G24.kp
  have b24 := G24.binds (ps := ["value", "rights"]) fun _ _ _ _ _ _ us hl => match us, hl with | [_, _], _ => rfl
  have m24 := (He.glo_ok X G (c.d.fact 43))
  obtain ⟨fd25, D25⟩ := c.d.def_ 25
  have G25 := funD_fun (st := sNo) D25
  have gk25 := G25.kp
  have b25 := G25.binds (ps := ["value", "rights"]) fun _ _ _ _ _ _ us hl => match us, hl with | [_, _], _ => rfl
  have m25 := (He.glo_ok X G (c.d.fact 44))
  obtain ⟨fd26, D26⟩ := c.d.def_ 26
  have G26 := funD_fun (st := sRt) D26
  have gk26 := G26.kp
  have b26 := G26.binds (ps := ["program", "place", "standing"]) fun _ _ _ _ _ _ us hl => match us, hl with | [_, _, _], _ => rfl
  have m26 := (He.glo_ok X G (c.d.fact 45))
  obtain ⟨fd27, D27⟩ := c.d.def_ 27
  have G27 := funD_fun (st := sOc) D27
  have gk27 := G27.kp
  have b27 := G27.binds (ps := ["program", "place"]) fun _ _ _ _ _ _ us hl => match us, hl with | [_, _], _ => rfl
  have m27 := (He.glo_ok X G (c.d.fact 46))
  obtain ⟨fd28, D28⟩ := c.d.def_ 28
  have G28 := funD_fun (st := sFf) D28
  have gk28 := G28.kp
  have b28 := G28.binds (ps := ["program"]) fun _ _ _ _ _ _ us hl => match us, hl with | [_], _ => rfl
  have m28 := (He.glo_ok X G (c.d.fact 47))
  obtain ⟨fd29, D29⟩ := c.d.def_ 29
  have G29 := funD_fun (st := sLe) D29
  have gk29 := G29.kp
  have b29 := G29.binds (ps := ["program"]) fun _ _ _ _ _ _ us hl => match us, hl with | [_], _ => rfl
  have m29 := (He.glo_ok X G (c.d.fact 48))
  obtain ⟨fd30, D30⟩ := c.d.def_ 30
  have G30 := funD_fun (st := sCell) D30
  have gk30 := G30.kp
  have b30 := G30.binds (ps := ["script", "index"]) fun _ _ _ _ _ _ us hl => match us, hl with | [_, _], _ => rfl
  have m30 := (He.glo_ok X G (c.d.fact 49))
  obtain ⟨fd31, D31⟩ := c.d.def_ 31
  have G31 := funD_fun (st := sHash) D31
  have gk31 := G31.kp
  have b31 := G31.binds (ps := ["seed", "index"]) fun _ _ _ _ _ _ us hl => match us, hl with | [_, _], _ => rfl
  have m31 := (He.glo_ok X G (c.d.fact 50))
  obtain ⟨fd32, D32⟩ := c.d.def_ 32
  have G32 := funD_fun (st := sGen) D32
  have gk32 := G32.kp
  have b32 := G32.binds (ps := ["script", "index"]) fun _ _ _ _ _ _ us hl => match us, hl with | [_, _], _ => rfl
  have m32 := (He.glo_ok X G (c.d.fact 51))
  obtain ⟨fd33, D33⟩ := c.d.def_ 33
  have G33 := funD_fun (st := sRnd) D33
  have gk33 := G33.kp
  have b33 := G33.binds (ps := ["generator", "bound"]) fun _ _ _ _ _ _ us hl => match us, hl with | [_, _], _ => rfl
  have m33 := (He.glo_ok X G (c.d.fact 52))
  obtain ⟨fd34, D34⟩ := c.d.def_ 34
  have G34 := funD_fun (st := sRts) D34
  have gk34 := G34.kp
  have b34 := G34.binds (ps := ["generator"]) fun _ _ _ _ _ _ us hl => match us, hl with | [_], _ => rfl
  have m34 := (He.glo_ok X G (c.d.fact 53))
  obtain ⟨fd35, D35⟩ := c.d.def_ 35
  have G35 := funD_fun (st := sOws) D35
  have gk35 := G35.kp
  have b35 := G35.binds (ps := ["generator", "rights"]) fun _ _ _ _ _ _ us hl => match us, hl with | [_, _], _ => rfl
  have m35 := (He.glo_ok X G (c.d.fact 54))
  obtain ⟨fd36, D36⟩ := c.d.def_ 36
  have G36 := funD_fun (st := sStp) D36
  have gk36 := G36.kp
  have b36 := G36.binds (ps := ["generator", "rights", "names", "deep", "marked"]) fun _ _ _ _ _ _ us hl => match us, hl with | [_, _, _, _, _], _ => rfl
  have m36 := (He.glo_ok X G (c.d.fact 55))
  obtain ⟨fd37, D37⟩ := c.d.def_ 37
  have G37 := funD_fun (st := sBod) D37
  have gk37 := G37.kp
  have b37 := G37.binds (ps := ["generator", "rights", "names", "deep", "marked", "most"]) fun _ _ _ _ _ _ us hl => match us, hl with | [_, _, _, _, _, _], _ => rfl
  have m37 := (He.glo_ok X G (c.d.fact 56))
  obtain ⟨fd38, D38⟩ := c.d.def_ 38
  have G38 := funD_fun (st := sCop) D38
  have gk38 := G38.kp
  have b38 := G38.binds (ps := ["body"]) fun _ _ _ _ _ _ us hl => match us, hl with | [_], _ => rfl
  have m38 := (He.glo_ok X G (c.d.fact 57))
  obtain ⟨fd39, D39⟩ := c.d.def_ 39
  have G39 := funD_fun (st := sPgm) D39
  have gk39 := G39.kp
  have b39 := G39.binds (ps := ["parts"]) fun _ _ _ _ _ _ us hl => match us, hl with | [_], _ => rfl
  have m39 := (He.glo_ok X G (c.d.fact 58))
  obtain ⟨fd40, D40⟩ := c.d.def_ 40
  have G40 := funD_fun (st := sCnt) D40
  have gk40 := G40.kp
  have b40 := G40.binds (ps := ["body"]) fun _ _ _ _ _ _ us hl => match us, hl with | [_], _ => rfl
  have m40 := (He.glo_ok X G (c.d.fact 59))
  obtain ⟨fd41, D41⟩ := c.d.def_ 41
  have G41 := funD_fun (st := sPrt) D41
  have gk41 := G41.kp
  have b41 := G41.binds (ps := ["generator", "many", "most"]) fun _ _ _ _ _ _ us hl => match us, hl with | [_, _, _], _ => rfl
  have m41 := (He.glo_ok X G (c.d.fact 60))
  obtain ⟨fd42, D42⟩ := c.d.def_ 42
  have G42 := funD_fun (st := sAp) D42
  have gk42 := G42.kp
  have b42 := G42.binds (ps := ["parts"]) fun _ _ _ _ _ _ us hl => match us, hl with | [_], _ => rfl
  have m42 := (He.glo_ok X G (c.d.fact 61))
  obtain ⟨fd43, D43⟩ := c.d.def_ 43
  have G43 := funD_fun (st := sBp) D43
  have gk43 := G43.kp
  have b43 := G43.binds (ps := ["rows"]) fun _ _ _ _ _ _ us hl => match us, hl with | [_], _ => rfl
  have m43 := (He.glo_ok X G (c.d.fact 62))
  obtain ⟨fd44, D44⟩ := c.d.def_ 44
  have G44 := funD_fun (st := sCa) D44
  have gk44 := G44.kp
  have b44 := G44.binds (ps := ["door", "program", "place", "standing"]) fun _ _ _ _ _ _ us hl => match us, hl with | [_, _, _, _], _ => rfl
  have m44 := (He.glo_ok X G (c.d.fact 63))
  obtain ⟨fd45, D45⟩ := c.d.def_ 45
  have G45 := funD_fun (st := sLr) D45
  have gk45 := G45.kp
  have b45 := G45.binds (ps := ["program", "parts", "every"]) fun _ _ _ _ _ _ us hl => match us, hl with | [_, _, _], _ => rfl
  have m45 := (He.glo_ok X G (c.d.fact 64))
  obtain ⟨fd46, D46⟩ := c.d.def_ 46
  have G46 := funD_fun (st := sRf) D46
  have gk46 := G46.kp
  have b46 := G46.binds (ps := ["program", "parts"]) fun _ _ _ _ _ _ us hl => match us, hl with | [_, _], _ => rfl
  have m46 := (He.glo_ok X G (c.d.fact 65))
  obtain ⟨fd47, D47⟩ := c.d.def_ 47
  have G47 := funD_fun (st := sLaw) D47
  have gk47 := G47.kp
  have b47 := G47.binds (ps := ["script"]) fun _ _ _ _ _ _ us hl => match us, hl with | [_], _ => rfl
  have m47 := (He.glo_ok X G (c.d.fact 66))
  obtain ⟨fdD0, FD0⟩ := c.d.def_ 48
  have mD0 := (He.glo_ok X G (c.d.fact 67))
  obtain ⟨fdM0, DM0⟩ := c.d.def_ 49
  have H0 := funD_fun (st := sIni) DM0
  have hb0 := H0.binds (ps := ["self", "rights", "owners", "functions"]) fun _ _ _ _ _ _ us hl => match us, hl with | [_, _, _, _], _ => rfl
  have M0 := He.mkr_ok (x := "Program") (c.d.fact 68)
  obtain ⟨fdM1, DM1⟩ := c.d.def_ 50
  have H1 := funD_fun (st := sRi) DM1
  have hb1 := H1.binds (ps := ["self"]) fun _ _ _ _ _ _ us hl => match us, hl with | [_], _ => rfl
  have M1 := He.meth_ok (x := "Program") (m := "rights") (c.d.fact 69)
  obtain ⟨fdM2, DM2⟩ := c.d.def_ 51
  have H2 := funD_fun (st := sEq) DM2
  have hb2 := H2.binds (ps := ["self", "other"]) fun _ _ _ _ _ _ us hl => match us, hl with | [_, _], _ => rfl
  obtain ⟨fdX_InvalidList, DX_InvalidList⟩ := c.d.def_ 52
  have X_InvalidList := xcls_of (P := P) (w := w) (st := (sInit 25)) (x := "InvalidList") (f := "value") (He.glo_ok X G (c.d.fact 70)) q_InvalidList DX_InvalidList ⟨rfl, rfl, rfl, by decide +kernel, rfl, by decide +kernel, by decide +kernel⟩ rfl (.inl rfl) (.inl rfl) (by decide) (by decide) (fun _ => rfl)
    (fun _ _ _ _ _ _ _ us its h1 h2 => match us, its, h1, h2 with | [_, _], [_], _, _ => ⟨_, rfl, rfl⟩) (fun _ _ _ _ _ _ _ us its h1 h2 => match us, its, h1, h2 with | [_], [_], _, _ => ⟨_, rfl, rfl⟩)
    (fun _ _ _ _ _ _ _ us its ws h1 h2 h3 => match us, its, ws, h1, h2, h3 with | [_], [_], [_], _, _, _ => ⟨_, rfl, rfl⟩)
  obtain ⟨fdX_InvalidItem, DX_InvalidItem⟩ := c.d.def_ 53
  have X_InvalidItem := xcls_of (P := P) (w := w) (st := (sInit 26)) (x := "InvalidItem") (f := "value") (He.glo_ok X G (c.d.fact 71)) q_InvalidItem DX_InvalidItem ⟨rfl, rfl, rfl, by decide +kernel, rfl, by decide +kernel, by decide +kernel⟩ rfl (.inl rfl) (.inl rfl) (by decide) (by decide) (fun _ => rfl)
    (fun _ _ _ _ _ _ _ us its h1 h2 => match us, its, h1, h2 with | [_, _], [_], _, _ => ⟨_, rfl, rfl⟩) (fun _ _ _ _ _ _ _ us its h1 h2 => match us, its, h1, h2 with | [_], [_], _, _ => ⟨_, rfl, rfl⟩)
    (fun _ _ _ _ _ _ _ us its ws h1 h2 h3 => match us, its, ws, h1, h2, h3 with | [_], [_], [_], _, _, _ => ⟨_, rfl, rfl⟩)
  obtain ⟨fdX_InvalidProgram, DX_InvalidProgram⟩ := c.d.def_ 54
  have X_InvalidProgram := xcls_of (P := P) (w := w) (st := (sInit 27)) (x := "InvalidProgram") (f := "value") (He.glo_ok X G (c.d.fact 72)) q_InvalidProgram DX_InvalidProgram ⟨rfl, rfl, rfl, by decide +kernel, rfl, by decide +kernel, by decide +kernel⟩ rfl (.inl rfl) (.inl rfl) (by decide) (by decide) (fun _ => rfl)
    (fun _ _ _ _ _ _ _ us its h1 h2 => match us, its, h1, h2 with | [_, _], [_], _, _ => ⟨_, rfl, rfl⟩) (fun _ _ _ _ _ _ _ us its h1 h2 => match us, its, h1, h2 with | [_], [_], _, _ => ⟨_, rfl, rfl⟩)
    (fun _ _ _ _ _ _ _ us its ws h1 h2 h3 => match us, its, ws, h1, h2, h3 with | [_], [_], [_], _, _, _ => ⟨_, rfl, rfl⟩)
  obtain ⟨fdX_InvalidPlace, DX_InvalidPlace⟩ := c.d.def_ 55
  have X_InvalidPlace := xcls_of (P := P) (w := w) (st := (sInit 28)) (x := "InvalidPlace") (f := "value") (He.glo_ok X G (c.d.fact 73)) q_InvalidPlace DX_InvalidPlace ⟨rfl, rfl, rfl, by decide +kernel, rfl, by decide +kernel, by decide +kernel⟩ rfl (.inl rfl) (.inl rfl) (by decide) (by decide) (fun _ => rfl)
    (fun _ _ _ _ _ _ _ us its h1 h2 => match us, its, h1, h2 with | [_, _], [_], _, _ => ⟨_, rfl, rfl⟩) (fun _ _ _ _ _ _ _ us its h1 h2 => match us, its, h1, h2 with | [_], [_], _, _ => ⟨_, rfl, rfl⟩)
    (fun _ _ _ _ _ _ _ us its ws h1 h2 h3 => match us, its, ws, h1, h2, h3 with | [_], [_], [_], _, _, _ => ⟨_, rfl, rfl⟩)
  have hx := hx
  obtain ⟨hx1, hx2⟩ := hx
  have kit : ∀ i j : Nat, i < 4 → j < 4 → PySem.W.kitOne K (.ref (([He.ga K "InvalidList", He.ga K "InvalidItem", He.ga K "InvalidProgram", He.ga K "InvalidPlace"] : List Addr).getD i 0)) (.ref (([He.ga K "InvalidList", He.ga K "InvalidItem", He.ga K "InvalidProgram", He.ga K "InvalidPlace"] : List Addr).getD j 0)) = some (decide (i = j)) := fun i j hi hj => of_decide_eq_true (List.all_eq_true.mp (List.all_eq_true.mp hx2 i (List.mem_range.mpr hi)) j (List.mem_range.mpr hj))
  have u_InvalidList := of_decide_eq_true (List.all_eq_true.mp hx1 (He.ga K "InvalidList") (List.mem_of_getElem? (i := 0) rfl))
  have u_InvalidItem := of_decide_eq_true (List.all_eq_true.mp hx1 (He.ga K "InvalidItem") (List.mem_of_getElem? (i := 1) rfl))
  have u_InvalidProgram := of_decide_eq_true (List.all_eq_true.mp hx1 (He.ga K "InvalidProgram") (List.mem_of_getElem? (i := 2) rfl))
  have u_InvalidPlace := of_decide_eq_true (List.all_eq_true.mp hx1 (He.ga K "InvalidPlace") (List.mem_of_getElem? (i := 3) rfl))
  have mRE := (He.glo_ok X G (c.d.fact 74))
  have B_Program := clsB_ok c_Program
  have mC_Program := (He.glo_ok X G (c.d.fact 75))
  unfold eqB at e_Program
  simp only [Bool.and_eq_true, decide_eq_true_eq] at e_Program
  have O_Program : OwnE K (He.ga K "Program") (He.ma K (He.ga K "Program") "__eq__") := ⟨e_Program.2, e_Program.1.1.1, e_Program.1.1.2, e_Program.1.2⟩
  have mT_EVENT_WORDS := (He.glo_ok X G (c.d.fact 76))
  have na_Program__rights := He.noat_ok (c.d.fact 77)
  have na_Program__owners := He.noat_ok (c.d.fact 78)
  have na_Program__functions := He.noat_ok (c.d.fact 79)
  refine ⟨fd47, fun s v => FunD.bindsA (ps := ["script"]) D47 (fun _ _ _ _ _ _ us hl => match us, hl with | [_], _ => rfl) s [v] rfl, fun base _ _ => ?_⟩
  have bB4 : Binds K fdD0 ["value", "names", "rights", "marked"] [] := by
    obtain ⟨ds, v, b⟩ := FunD.binds1 (ps := ["value", "names", "rights", "marked"]) FD0 4 1 (List.cons_ne_nil _ _) rfl fun _ _ _ _ _ _ _ us its h1 h2 => match us, its, h1, h2 with | [_, _, _, _], [_], _, _ => ⟨_, rfl, rfl⟩
    cases v
    exact b
  have bB3 : Binds K fdD0 ["value", "names", "rights", "marked"] [.bool false] := by
    obtain ⟨ds, v, b⟩ := FunD.binds1 (ps := ["value", "names", "rights", "marked"]) FD0 3 0 (List.cons_ne_nil _ _) rfl fun _ _ _ _ _ _ _ us its h1 h2 => match us, its, h1, h2 with | [_, _, _], [_], _, _ => ⟨_, rfl, rfl⟩
    cases v with
    | cons r rr =>
    cases rr
    cases (show _ = Value.bool false from r)
    exact b
  have BF : FunB K (He.ga K "is_body") fdD0 := FD0
  have bk := FD0.kp
  have mBd := mD0
  have hWd : ∀ H : Hp, SqT K H (He.ga K "EVENT_WORDS") (evW.map V.str) := fun H => He.tupB_ok t_EVENT_WORDS H
  have T : PTxt K mg (He.ga K "Program") := ⟨B_Program.cl, na_Program__rights, na_Program__owners, na_Program__functions, mC_Program⟩
  have I : PIsi K (He.ga K "Program") := ⟨B_Program.ha, B_Program.hn, B_Program.ht, B_Program.hm, B_Program.no⟩
  have TE : ETxt3 P w K mg (He.ga K "RightsError") _ _ _ _ _ _ _ _ _ := ⟨mRE, X_InvalidProgram, X_InvalidPlace, X_InvalidList, fun i hi => match i, hi with | 0, _ => u_InvalidProgram | 1, _ => u_InvalidPlace | 2, _ => u_InvalidList,
    fun i j hi hj => match i, j, hi, hj with
      | 0, 0, _, _ => kit 2 2 (by decide) (by decide)
      | 0, 1, _, _ => kit 2 3 (by decide) (by decide)
      | 0, 2, _, _ => kit 2 0 (by decide) (by decide)
      | 1, 0, _, _ => kit 3 2 (by decide) (by decide)
      | 1, 1, _, _ => kit 3 3 (by decide) (by decide)
      | 1, 2, _, _ => kit 3 0 (by decide) (by decide)
      | 2, 0, _, _ => kit 0 2 (by decide) (by decide)
      | 2, 1, _, _ => kit 0 3 (by decide) (by decide)
      | 2, 2, _, _ => kit 0 0 (by decide) (by decide)⟩
  have kCell := ok_cell (P := P) (w := w) (mg := mg) (base := base) G30 n_len
  have kHash := ok_hash (P := P) (w := w) (mg := mg) (base := base) G31 n_int
  have kGen := ok_gen G32 n_int n_max kCell m30 gk30 b30
  have kRnd := ok_rnd G33 n_int n_range kHash m31 gk31 b31
  have kRts := ok_rts G34 kRnd m33 gk33 b33
  have kOws := ok_ows G35 kRnd m33 gk33 b33
  have kBod := ok_drawn G36 G37 kRnd m33 gk33 b33 m37 gk37 b37 m36 gk36 b36 n_len n_range 2
  have kCnt := ok_cnt (P := P) (w := w) (mg := mg) (base := base) G40 m40 gk40 b40 n_sum n_isinstance n_list 2
  have kCop := ok_cop (P := P) (w := w) (mg := mg) (base := base) G38 m38 gk38 b38 n_tuple n_isinstance n_list 4
  have kPrt := ok_prt2 G41 kRnd m33 gk33 b33 kRts m34 gk34 b34 kOws m35 gk35 b35 kBod m37 gk37 b37 kCnt m40 gk40 b40 n_len n_repr n_int
  have kNm := ok_nm (P := P) (w := w) (mg := mg) (base := base) G1 n_len n_isinstance n_str n_all m_LETTERS ⟨_, rfl⟩ m_LONGEST_NAME ⟨_, rfl⟩
  have kTp := ok_tp (P := P) (w := w) (mg := mg) (base := base) G2 n_len n_isinstance n_tuple
  have kBd := ok_bodies (P := P) (w := w) (mg := mg) (base := base) BF G3 G4 mBd bk bB4 m3 gk3 b3 m4 gk4 b4 n_len n_isinstance n_bool n_all n_tuple n_list 12
  have kCb := ok_copies (P := P) (w := w) (mg := mg) (base := base) G5 G6 G7 m6 gk6 b6 m7 gk7 b7 n_tuple n_isinstance n_list 4
  have kCho := ok_cho (P := P) (w := w) (mg := mg) (base := base) G17 n_len n_isinstance n_list n_all
  have kOwn := ok_own G16 kTp m2 gk2 b2 kNm m1 gk1 b1 kCho m17 gk17 b17
  have kFun := ok_fun (n := 12) G18 kTp m2 gk2 b2 kNm m1 gk1 b1 kBd mBd bk bB3
  have kSz := ok_sz (base := base) G12 X_InvalidList n_len n_isinstance n_list
  have kCkR := ok_ckR (fI := He.ga K "is_body") (fdI := fdD0) G13 X_InvalidItem kSz m12 gk12 b12 kNm m1 gk1 b1 m_MOST_RIGHTS ⟨_, rfl⟩
  have kCkO := ok_ckO G14 X_InvalidItem kSz m12 gk12 b12 kOwn m16 gk16 b16 m_MOST_OWNERS ⟨_, rfl⟩
  have kCkF := ok_ckF (n := 12) G15 X_InvalidItem kSz m12 gk12 b12 kFun m18 gk18 b18 kTp m2 gk2 b2 kNm m1 gk1 b1 m_MOST_FUNCTIONS ⟨_, rfl⟩
  have kCpO := ok_cpO (P := P) (w := w) (mg := mg) (base := base) G19 n_list
  have kCpF := ok_cpF (d := 4) G20 kCb m5 gk5 b5
  have kIni := ok_init (n := 12) (d := 4) H0 T (by decide) kCkR m13 gk13 b13 kCkO m14 gk14 b14 kCkF m15 gk15 b15 kCpO m19 gk19 b19 kCpF m20 gk20 b20 n_list
  have kRi := ok_ri (P := P) (w := w) (base := base) H1 T n_list
  have kEq := ok_eqP (P := P) (w := w) (base := base) H2 T I n_isinstance
  have kPgm := ok_pgm (n := 12) (d := 4) G39 T (by decide) kCop m38 gk38 b38 M0 kIni hb0 n_list
  have kIb := ok_ib (P := P) (w := w) (mg := mg) (base := base) G8
  have kIn := ok_in G9 kIb m8 gk8 b8 n_len
  have kOn := ok_ons G10 m10 gk10 b10 kIn m9 gk9 b9 n_len 4
  have kWh := ok_wh (P := P) (w := w) (mg := mg) (base := base) G0 n_isinstance n_int n_bool
  have kSpt := ok_spt G11 kTp m2 gk2 b2 kWh m0 gk0 b0 n_isinstance n_str n_tuple n_all
  have kKs := ok_ks (n := 4) G22 T kSpt m11 gk11 b11 kOn m10 gk10 b10
  have kNp := ok_np (base := base) G21 T I X_InvalidProgram n_isinstance
  have kNpl := ok_npl (n := 4) G23 X_InvalidPlace kKs m22 gk22 b22
  have kIo := ok_io (P := P) (w := w) (mg := mg) (base := base) G24 n_isinstance n_list
  have kNor := ok_nor G25 X_InvalidList kIo m24 gk24 b24
  have kRt := ok_rt (n := 4) G26 T kNp m21 gk21 b21 kNpl m23 gk23 b23 kNor m25 gk25 b25 kRi M1 hb1 mT_EVENT_WORDS hWd
  have kOc := ok_oc (n := 4) G27 kNp m21 gk21 b21 kNpl m23 gk23 b23
  have kFf := ok_ff G28 kNp m21 gk21 b21
  have kLe := ok_le G29 kNp m21 gk21 b21
  have kBp := ok_bp (P := P) (w := w) (mg := mg) (base := base) G43 n_dict n_sorted
  have kAp := ok_ap G42 kBp m43 gk43 b43 n_len n_range
  have kCa := ok_ca G44 TE kRt m26 gk26 b26 kOc m27 gk27 b27 kFf m28 gk28 b28 kLe m29 gk29 b29 n_isinstance n_repr
  have kLr := ok_lr G45 kCa m44 gk44 b44 n_repr n_tuple n_len
  have kRf := ok_rf G46 kCa m44 gk44 b44 kAp m42 gk42 b42 kLr m45 gk45 b45 n_repr n_range
  exact ok_law G47 T I O_Program B_Program.ns kGen ⟨m32, gk32, b32⟩ kRnd ⟨m33, gk33, b33⟩ kPrt ⟨m41, gk41, b41⟩ kPgm ⟨m39, gk39, b39⟩ kEq hb2 kRf ⟨m46, gk46, b46⟩ n_range

end Lx

set_option Elab.async false
set_option maxRecDepth 100000
set_option linter.all false
set_option maxHeartbeats 0
open PySem PySem.W PyProof.Rows in
set_option maxRecDepth 100000 in
set_option maxHeartbeats 0 in
theorem PySem.Challenge.cw_callersrights_k24_runs_and_outcomes_refu_holds : PySem.Challenge.rw_callersrights_k24_runs_and_outcomes_refu.Holds := by
  w_on; o_law
  refine HandSHeadRun.head_imp (r := OpenLaw.row PySem.Challenge.rw_callersrights_k24_runs_and_outcomes_refu) (q := Lx.qvH) (H := Lx.hkH) (ob := Lx.obH) (M := 12000) (loose := Lx.nmH) (d := HandSHeadRun.topDef (OpenLaw.row PySem.Challenge.rw_callersrights_k24_runs_and_outcomes_refu).prog 83) (kwd := []) Lx.obH_eq Lx.runH
    (by kernel_rfl) (by kernel_rfl) (by kernel_rfl) (by rfl) (by first | assumption | decide +kernel) (by decide +kernel) ⟨rfl, rfl, rfl, rfl, rfl, by decide +kernel⟩ ?hw ?hc
  case hw => w_witness2
  case hc =>
    refine Kx.walk_GE (l := PySem.Challenge.rw_callersrights_k24_runs_and_outcomes_refu) (n := 63) (k := 46) (x := "script") (CX := fun _ => L2.CX0) rfl (by decide) (by kernel_rfl) ⟨rfl, by decide, by decide⟩ (by first | rfl | decide +kernel) ?F (fun _ _ _ _ _ z => z)
    intro w mg fa h Y G hmg0
    obtain ⟨K, KX, c⟩ := Y
    have hmg : mg ("law" : PySem.Str) = some (.ref fa) := by
      have e : (HandSHeadRun.topDef (OpenLaw.row PySem.Challenge.rw_callersrights_k24_runs_and_outcomes_refu).prog 83).name = ("law" : PySem.Str) := by kernel_rfl
      rw [← e]
      exact hmg0
    obtain ⟨fd, hb, hF⟩ := Lx.all_mk (P := (PySem.Challenge.rw_callersrights_k24_runs_and_outcomes_refu).prog) (w := w) KX G hmg c
    have hs : K.lookup sysModules = none := by
      have h1 : Lx.chkH K = true := c.c
      unfold Lx.chkH at h1
      simp only [Bool.and_eq_true] at h1
      exact Option.isNone_iff_eq_none.mp h1.1
    exact ⟨K, fd, Lx.spLaw K, KX, hs, hb, fun H a ns hl hbt hS hQ => ⟨a, ns, rfl, hQ, hS, fun _ => rfl⟩, hF⟩
