import PyProof.Rows.All
import Wide.All
import OpenK.AllK
import Wide.FinOn
import HandS.ForMost
import HandS.EndBits
import HandS.ExcInit
import HandS.MakeKw
import HandS.IsInst
import KE.KExcIs
import HandS.ExcField
import HandS.ExcIs
import HandS.ExcValue
import HandS.Evl
import HandS.Wide
import HandS.WideBits
import HandS.Defaults
import HandS.Style
import PyProof.EqKinds
import HandS.ExcOwn
import HandS.WordsExc
import HandS.Conv
import HandS.Comp
import HandS.CallLocal
import HandS.OwnEq
import PyProof.InstEq
import HandS.Iter
import HandS.NoneIn
import PySem.Challenge.RW_callersrights_k10_programs_made
set_option Elab.async false
set_option maxRecDepth 100000
set_option linter.all false
set_option maxHeartbeats 2000000
/-! KitA: a def's promise where no repr is under way around it (guards), and sysModules is held fast. -/
namespace Kx
open PySem PySem.Spec PyProof.Rows L2

/-- a promise that may ask that nothing is being shown around the call -/
structure GnOk (P : Program) (w : World) (K : PySem.W.Frag) (mg : Str → Option Value) (base : Heap)
    (CX : CXT) (k : Nat) (f : Addr) (fd : FuncData) (ps : List Str) (sp : Sp) : Prop where
  len : ∀ vs H Q E, sp vs H Q E → vs.length = ps.length
  run : ∀ (A : Around) (outer : List Env) (s : Shared) (H : Hp) (args : Args) (us : List Value) (vs : List V)
    (Q : VK) (E : XK), A.guards = some [] → Room k A → Env0 P w K mg base A outer s H →
    BindsTo s fd args (ps.zip us) → Vals vs us → sp vs H Q E →
    codeAny (model P w) A (.call (.ref f) args) (CR CX outer P w H s Q E) s

section
variable {P : Program} {w : World} {K : PySem.W.Frag} {mg : Str → Option Value} {base : Heap} {CX : CXT}
  {f : Addr} {fd : FuncData} {ps : List Str} {sp : Sp}
theorem GnOk.of {k : Nat} (F : FnOk P w K mg base CX k f fd ps sp) : GnOk P w K mg base CX k f fd ps sp :=
  ⟨F.len, fun A o s H a us vs Q E _ hr => F.run A o s H a us vs Q E hr⟩
theorem GnOk.mono {j k : Nat} (F : GnOk P w K mg base CX j f fd ps sp) (h : j ≤ k) : GnOk P w K mg base CX k f fd ps sp :=
  ⟨F.len, fun A o s H a us vs Q E hg hr => F.run A o s H a us vs Q E hg (hr.mono h)⟩
theorem deeper_guards {A : Around} {env : Env} (h : A.guards = some []) : (A.deeper env).guards = some [] := h
end

/-- a def by its body, the body knowing the guards -/
theorem gn_of {CX : CXT} {P : Program} {w : World} {K : PySem.W.Frag} {mg : Str → Option Value} {base : Heap}
    {x qual : Str} {st : Stmt} {f : Addr} {fd : FuncData} {N ps : List Str} {k : Nat} {sp : Sp}
    (F : Fun K x qual st f fd) (S : FnScope N ps (defScope st)) (len : ∀ vs H Q E, sp vs H Q E → vs.length = ps.length)
    (hbody : ∀ (cdv : Value) (A : Around) (outer : List Env) (s : Shared) (H : Hp) (vs : List V) (Q : VK) (E : XK),
      A.guards = some [] → Room k (A.deeper (envOfC qual (defScope st) s.heap.objs.size f cdv)) → sp vs H Q E →
      ∃ t, PSs (cxOf CX P w K mg base N qual (defScope st) f cdv A outer s H E) (defBody st) t ∧
        t { nx := fun _ H' => Q .non H', rt := Q } (start N vs) H) :
    GnOk P w K mg base CX (k + 1) f fd ps sp := by
  obtain ⟨oc, od, kV, doc, pm, an, cdv, ct, osl, rfl, lk, hcd⟩ := F.ex
  refine ⟨len, fun A outer s H args us vs Q E hg hr e0 hb r hsp => ?_⟩
  have KX : K.In s.heap := e0.mod.kin.keeps fun b o e => (e0.bs b o e).1
  have lim : s.heap.NoLimit := e0.mod.nolimit.keeps fun b o e => (e0.bs b o e).1
  refine codeAny_call_function hr.depth (KX _ _ lk) rfl S.co S.gen rfl (PySem.W.codeRec_of KX hcd) (hb _ _ _ _ ?_)
  refine wpAny_newFunctionEnv_cells S.kind (fun ⟨n, v⟩ hy => ?_) fun env he s1 x => ?_
  · rcases S.par n (List.of_mem_zip hy).1 with q | q
    · exact Or.inl q
    · exact Or.inr ⟨q, PySem.W.cellsFrom_some _ _ _ (Or.inl q)⟩
  subst he
  refine ⟨lim.keeps x.toInCall.keep, codeAny_func ?_⟩
  obtain ⟨t, ht, hq⟩ := hbody cdv A outer s H vs Q E hg (hr.deeper _) hsp
  have J := inv_start (CX := CX) (E := E) S hr.hd e0 (len _ _ _ _ hsp) r x
  refine wpAny_mono (ht.run [] s1 (start N vs) H _ J hq) (fun fl s' hs => ?_) fun e s' hs => hs
  cases fl with
  | ret u =>
    obtain ⟨v, σ', H', J', rv, q⟩ := hs
    exact ⟨v, H', J'.os, J'.bare, J'.base, J'.hok, rv, q⟩
  | next =>
    obtain ⟨σ', H', J', q⟩ := hs
    exact ⟨V.non, H', J'.os, J'.bare, J'.base, J'.hok, rfl, q⟩
  | brk =>
    obtain ⟨_, _, _, q⟩ := hs
    exact q.elim
  | cont =>
    obtain ⟨_, _, _, q⟩ := hs
    exact q.elim
theorem gn_ok {P : Program} {w : World} {K : PySem.W.Frag} {mg : Str → Option Value} {base : Heap}
    {x qual : Str} {st : Stmt} {f : Addr} {fd : FuncData} {N ps : List Str} {k : Nat} {sp : Sp}
    (F : Fun K x qual st f fd) (S : FnScope N ps (defScope st)) (len : ∀ vs H Q E, sp vs H Q E → vs.length = ps.length)
    (hbody : ∀ (cdv : Value) (A : Around) (outer : List Env) (s : Shared) (H : Hp) (vs : List V) (Q : VK) (E : XK),
      A.guards = some [] → Room k (A.deeper (envOfC qual (defScope st) s.heap.objs.size f cdv)) → sp vs H Q E →
      ∃ t, PSs (cxOf CX0 P w K mg base N qual (defScope st) f cdv A outer s H E).nox (defBody st) t ∧
        t { nx := fun _ H' => Q .non H', rt := Q } (start N vs) H) :
    GnOk P w K mg base CX0 (k + 1) f fd ps sp :=
  gn_of F S len fun cdv A outer s H vs Q E hg hr hsp =>
    let ⟨t, h, q⟩ := hbody cdv A outer s H vs Q E hg hr hsp
    ⟨t, h.nox, q⟩

section
variable {X : Cx} {CX : CXT} {k : Nat} {f : Addr} {fd : FuncData} {ps : List Str} {sp : Sp} {dvs : List V}
  {ds : List Value} {E : XK} {x : Str} {p pos : Pos} {e : Expr} {es : List Expr} {t : TA}
theorem run_gn {pins : List (Addr × Obj)} {σ : L2.St} {H : Hp} {s : Shared} {Q : VK} {us : List Value} {vs : List V}
    (F : GnOk X.prog X.w X.K X.mg X.base CX k f fd ps sp) (hg : X.A.guards = some []) (hr : Room k X.A)
    (hb : Binds X.K fd ps ds) (hd : Vals dvs ds) (hx : Passes CX X E) (I : Inv X pins σ H s) (r : Vals vs us)
    (h : sp (vs ++ dvs) H Q E) : wpAny (model X.prog X.w) X.A (call (.ref f) us) (EP X pins σ Q) X.xe s := by
  have r2 : Vals (vs ++ dvs) (us ++ ds) := r.append hd
  have hl : (us ++ ds).length = ps.length := r2.length.symm.trans (F.len _ _ _ _ h)
  refine wpAny_call (codeAny_mono (F.run X.A X.stack s H ⟨us, []⟩ (us ++ ds) (vs ++ dvs) Q E hg hr I.env0
    (hb s us I.kIn hl) r2 h) fun r s' hq => ?_)
  cases r with
  | error e => exact hx pins σ H s e s' I hq
  | ok fl =>
    cases fl with
    | ret u => exact I.after hq
    | next => exact False.elim hq
    | brk => exact False.elim hq
    | cont => exact False.elim hq
theorem pe_callG (F : GnOk X.prog X.w X.K X.mg X.base CX k f fd ps sp) (hgu : X.A.guards = some []) (hr : Room k X.A)
    (hg : Gl X x) (hm : X.mg x = some (.ref f)) (hk : PySem.W.keepIn X.K (.ref f) = true) (hb : Binds X.K fd ps ds)
    (hd : Vals dvs ds) (hx : Passes CX X E) (ha : PA X (e :: es) t) (hdb : (x == ("__debug__" : Str)) = false := by decide)
    (he : starEach (e :: es) X.env = (false, eval e X.env) :: starEach es X.env := by rfl)
    (hpl : (backTo pos (starEach es X.env)).any (·.1) = false := by rfl) :
    PE X (.Call (.Name x p) (e :: es) [] pos) (tCall sp dvs E t) :=
  ⟨fun pins s σ H Q I h => wpAny_Call_Name_kw (ld_glob I hg hm (PySem.W.callWith_K (h₀ := X.base) I.ok.mod.kin hk
    (thn (ha.run pos pins s σ H _ I h) fun us s1 ⟨vs, H1, I1, r, q⟩ =>
      ⟨I1.kIn, run_gn F hgu hr hb hd hx I1 r q⟩) he hpl) hdb)⟩
theorem pe_callG0 (F : GnOk X.prog X.w X.K X.mg X.base CX k f fd ps sp) (hgu : X.A.guards = some []) (hr : Room k X.A)
    (hg : Gl X x) (hm : X.mg x = some (.ref f)) (hk : PySem.W.keepIn X.K (.ref f) = true) (hb : Binds X.K fd ps ds)
    (hd : Vals dvs ds) (hx : Passes CX X E) (hdb : (x == ("__debug__" : Str)) = false := by decide) :
    PE X (.Call (.Name x p) [] [] pos) (tCall sp dvs E tNil) :=
  ⟨fun pins s σ H Q I h => wpAny_Call_Name_kw (ld_glob I hg hm (PySem.W.callWith_K0 I.kIn hk
    (run_gn (us := []) F hgu hr hb hd hx I .nil h)) hdb)⟩
end

/-- sysModules is known and never written -/
def Sys (H : Hp) : Prop := ∃ o u, H sysModules = some (.frz o u)
theorem Sys.ne {H : Hp} (y : Sys H) {a : Addr} {o : HO} (h : H a = some o) (n : ∀ ob u, o ≠ .frz ob u) : a ≠ sysModules := by
  rintro rfl
  obtain ⟨ob, u, e⟩ := y
  rw [h] at e
  exact n ob u (Option.some.inj e)

theorem law_callG {P : Program} {w : World} {K : PySem.W.Frag} {mg mb : Str → Option Value} {CX : CXT} {k : Nat}
    {fa a : Addr} {fd : FuncData} {x : Str} {sp : Sp} {s₁ : Shared} {vs : List Value} {ns : List Int}
    (KX : K.In s₁.heap) (hns : s₁.heap.Ns mainGlobals mg) (hb : s₁.heap.Ns builtinsNs mb)
    (hbb : ∀ x : Str, x ≠ "__name__" → mb x = bootBuiltins x) (hlim : s₁.heap.NoLimit) (hg : s₁.gens = #[])
    (hsys : ∃ mm, s₁.heap.Ns sysModules mm) (hK1 : K.lookup sysModules = none)
    (ha : s₁.heap.get? a = some { cls := .type "list", data := .seq vs.toArray }) (hi : IntsAre vs ns)
    (hl : ns.length ≤ sizeLine) (hr : Room k callerA)
    (F : ∀ base : Heap, K.In base → base.Ns mainGlobals mg → GnOk P w K mg base CX k fa fd [x] sp)
    (hbind : ∀ (s : Shared) (u : Value), BindsTo s fd ⟨[u], []⟩ [(x, u)])
    (hsp : ∀ H : Hp, Sys H → SqL K H a (ns.map V.int) → sp [.ref a] H (fun v _ => v = .bl true) fun _ _ _ => False)
    (hCX : ∀ H e s', CX [] H s₁ (fun _ _ _ => False) e s' → False) :
    codeAny (model P w) callerA (.call (.ref fa) ⟨[.ref a], []⟩)
      (fun r s' => r = .ok (.ret (.bool true)) ∧ OldK s₁.heap s'.heap ∧ s'.os = s₁.os ∧ AllBare s'.gens) s₁ := by
  have rv := vals_ints hi
  obtain ⟨mm, o1, es1, ep1, h1, d1, r1⟩ := hsys
  have hne : sysModules ≠ a := fun z => by
    rw [z, ha] at h1
    cases h1
    cases d1
  have core : ∀ H : Hp, HOk P w H s₁.heap → (∀ b u, H b = some u → ∃ ob v, u = .frz ob v) → Sys H →
      SqL K H a (ns.map V.int) → (∀ b u, H b = some u → b = sysModules ∨ (b = a ∧ K.lookup a = none)) →
      codeAny (model P w) callerA (.call (.ref fa) ⟨[.ref a], []⟩)
        (fun r s' => r = .ok (.ret (.bool true)) ∧ OldK s₁.heap s'.heap ∧ s'.os = s₁.os ∧ AllBare s'.gens) s₁ := by
    intro H hok Hfrz hS hQ hW
    have noneD : ∀ {b : Addr} {o : Obj} {es : Array DictEntry} {ep : Nat}, s₁.heap.get? b = some o →
        o.data = .dict es ep → b ≠ sysModules → H b = none := fun {b o es ep} e d n => by
      cases q : H b with
      | none => rfl
      | some u =>
        rcases hW b u q with z | ⟨z, _⟩
        · exact absurd z n
        · rw [z, ha] at e
          cases e
          cases d
    have nsK : ∀ {b : Addr} {m : Str → Option Value}, s₁.heap.Ns b m → b ≠ sysModules → (hidT s₁.heap H).Ns b m :=
      fun {b m} ⟨o, es, ep, e, d, r⟩ n => ⟨o, es, ep, hidT_get e (noneD e d n), d, r⟩
    have hKb : K.In (hidT s₁.heap H) := fun b o e => hidT_get (KX b o e) (by
      cases q : H b with
      | none => rfl
      | some u =>
        rcases hW b u q with z | ⟨z, z2⟩
        · rw [z, hK1] at e
          cases e
        · rw [z, z2] at e
          cases e)
    obtain ⟨mc, hmc, hmc2⟩ := hlim
    have hM : Mod K mg (hidT s₁.heap H) :=
      ⟨hKb, nsK hns (by decide), ⟨mb, nsK hb (by decide), hbb⟩, ⟨mc, nsK hmc (by decide), hmc2⟩⟩
    have e0 : Env0 P w K mg (hidT s₁.heap H) callerA [] s₁ H :=
      ⟨rfl, hM, fun b o e => of_hidT e, Nat.le_of_eq (hidT_size _ _), trivial,
        fun b hb => absurd (show b ∈ ([] : List Addr) from hb) (by simp), hok, .of_eq hg⟩
    refine codeAny_mono ((F _ hKb (nsK hns (by decide))).run callerA [] s₁ H ⟨[.ref a], []⟩ [.ref a] [.ref a] _ _ rfl hr e0
      (hbind s₁ (.ref a)) (.cons rfl .nil) (hsp H hS hQ)) fun r s' h => ?_
    cases r with
    | error e => exact (hCX H e s' h).elim
    | ok fl =>
      cases fl with
      | next => exact h.elim
      | brk => exact h.elim
      | cont => exact h.elim
      | ret u =>
        obtain ⟨v, H', os, bare, un, hok', r', q⟩ := h
        have q' : v = .bl true := q
        subst q'
        obtain rfl : u = Value.bool true := r'
        refine ⟨rfl, OldK.of_keep fun b o e => ?_, os, bare⟩
        cases q : H b with
        | none => exact un.keep b o e q (by intro z; exact absurd (show b ∈ ([] : List Addr) from z) (by simp)) (by simp)
        | some u =>
          obtain ⟨ob, v, rfl⟩ := Hfrz b u q
          obtain ⟨e1, _⟩ := hok b _ q
          obtain ⟨e2, _⟩ := hok' b _ (un.frzs b ob _ q)
          rw [e] at e1
          cases e1
          exact e2
  cases hk : K.lookup a with
  | some o =>
    have e := KX a o hk
    rw [ha] at e
    cases e
    refine core (fun b => if b = sysModules then some (.frz o1 (.ext fun _ => True)) else none) (fun b u e => ?_) (fun b u e => ?_)
      ⟨_, _, if_pos rfl⟩ (.inr ⟨_, vs.toArray, _, hk, rfl, rfl, rfl, by rw [List.size_toArray, hi.length]; exact hl, by simpa using rv⟩) fun b u e => ?_
    · by_cases z : b = sysModules
      · have e' := (if_pos z).symm.trans e
        cases e'
        subst z
        exact ⟨h1, trivial, ⟨o1, h1⟩, fun _ _ _ _ => trivial⟩
      · have e' := (if_neg z).symm.trans e
        cases e'
    · by_cases z : b = sysModules
      · have e' := (if_pos z).symm.trans e
        exact ⟨_, _, (Option.some.inj e').symm⟩
      · have e' := (if_neg z).symm.trans e
        cases e'
    · by_cases z : b = sysModules
      · exact .inl z
      · have e' := (if_neg z).symm.trans e
        cases e'
  | none =>
    have Ha : (fun b => if b = a then some (HO.frz { cls := .type "list", data := .seq vs.toArray } (.lst (ns.map V.int)))
      else if b = sysModules then some (.frz o1 (.ext fun _ => True)) else none : Hp) a = _ := if_pos rfl
    refine core (fun b => if b = a then some (.frz { cls := .type "list", data := .seq vs.toArray } (.lst (ns.map V.int)))
      else if b = sysModules then some (.frz o1 (.ext fun _ => True)) else none) (fun b u e => ?_) (fun b u e => ?_)
      ⟨_, _, (if_neg hne).trans (if_pos rfl)⟩ (.inl (.inr ⟨_, Ha⟩)) fun b u e => ?_
    · by_cases z : b = a
      · have e' := (if_pos z).symm.trans e
        cases e'
        subst z
        exact ⟨ha, by rw [List.length_map]; exact hl, vs, _, rv, ha⟩
      · by_cases z2 : b = sysModules
        · have e' := ((if_neg z).trans (if_pos z2)).symm.trans e
          cases e'
          subst z2
          exact ⟨h1, trivial, ⟨o1, h1⟩, fun _ _ _ _ => trivial⟩
        · have e' := ((if_neg z).trans (if_neg z2)).symm.trans e
          cases e'
    · by_cases z : b = a
      · have e' := (if_pos z).symm.trans e
        exact ⟨_, _, (Option.some.inj e').symm⟩
      · by_cases z2 : b = sysModules
        · have e' := ((if_neg z).trans (if_pos z2)).symm.trans e
          exact ⟨_, _, (Option.some.inj e').symm⟩
        · have e' := ((if_neg z).trans (if_neg z2)).symm.trans e
          cases e'
    · by_cases z : b = a
      · exact .inr ⟨z, hk⟩
      · by_cases z2 : b = sysModules
        · exact .inl z2
        · have e' := ((if_neg z).trans (if_neg z2)).symm.trans e
          cases e'

theorem walk_G {l : PySem.W.OpenLaw} {n k : Nat} {q : Program} {loose : List Str} {XP : (Str → Option Value) → Heap → Prop}
    {YP : World → Heap → Prop} {d : PySem.DefRec} {K : Params → PySem.W.Frag} {CX : World → CXT} {sp : World → Sp} {x : Str}
    (hn : l.most = some n) (hn2 : n ≤ sizeLine) (hdf : d.params.defaults = []) (hr : Room k callerA)
    (hY : ∀ (w : World) (h : Heap), YP w h → (K w.params).In h) (hK1 : ∀ w : World, (K w.params).lookup sysModules = none)
    (hq : importsNone q = true)
    (F : ∀ (w : World) (mg : Str → Option Value) (fa : Addr) (h : Heap), (K w.params).In h → h.Ns mainGlobals mg →
      mg d.name = some (.ref fa) → ∃ fd : FuncData, (∀ (s : Shared) (u : Value), BindsTo s fd ⟨[u], []⟩ [(x, u)]) ∧
        ∀ base : Heap, (K w.params).In base → base.Ns mainGlobals mg → GnOk l.prog w (K w.params) mg base (CX w) k fa fd [x] (sp w))
    (hsp : ∀ (w : World) (H : Hp) (a : Addr) (ns : List Int), ns.length ≤ n → (∀ z ∈ ns, Builtin.Int.intBits z ≤ 1048576) →
      Sys H → SqL (K w.params) H a (ns.map V.int) → sp w [.ref a] H (fun v _ => v = .bl true) fun _ _ _ => False)
    (hCX : ∀ (w : World) (H : Hp) (s : Shared) (e : Value) (s' : Shared), CX w [] H s (fun _ _ _ => False) e s' → False) :
    PySem.W.WalkO q loose XP YP l.row.toRowW d [] (fun f vs => PySem.call f vs) := by
  refine Att.attach_callB hn hdf fun w s₀ s₁ mg mb fa o pm cd doc a vs ns G Y ho hd hcd hmg hobj hints hlen hbits hg => ?_
  have KX := hY w _ Y
  obtain ⟨fd, hb, hF⟩ := F w mg fa _ KX G.T.g hmg
  exact law_callG KX G.T.g G.T.b G.T.builtins G.T.nolimit hg (let ⟨mm, a, _⟩ := (G.T.seer hq).mods; ⟨mm, a⟩) (hK1 w) hobj hints (Nat.le_trans hlen hn2) hr hF hb
    (fun H hS hQ => hsp w H a ns hlen hbits hS hQ) fun H e s' => hCX w H s₁ e s'
end Kx

set_option Elab.async false
set_option maxRecDepth 100000
set_option linter.all false
set_option maxHeartbeats 2000000
/-! KitB: data at any depth (dicts too), and repr of it. -/
namespace Kx
open PySem PySem.Spec PyProof.Rows L2

def keyD : Key → PyData
  | .inl i => .int i
  | .inr x => .str x
mutual
/-- a value of plain data: what it shows at this heap -/
inductive Dq (K : PySem.W.Frag) (H : Hp) : V → PyData → Prop
  | non : Dq K H .non .none
  | bl (b : Bool) : Dq K H (.bl b) (.bool b)
  | int (i : Int) : Dq K H (.int i) (.int i)
  | str (x : Str) : Dq K H (.str x) (.str x)
  | lst {a : Addr} {xs : List V} {ds : List PyData} : H a = some (.lst xs) → DqA K H xs ds → Dq K H (.ref a) (.list ds)
  | tup {a : Addr} {xs : List V} {ds : List PyData} : SqT K H a xs → DqA K H xs ds → Dq K H (.ref a) (.tuple ds)
  | dic {a : Addr} {kvs : List (Key × V)} {ds : List (PyData × PyData)} : H a = some (.dK kvs) → DqD K H kvs ds → Dq K H (.ref a) (.dict ds)
inductive DqA (K : PySem.W.Frag) (H : Hp) : List V → List PyData → Prop
  | nil : DqA K H [] []
  | cons {v : V} {vs : List V} {d : PyData} {ds : List PyData} : Dq K H v d → DqA K H vs ds → DqA K H (v :: vs) (d :: ds)
inductive DqD (K : PySem.W.Frag) (H : Hp) : List (Key × V) → List (PyData × PyData) → Prop
  | nil : DqD K H [] []
  | cons {k : Key} {v : V} {vs : List (Key × V)} {d : PyData} {ds : List (PyData × PyData)} : Dq K H v d → DqD K H vs ds → DqD K H ((k, v) :: vs) ((keyD k, d) :: ds)
end
theorem sqt_ex {K : PySem.W.Frag} {H H' : Hp} {a : Addr} {xs : List V} (e : Same H H') (h : SqT K H a xs) : SqT K H' a xs := by
  rcases h with (h | ⟨o, h⟩) | h
  · exact .inl (.inl (e _ _ h))
  · exact .inl (.inr ⟨o, e _ _ h⟩)
  · exact .inr h
mutual
theorem Dq.mono {K : PySem.W.Frag} {H H' : Hp} (e : Same H H') : ∀ {d : PyData} {v : V}, Dq K H v d → Dq K H' v d
  | _, _, .non => .non
  | _, _, .bl b => .bl b
  | _, _, .int i => .int i
  | _, _, .str x => .str x
  | _, _, .lst h a => .lst (e _ _ h) (DqA.mono e a)
  | _, _, .tup h a => .tup (sqt_ex e h) (DqA.mono e a)
  | _, _, .dic h a => .dic (e _ _ h) (DqD.mono e a)
theorem DqA.mono {K : PySem.W.Frag} {H H' : Hp} (e : Same H H') : ∀ {ds : List PyData} {vs : List V}, DqA K H vs ds → DqA K H' vs ds
  | _, _, .nil => .nil
  | _, _, .cons a b => .cons (Dq.mono e a) (DqA.mono e b)
theorem DqD.mono {K : PySem.W.Frag} {H H' : Hp} (e : Same H H') : ∀ {ds : List (PyData × PyData)} {vs : List (Key × V)}, DqD K H vs ds → DqD K H' vs ds
  | _, _, .nil => .nil
  | _, _, .cons a b => .cons (Dq.mono e a) (DqD.mono e b)
end
theorem Sys.mono {H H' : Hp} (y : Sys H) (e : Same H H') : Sys H' := let ⟨o, u, h⟩ := y; ⟨o, u, e _ _ h⟩

section
variable {X : Cx} {pins : List (Addr × Obj)} {σ : L2.St} {H : Hp} {s : Shared}
theorem key_reads {P : Program} {w : World} {h : Heap} {k : Key} {u : Value} (e : (mixKind P w).is k u = true) : Reads h u (keyD k) [] := by
  rcases keyIs_shape (show keyIs k u = true from e) with ⟨i, t, rfl, rfl⟩ | ⟨x, t, rfl, rfl⟩
  · exact .int i t
  · exact .str x t
mutual
theorem Dq.reads (I : Inv X pins σ H s) (y : Sys H) : ∀ {d : PyData} {v : V} {u : Value}, Dq X.K H v d → RelV v u → ∃ as, Reads s.heap u d as ∧ sysModules ∉ as
  | _, _, _, .non, r => by
    cases r
    exact ⟨_, Reads.none, by simp⟩
  | _, _, _, .bl b, r => by
    cases r
    exact ⟨_, Reads.bool b, by simp⟩
  | _, _, _, .int i, r => by
    obtain ⟨t, rfl⟩ := r
    exact ⟨_, Reads.int i t, by simp⟩
  | _, _, _, .str x, r => by
    obtain ⟨t, rfl⟩ := r
    exact ⟨_, Reads.str x t, by simp⟩
  | _, _, _, .lst (a := a) h q, r => by
    cases r
    obtain ⟨_, its, n, rv, ho⟩ := (show ObjOk X.prog X.w H s.heap a (.lst _) from I.hok a _ h)
    obtain ⟨as, hr, hn⟩ := DqA.reads I y q rv
    exact ⟨_, Reads.list ho rfl rfl hr, fun z => (List.mem_cons.mp z).elim (fun z => y.ne h (fun _ _ z => by cases z) z.symm) hn⟩
  | _, _, _, .tup h q, r => by
    cases r
    obtain ⟨its, rv, ⟨o, ho, hc, n, hd⟩, _⟩ := I.tuple h
    obtain ⟨as, hr, hn⟩ := DqA.reads I y q rv
    exact ⟨_, Reads.tuple ho hc hd hr, hn⟩
  | _, _, _, .dic (a := a) h q, r => by
    cases r
    obtain ⟨_, ha, vs, rv, o, es, ep, ho, hx, hd, _, hp, _⟩ := (show ObjOk X.prog X.w H s.heap a (.dK _) from I.hok a _ h)
    obtain ⟨as, bs, h1, h2, n1, n2⟩ := DqD.reads I y q rv hp
    refine ⟨_, Reads.dict ho hx.1 hd h1 h2, fun z => ?_⟩
    rcases List.mem_append.mp z with z | z
    · rcases List.mem_cons.mp z with z | z
      · exact y.ne h (fun _ _ z => by cases z) z.symm
      · exact n1 z
    · exact n2 z
theorem DqA.reads (I : Inv X pins σ H s) (y : Sys H) : ∀ {ds : List PyData} {vs : List V} {us : List Value}, DqA X.K H vs ds → Vals vs us → ∃ as, ReadsAll s.heap us ds as ∧ sysModules ∉ as
  | _, _, _, .nil, r => by
    cases r
    exact ⟨_, ReadsAll.nil, by simp⟩
  | _, _, _, .cons a b, r => by
    cases r with
    | cons r1 r2 =>
      obtain ⟨as, h1, n1⟩ := Dq.reads I y a r1
      obtain ⟨bs, h2, n2⟩ := DqA.reads I y b r2
      exact ⟨_, ReadsAll.cons h1 h2, fun z => (List.mem_append.mp z).elim n1 n2⟩
theorem DqD.reads (I : Inv X pins σ H s) (y : Sys H) : ∀ {ds : List (PyData × PyData)} {kvs : List (Key × V)} {vs : List (Key × Value)} {es : List DictEntry}, DqD X.K H kvs ds → KV kvs vs →
    Pairs (mixKind X.prog X.w) es vs → ∃ as bs, ReadsAll s.heap (es.map (·.key)) (ds.map (·.1)) as ∧ ReadsAll s.heap (es.map (·.val)) (ds.map (·.2)) bs ∧ sysModules ∉ as ∧ sysModules ∉ bs
  | _, _, _, _, .nil, r, p => by
    cases r
    cases p
    exact ⟨_, _, ReadsAll.nil, ReadsAll.nil, by simp, by simp⟩
  | _, _, _, _, .cons a b, r, p => by
    cases r with
    | cons r1 r2 =>
      cases p with
      | cons p1 p2 p3 =>
        obtain ⟨e1, e2⟩ := r1
        obtain ⟨as, h1, n1⟩ := Dq.reads I y a (p2 ▸ e2)
        obtain ⟨bs, cs, h2, h3, n2, n3⟩ := DqD.reads I y b r2 p3
        refine ⟨_, _, ReadsAll.cons (key_reads (by rw [← e1] at p1; exact p1)) h2, ReadsAll.cons h1 h3, by simpa using n2, fun z => (List.mem_append.mp z).elim n1 n3⟩
end
end
/-- repr(x), x plain data -/
def rRepr (K : PySem.W.Frag) : List V → Hp → VK → Prop := fun vs H Q => ∃ v d, vs = [v] ∧ Sys H ∧ Dq K H v d ∧ d.showable = true ∧ d.depth ≤ 60 ∧ d.shown.length ≤ sizeLine ∧ Q (.str d.shown) H
theorem call_repr {X : Cx} (hg : X.A.guards = some []) (hu : X.A.units + 64 < cLine) : CallR X (.builtin "repr") (rRepr X.K) := by
  intro pins s σ H xs us Q I r h
  obtain ⟨v, d, rfl, y, hd, hs, hp, hz, q⟩ := h
  obtain ⟨u, rfl, ru⟩ := vals1 r
  obtain ⟨as, hr, hn⟩ := Dq.reads I y hd ru
  cases hd with
  | non =>
    cases ru
    exact PySem.P.repr_of_none ⟨.str _, H, I.tok _, ⟨_, rfl⟩, q⟩
  | bl b =>
    cases ru
    exact PySem.P.repr_of_bool ⟨.str _, H, I.tok _, ⟨_, rfl⟩, q⟩
  | int i =>
    obtain ⟨t, rfl⟩ := ru
    exact PySem.P.repr_of_int (by simpa [PyData.showable] using hs) ⟨.str _, H, I.tok _, ⟨_, rfl⟩, q⟩
  | str x =>
    obtain ⟨t, rfl⟩ := ru
    exact PySem.P.repr_of_str ⟨.str _, H, I.tok _, ⟨_, rfl⟩, q⟩ hz
  | lst _ _ =>
    cases ru
    exact repr_of_reads' hr hs (fun _ => hn) hg (by omega) (fun _ _ e => e) (fun h' u tk k => ⟨.str _, H, I.kept (t' := tk) k, ⟨_, rfl⟩, q⟩) hz
  | tup _ _ =>
    cases ru
    exact repr_of_reads' hr hs (fun _ => hn) hg (by omega) (fun _ _ e => e) (fun h' u tk k => ⟨.str _, H, I.kept (t' := tk) k, ⟨_, rfl⟩, q⟩) hz
  | dic _ _ =>
    cases ru
    exact repr_of_reads' hr hs (fun _ => hn) hg (by omega) (fun _ _ e => e) (fun h' u tk k => ⟨.str _, H, I.kept (t' := tk) k, ⟨_, rfl⟩, q⟩) hz
end Kx

set_option Elab.async false
set_option maxRecDepth 100000
set_option linter.all false
set_option maxHeartbeats 4000000
/-! KitC: exceptions of own classes, held as values: made (positionally, by keyword, bare), asked, read. -/
namespace PySem
namespace KxP
open PySem.W PySem.Calls PyProof.Rows PySem.HandSPX
section
variable {prog : Program} {w : World} {A : Around} {E : Value → Shared → Prop} {R : Result → Shared → Prop} {h : Heap} {g : Array GenState} {d : Drawn} {t : Nat} {os : OsState}
variable {nm q : Str} {C N : Addr} {bs bm bmB : List Value} {hdct : Bool} {sn : List Str} {sub : List Value} {ab : Bool} {col : Option Bool} {dd : Option Addr} {k0 k1 k2 k3 k5 : Option Value} {B newId initId : String}

theorem newKw_check (F : ExcBaseFacts B newId initId bmB) (hT : ∀ X : String, bm.contains (.type X) = bmB.contains (.type X))
    {rest : List Value} {kw : List (Str × Value)} {Q : Unit → Shared → Prop}
    (hC : h.get? C = some (excClassObj nm q C N bs bm hdct sn sub ab col dd k0 k1 k2 k3 k5 newId)) (hq : Q () ⟨h, g, d, t, os⟩) :
    wpAny (model prog w) A (checkBuiltinCall newId ⟨.ref C :: rest, kw⟩) Q E ⟨h, g, d, t, os⟩ := by
  have hc : (Value.ref C :: bm).contains (.type B) = true := by
    rw [List.contains_cons, hT, F.hasB, Bool.or_true]
  have hs := F.noStar
  simp only [checkBuiltinCall, F.newKind, F.newSplit, F.newRow]
  repeat (first
    | refine wpAny_loadPart_at hC ?_
    | (refine wpAny_isSubtype_exc hC ?_; rw [hc])
    | refine wpAny_staticBase_exc hC ?_
    | refine wpAny_madeBy_exc hC ?_
    | simp only [bne_self_eq_false, Bool.false_eq_true, if_false]
    | wp_step)
  exact hq
theorem newKw (F : ExcBaseFacts B newId initId bmB) (hT : ∀ X : String, bm.contains (.type X) = bmB.contains (.type X))
    {rest : List Value} {kw : List (Str × Value)} (hC : h.get? C = some (excClassObj nm q C N bs bm hdct sn sub ab col dd k0 k1 k2 k3 k5 newId))
    (hq : R (.ok (.ret (.ref (h.objs.size + 1)))) ⟨(h.push (kdv_tup rest)).push (excO C h.objs.size), g, d, t, os⟩)
    (hz : rest.length ≤ sizeLine) : codeAny (model prog w) A (.builtin newId ⟨.ref C :: rest, kw⟩) R ⟨h, g, d, t, os⟩ := by
  have he := F.ends
  have hB : (Value.ref C :: bm).contains (.type B) = true := by
    rw [List.contains_cons, hT, F.hasB, Bool.or_true]
  have hA : (Value.ref C :: bm).contains (.type "AttributeError") = false := by
    rw [List.contains_cons, hT, F.noAttr]
    rfl
  have hN : (Value.ref C :: bm).contains (.type "NameError") = false := by
    rw [List.contains_cons, hT, F.noName]
    rfl
  refine codeAny_builtinAt F.entry ?_
  unfold Builtin.«BaseException.__new__»
  refine wpAt_bind ?_
  show wpAt _ _ _ (stack >>= _) _ _ _
  refine wpAt_bind (wpAt_stack fun p below => wpAt_of_wpAny ?_)
  wp_walk
  refine wpAt_of_wpAny ?_
  rw [F.owner]
  repeat (first
    | with_reducible refine wpAny_madeHere_exc F.canon hC ?_
    | with_reducible refine wpAny_loadPart_at hC ?_
    | (with_reducible refine wpAny_isSubtype_exc hC ?_; first | rw [hB] | rw [hA] | rw [hN])
    | wp_step)
  show R _ _
  rw [Heap.size_push]
  exact hq
theorem typeCallKw (F : ExcBaseFacts B newId initId bmB) (hT : ∀ X : String, bm.contains (.type X) = bmB.contains (.type X))
    {rest : List Value} {kw : List (Str × Value)} {fI : Addr} {Q : Fin → Shared → Prop}
    (hC : h.get? C = some (excClassObj nm q C N bs bm hdct sn sub ab col dd k0 k1 k2 k3 k5 newId))
    (hi : Looks (model prog w) h (typeLookup (.ref C) "__init__") (some (.ref fI)))
    (hb : ∀ self, Looks (model prog w) h (bindSpecial (.ref fI) self) (.ref fI, [self])) (hz : rest.length ≤ sizeLine)
    (hq : codeAny (model prog w) A (.call (.ref fI) ⟨.ref (h.objs.size + 1) :: rest, kw⟩)
      (fun r s' => match r with
        | .ok (.ret v) => v = .none ∧ Q (.done (.ret (.ref (h.objs.size + 1)))) s'
        | .ok _ => False
        | .error e => E e s') ⟨(h.push (kdv_tup rest)).push (excO C h.objs.size), g, d, t, os⟩) :
    wpAny (model prog w) A (Builtin.«type.__call__» ⟨.ref C :: rest, kw⟩) Q E ⟨h, g, d, t, os⟩ := by
  repeat (first | with_reducible refine wpAny_loadPart_at hC ?_ | with_reducible refine wpAny_madeBy_exc hC ?_ | wp_step)
  refine codeAny_call_builtin_code (Code.quiet_builtin _ F.quiet) (newKw_check F hT hC ?_)
  refine newKw F hT hC ?_ hz
  show wpAny _ _ _ _ _ _
  have k : ∀ b o, h.get? b = some o → ((h.push (kdv_tup rest)).push (excO C h.objs.size)).get? b = some o :=
    fun b o e => Heap.get?_push_of_some _ (Heap.get?_push_of_some _ e)
  have hC1 := k _ _ hC
  have hget : ((h.push (kdv_tup rest)).push (excO C h.objs.size)).get? (h.objs.size + 1) = some (excO C h.objs.size) := by
    heap_get
  have hcC : (Value.ref C :: bm).contains (.ref C) = true := by
    simp
  have i1 := hi.keeps k
  have b1 := (hb (.ref (h.objs.size + 1))).keeps k
  unfold isInstance
  repeat (first
    | with_reducible refine wpAny_loadPart_at hget ?_
    | (with_reducible refine wpAny_isSubtype_exc hC1 ?_; rw [hcC])
    | wp_step)
  show wpAny _ _ (typeLookup (.ref C) _) _ _ _
  refine i1.at (wpAny_holding (wpAny_bind (b1.at ?_)))
  refine wpAny_bind (wpAny_call (codeAny_mono hq fun r s' z => ?_))
  rcases r with e | (v | _ | _ | _) <;> first | exact z | exact z.elim | skip
  obtain ⟨rfl, z⟩ := z
  first
    | exact wpAny_pure (wpAny_pure z)
    | (wp_walk; exact z)
theorem callKw (F : ExcBaseFacts B newId initId bmB) (hT : ∀ X : String, bm.contains (.type X) = bmB.contains (.type X))
    {rest : List Value} {kw : List (Str × Value)} {fI : Addr}
    (hC : h.get? C = some (excClassObj nm q C N bs bm hdct sn sub ab col dd k0 k1 k2 k3 k5 newId))
    (hi : Looks (model prog w) h (typeLookup (.ref C) "__init__") (some (.ref fI)))
    (hb : ∀ self, Looks (model prog w) h (bindSpecial (.ref fI) self) (.ref fI, [self])) (hz : rest.length ≤ sizeLine)
    (hq : codeAny (model prog w) (A.under (.builtin "type.__call__" ⟨.ref C :: rest, kw⟩))
      (.call (.ref fI) ⟨.ref (h.objs.size + 1) :: rest, kw⟩) (InitBack (h.objs.size + 1) R)
      ⟨(h.push (kdv_tup rest)).push (excO C h.objs.size), g, d, t, os⟩) :
    codeAny (model prog w) A (.call (.ref C) ⟨rest, kw⟩) R ⟨h, g, d, t, os⟩ := by
  have f1 := tc_lookup
  have f2 := tc_bind (.ref C)
  have hTy : (⟨h, g, d, t, os⟩ : Shared).TypeIs (.ref C) "type" := ⟨_, hC, rfl⟩
  refine codeAny_of_tree ?_
  show wpAny _ _ (callAny (.ref C) _) _ _ _
  repeat (any_goals (first | assumption | with_reducible refine wpAny_loadPart_at hC ?_ | wp_step))
  refine ⟨rfl, codeAny_call_builtin_at (Code.quiet_builtin _ (by decide +kernel)) entry_typeCall
    (wpAny_check_type_call_sub hC (typeCallKw F hT hC hi hb hz (codeAny_mono hq fun r s' z => ?_)))⟩
  rcases r with e | (v | _ | _ | _) <;> exact z
end
end KxP
end PySem

set_option Elab.async false
set_option maxRecDepth 100000
set_option linter.all false
set_option maxHeartbeats 4000000
/-! KitD: the hand layer's rules over KitC. -/
namespace Kx
open PySem PySem.Spec PyProof.Rows L2

/-- what the written part says of an own exception class -/
structure ExK (K : PySem.W.Frag) (C : Addr) : Prop where
  o : OexC K C
  x : ExcC K C
/-- at a stands an exception of the class at C, its own dict at d -/
def XAt (H : Hp) (a C : Addr) (d : Option Addr) : Prop :=
  ∃ φ : Heap → Prop, H a = some (.ext φ) ∧ ∀ h, φ h → ∃ ox : Obj, h.get? a = some ox ∧ ox.cls = .ref C ∧ ox.dict = d ∧ PySem.W.notCls ox = true
/-- the fields of such a dict -/
def FAt (H : Hp) (d : Addr) (fs : List (Str × V)) : Prop := H d = some (exd d fs) ∨ H d = some (.xd fs)
theorem xat_exo {H : Hp} {a C : Addr} {d : Option Addr} (h : H a = some (exo a C d)) : XAt H a C d :=
  ⟨_, h, fun _ ⟨_, e⟩ => ⟨_, e, rfl, rfl, rfl⟩⟩
theorem XAt.mono {H H' : Hp} {a C : Addr} {d : Option Addr} (e : Same H H') (h : XAt H a C d) : XAt H' a C d :=
  let ⟨p, q, r⟩ := h
  ⟨p, e _ _ q, r⟩
theorem FAt.mono {H H' : Hp} {d : Addr} {fs : List (Str × V)} (e : Same H H') (h : FAt H d fs) : FAt H' d fs := h.elim (fun h => .inl (e _ _ h)) fun h => .inr (e _ _ h)

section
variable {X : Cx} {pins : List (Addr × Obj)} {σ : L2.St} {H : Hp} {s : Shared} {a C dx : Addr} {fs : List (Str × V)}
theorem xat_inst0 (I : Inv X pins σ H s) (h : XAt H a C none) : ∃ ox, PySem.W.InstAt s.heap a ox C none := by
  obtain ⟨p, q, r⟩ := h
  obtain ⟨ox, e1, e2, e3, e4⟩ := r _ (show ObjOk X.prog X.w H s.heap a (.ext p) from I.hok a _ q).1
  exact ⟨ox, e1, e2, e4, by rw [e3]; trivial⟩
theorem fat_ns (I : Inv X pins σ H s) (h : FAt H dx fs) : ∃ mA, s.heap.Ns1 dx mA ∧ ∀ f, RelO (fs.lookup f) (mA f) := by
  rcases h with h | h
  · exact (show ObjOk X.prog X.w H s.heap dx (exd dx fs) from I.hok dx _ h).1
  · exact (show ObjOk X.prog X.w H s.heap dx (.xd fs) from I.hok dx _ h)
theorem xat_inst (I : Inv X pins σ H s) (h : XAt H a C (some dx)) (hf : FAt H dx fs) :
    ∃ ox od, PySem.W.InstAt s.heap a ox C (some od) ∧ ∃ mA : Str → Option Value, (∀ f, RelO (fs.lookup f) (mA f)) ∧ ∀ f, PySem.W.lookIn f od = some (mA f) := by
  obtain ⟨p, q, r⟩ := h
  obtain ⟨ox, e1, e2, e3, e4⟩ := r _ (show ObjOk X.prog X.w H s.heap a (.ext p) from I.hok a _ q).1
  obtain ⟨mA, hn, hr⟩ := fat_ns I hf
  obtain ⟨od, ho, hl⟩ := lookIn_ns hn
  exact ⟨ox, od, ⟨e1, e2, e4, by rw [e3]; exact ho⟩, mA, hr, hl⟩
end

/-- e.f of such an exception -/
def tXat (K : PySem.W.Frag) (f : Str) (te : TE) : TE := fun σ H Q => te σ H fun x H1 => ∃ (a C dx : Addr) (fs : List (Str × V)) (v : V),
  x = .ref a ∧ XAt H1 a C (some dx) ∧ FAt H1 dx fs ∧ ExcC K C ∧ PySem.W.findIn K (.ref C) f = some none ∧ fs.lookup f = some v ∧ Q v H1
theorem pe_xat {X : Cx} {e : Expr} {te : TE} {pos : Pos} {n : Str} (he : PE X e te) (hb : attributeBase e n X.env (eval e X.env) = eval e X.env := by rfl) :
    PE X (.Attribute e n pos) (tXat X.K n te) := by
  refine ⟨fun pins s σ H Q I h => attr_of hb (thn (he.run pins s σ H _ I h) fun u s1 hh => ?_)⟩
  obtain ⟨x, H1, I1, rx, a, C, dx, fs, v, ex, hx, hf, T, hno, l, q⟩ := hh
  subst ex
  obtain rfl : u = Value.ref a := rx
  obtain ⟨ox, od, J, mA, hr, hl⟩ := xat_inst I1 hx hf
  obtain ⟨u, hu, ru⟩ := RelO.some_of (v := v) (o := mA n) (by rw [← l]; exact hr n)
  exact HandSPX.exc_get I1.kIn J T.hg T.hk T.hs (PySem.W.findObj_own T.hd hno rfl (by rw [hl, hu])) (handed_of ru) ⟨v, H1, I1.tok _, ru, q⟩

/-- isinstance(e, c), one class, e an exception held -/
def rIsX (K : PySem.W.Frag) : List V → Hp → VK → Prop := fun xs H Q => ∃ (a C : Addr) (c : V) (u : Value) (b : Bool),
  xs = [.ref a, c] ∧ (XAt H a C none ∨ ∃ dx fs, XAt H a C (some dx) ∧ FAt H dx fs) ∧ ExcC K C ∧ ClsV c u ∧ PySem.W.kitOne K (.ref C) u = some b ∧ Q (.bl b) H
theorem call_isX {X : Cx} : CallR X (.builtin "isinstance") (rIsX X.K) := by
  intro pins s σ H xs us Q I r h
  obtain ⟨a, C, c, u, b, rfl, hx, T, k, e, q⟩ := h
  obtain ⟨u1, u2, rfl, r1, r2⟩ := vals2 r
  obtain rfl : u1 = Value.ref a := r1
  obtain rfl := k.eq r2
  have hcl : (PySem.W.clsIn X.K C).isSome = true := by
    obtain ⟨cd, hc, _⟩ := PySem.W.any_some T.hd
    rw [hc]
    rfl
  rcases hx with hx | ⟨dx, fs, hx, hf⟩
  · obtain ⟨ox, J⟩ := xat_inst0 I hx
    exact PySem.W.kia_one (PySem.W.kitx_exc hcl T.hg T.hk T.hs T.ha T.hn T.ht T.hm) I.kIn J e (fun z => nomatch z) fun tk => ⟨.bl b, H, I.tok tk, rfl, q⟩
  · obtain ⟨ox, od, J, _⟩ := xat_inst I hx hf
    exact PySem.W.kia_one (PySem.W.kitx_exc hcl T.hg T.hk T.hs T.ha T.hn T.ht T.hm) I.kIn J e (fun z => nomatch z) fun tk => ⟨.bl b, H, I.tok tk, rfl, q⟩

section
variable {X : Cx} {CX : CXT} {k : Nat} {fI C : Addr} {fd : FuncData} {ps ks : List Str} {sp : Sp} {dvs : List V} {ds : List Value} {E : XK} {x : Str} {p pos : Pos} {e : Expr} {es : List Expr} {kws : List Keyword} {t tk : TA}
  {g : List Value → List Value → List Value} {gV : List V → List V → List V}
theorem run_mk {pins : List (Addr × Obj)} {σ : L2.St} {H : Hp} {s : Shared} {Q : VK} {us bs : List Value} {kw : List (Str × Value)} {ys : List V}
    (T : OexC X.K C) (iC : PySem.W.findIn X.K (.ref C) "__init__" = some (some (.ref fI))) (tI : PySem.W.typeIn X.K (.ref fI) = some (.type "function"))
    (F : FnOk X.prog X.w X.K X.mg X.base CX k fI fd ps sp) (hr : Room (k + 1) X.A) (hx : Passes CX X E)
    (hb : ∀ (s : Shared) (self : Value), X.K.In s.heap → BindsTo s fd ⟨self :: us, kw⟩ (ps.zip (self :: bs))) (I : Inv X pins σ H s) (r : Vals ys bs)
    (hus : us.length ≤ sizeLine) (h : ∀ a, H a = none → sp (.ref a :: ys) (upd H a (exo a C none)) (fun v H2 => v = .non ∧ Q (.ref a) H2) E) :
    wpAny (model X.prog X.w) X.A (call (.ref C) us kw) (EP X pins σ Q) X.xe s := by
  obtain ⟨nm, q, N, bs', bm, sn, sub, ab, col, dd, k0, k1, k2, k3, k5, hC, hbm⟩ := T.cls
  obtain ⟨hp, g, dr, tk, os⟩ := s
  have hsz : hp.objs.size ≤ hp.objs.size + 1 := Nat.le_succ _
  have hn : H (hp.objs.size + 1) = none := I.hok.fresh hsz
  have kk : ∀ b o, hp.get? b = some o → ((hp.push (PySem.W.kdv_tup us)).push (PySem.HandSPX.excO C hp.objs.size)).get? b = some o :=
    fun b o e => Heap.get?_push_of_some _ (Heap.get?_push_of_some _ e)
  have hget : ((hp.push (PySem.W.kdv_tup us)).push (PySem.HandSPX.excO C hp.objs.size)).get? (hp.objs.size + 1) = some (PySem.HandSPX.excO C hp.objs.size) := by
    heap_get
  have I2 : Inv X pins σ (upd H (hp.objs.size + 1) (exo (hp.objs.size + 1) C none)) ⟨(hp.push (PySem.W.kdv_tup us)).push (PySem.HandSPX.excO C hp.objs.size), g, dr, tk, os⟩ :=
    I.laid (t' := tk) (a := hp.objs.size + 1) (o := exo (hp.objs.size + 1) C none) kk hsz (exo_ok hget)
  refine wpAny_call (PySem.KxP.callKw PySem.F.excBase_ValueError (fun Y => PySem.HandSPX.refsVE_contains Y bm hbm) (I.kIn _ _ hC) (PySem.W.looks_findIn I.kIn iC)
    (fun self => PySem.W.bind_fn I.kIn self tI) hus (codeAny_mono (F.run _ X.stack _ _ ⟨Value.ref (hp.objs.size + 1) :: us, kw⟩ (Value.ref (hp.objs.size + 1) :: bs) (V.ref (hp.objs.size + 1) :: ys) _ E
      (hr.make C us kw) (I2.env0.make C us kw) (hb _ _ I2.kIn) (.cons rfl r) (h _ hn)) fun r s' hq' => ?_))
  cases r with
  | error e => exact hx pins σ _ _ e s' I2 hq'
  | ok fl =>
    cases fl with
    | ret u =>
      obtain ⟨v, H', I3, rv, ev, q3⟩ := I2.after hq'
      subst ev
      exact ⟨rv, ⟨V.ref (hp.objs.size + 1), H', I3, rfl, q3⟩⟩
    | next => exact False.elim hq'
    | brk => exact False.elim hq'
    | cont => exact False.elim hq'
/-- C(e, ..) as a value -/
def tMkV (C : Addr) (sp : Sp) (dvs : List V) (E : XK) (ta : TA) : TE := fun σ H Q => ta σ H fun vs H1 => vs.length ≤ 1000 ∧
  ∀ a, H1 a = none → sp (.ref a :: (vs ++ dvs)) (upd H1 a (exo a C none)) (fun v H2 => v = .non ∧ Q (.ref a) H2) E
theorem pe_mkV (T : OexC X.K C) (iC : PySem.W.findIn X.K (.ref C) "__init__" = some (some (.ref fI))) (tI : PySem.W.typeIn X.K (.ref fI) = some (.type "function"))
    (F : FnOk X.prog X.w X.K X.mg X.base CX k fI fd ps sp) (hr : Room (k + 1) X.A) (hg : Gl X x) (hm : X.mg x = some (.ref C)) (hb : Binds X.K fd ps ds) (hd : Vals dvs ds) (hx : Passes CX X E)
    (ha : PA X (e :: es) t) (hdb : (x == ("__debug__" : Str)) = false := by decide) (he : starEach (e :: es) X.env = (false, eval e X.env) :: starEach es X.env := by rfl)
    (hpl : (backTo pos (starEach es X.env)).any (·.1) = false := by rfl) : PE X (.Call (.Name x p) (e :: es) [] pos) (tMkV C sp dvs E t) := by
  refine ⟨fun pins s σ H Q I h => wpAny_Call_Name_kw (ld_glob I hg hm (PySem.W.callWith_K (h₀ := X.base) I.ok.mod.kin T.kC
    (thn (ha.run pos pins s σ H _ I h) fun us s1 ⟨vs, H1, I1, r, hz, q⟩ => ⟨I1.kIn, ?_⟩) he hpl) hdb)⟩
  have hus : us.length ≤ sizeLine := by
    rw [← Paired.length r, sizeLine_eq]
    omega
  have r2 := r.append hd
  refine run_mk (us := us) (kw := []) (bs := us ++ ds) T iC tI F hr hx (fun s' self hs => hb s' (self :: us) hs ?_) I1 r2 hus q
  have hl := F.len _ _ _ _ (q s1.heap.objs.size (I1.hok.fresh (Nat.le_refl _)))
  rw [List.length_append, List.length_cons, ← hl, List.length_cons, ← r2.length.symm, List.length_append]
  omega
theorem pe_mkV0 (T : OexC X.K C) (iC : PySem.W.findIn X.K (.ref C) "__init__" = some (some (.ref fI))) (tI : PySem.W.typeIn X.K (.ref fI) = some (.type "function"))
    (F : FnOk X.prog X.w X.K X.mg X.base CX k fI fd ps sp) (hr : Room (k + 1) X.A) (hg : Gl X x) (hm : X.mg x = some (.ref C)) (hb : Binds X.K fd ps ds) (hd : Vals dvs ds) (hx : Passes CX X E)
    (hdb : (x == ("__debug__" : Str)) = false := by decide) : PE X (.Call (.Name x p) [] [] pos) (tMkV C sp dvs E tNil) := by
  refine ⟨fun pins s σ H Q I ⟨_, h⟩ => wpAny_Call_Name_kw (ld_glob I hg hm (PySem.W.callWith_K0 I.kIn T.kC ?_) hdb)⟩
  refine run_mk (us := []) (kw := []) (bs := ds) T iC tI F hr hx (fun s' self hs => hb s' [self] hs ?_) I hd (Nat.zero_le _) h
  have hl := F.len _ _ _ _ (h _ (I.hok.fresh (Nat.le_refl _)))
  have hq := hd.length
  rw [List.length_append, ← hl]
  show 1 + ds.length = ([] ++ dvs).length + 1
  rw [List.nil_append, hq]
  omega
/-- C(k = v): one keyword -/
def tMkK (C : Addr) (sp : Sp) (E : XK) (tk : TA) : TE := fun σ H Q => tk σ H fun zs H1 =>
  ∀ a, H1 a = none → sp (.ref a :: zs) (upd H1 a (exo a C none)) (fun v H2 => v = .non ∧ Q (.ref a) H2) E
theorem pe_mkK (T : OexC X.K C) (iC : PySem.W.findIn X.K (.ref C) "__init__" = some (some (.ref fI))) (tI : PySem.W.typeIn X.K (.ref fI) = some (.type "function"))
    (F : FnOk X.prog X.w X.K X.mg X.base CX k fI fd ps sp) (hr : Room (k + 1) X.A) (hg : Gl X x) (hm : X.mg x = some (.ref C)) (hx : Passes CX X E)
    (hb : ∀ (s : Shared) (self : Value) (ws : List Value), X.K.In s.heap → ws.length = ks.length → BindsTo s fd ⟨[self], ks.zip ws⟩ (ps.zip (self :: ws)))
    (hkw : PK X kws tk) (hps : ps.length = ks.length + 1) (hall : (backToKw pos (keywordEach kws X.env)).all (·.1.isSome) = true := by rfl) (hks : (backToKw pos (keywordEach kws X.env)).filterMap (·.1) = ks := by rfl)
    (hdb : (x == ("__debug__" : Str)) = false := by decide) (hpl : ((backTo pos (starEach [] X.env)).any (·.1) || (backToKw pos (keywordEach kws X.env)).any (·.1.isNone)) = false := by rfl)
    : PE X (.Call (.Name x p) [] kws pos) (tMkK C sp E tk) := by
  refine ⟨fun pins s σ H Q I h => wpAny_Call_Name_kw (ld_glob I hg hm (PySem.W.callWith_KW0 (h₀ := X.base) I.ok.mod.kin T.kC hall
    (thn (hkw.run pos pins s σ H _ I h) fun ws s1 ⟨zs, H1, I1, r, q⟩ => ⟨I1.kIn, ?_⟩) hpl) hdb)⟩
  rw [hks]
  have hl := F.len _ _ _ _ (q _ (I1.hok.fresh (Nat.le_refl _)))
  refine run_mk (us := []) (bs := ws) T iC tI F hr hx (fun s' self hs => hb s' self ws hs ?_) I1 r (Nat.zero_le _) q
  rw [← r.length]
  rw [List.length_cons, hps] at hl
  omega
end
end Kx

set_option Elab.async false
set_option maxRecDepth 100000
set_option linter.all false
set_option maxHeartbeats 4000000
/-! KitE: own exception classes with one field that an __init__ sets from a default None; big powers; evaluation words. -/
namespace Kx
open PySem PySem.Spec PyProof.Rows L2 Evl

theorem op_powB {X : Cx} : OpR X (binaryOp .Pow) (rI (fun i j => 0 ≤ j ∧ (Builtin.Int.intBits i : Int) * j ≤ 2 ^ 27) fun i j => .int (i ^ j.toNat)) :=
  opI fun _ _ _ _ _ _ _ hc q => pow_int hc.1 hc.2 q
theorem same_ex {H H' : Hp} (e : Ex H H') : Same H H' := e
theorem ex_same {H H' : Hp} (e : Same H H') : Ex H H' := e

/-! ### an __init__ that sets one field -/
def spXI (C : Addr) (f : Str) : Sp := fun vs H Q _ => ∃ (a : Addr) (v : V), vs = [.ref a, v] ∧ H a = some (exo a C none) ∧
  ∀ d, H d = none → d ≠ a → Q .non (upd (upd H d (exd d [(f, v)])) a (exo a C (some d)))
section
variable {P : Program} {w : World} {K : PySem.W.Frag} {mg : Str → Option Value} {base : Heap}
theorem ok_XI {C fI : Addr} {fd : FuncData} {qual f : Str} {pa : Arguments} {bd : List Stmt} {sc : Scope} {p1 p2 p3 p4 : Pos}
    (F : FunD K "__init__" qual pa bd sc [V.non] [] fI fd) (S : FnScope ["self", f] ["self", f] sc)
    (hb : bd = [.Assign [.Attribute (.Name "self" p1) f p2] (.Name f p3) p4]) (T : OexC K C) (hno : PySem.W.findIn K (.ref C) f = some none)
    (v0 : Vis sc "self") (v1 : Vis sc f) (n1 : (f == ("__debug__" : Str)) = false) (n2 : (f == ("__classdict__" : Str)) = false)
    (hs : ∀ env : Env, swapsWith (.Name f p3) (some (.Attribute (.Name "self" p1) f p2)) p4.line env = pure false) :
    FnOk P w K mg base CX0 1 fI fd ["self", f] (spXI C f) := by
  refine F.ok (CX := CX0) S (fun vs H Q E h => ?_) (fun cdv A outer s H vs Q E hr h => ?_)
  · obtain ⟨a, v, rfl, _⟩ := h
    rfl
  · obtain ⟨a, v, rfl, ha, k⟩ := h
    subst hb
    refine ⟨_, PSs.nox (pss_one (ps_ost (pe_var (i := 0) rfl v0) (pe_var (i := 1) rfl v1 n1 n2) (hs _))), ?_⟩
    exact ⟨_, rfl, _, rfl, a, C, rfl, T, hno, .inl ⟨ha, fun d hd hne => k d hd hne⟩⟩
end

/-- an own exception class of the text whose __init__ sets the field f -/
structure XCls (P : Program) (w : World) (K : PySem.W.Frag) (mg : Str → Option Value) (x f : Str) (C fI : Addr) (fd : FuncData) : Prop where
  mgC : mg x = some (.ref C)
  o : OexC K C
  e : ExcC K C
  no : PySem.W.findIn K (.ref C) f = some none
  iC : PySem.W.findIn K (.ref C) "__init__" = some (some (.ref fI))
  tI : PySem.W.typeIn K (.ref fI) = some (.type "function")
  b2 : Binds K fd ["self", f] []
  b1 : ∃ ds, Vals [V.non] ds ∧ Binds K fd ["self", f] ds
  bk : ∀ (s : Shared) (self : Value) (ws : List Value), K.In s.heap → ws.length = 1 → BindsTo s fd ⟨[self], ([f] : List Str).zip ws⟩ ((["self", f] : List Str).zip (self :: ws))
  fn : ∀ base : Heap, FnOk P w K mg base CX0 1 fI fd ["self", f] (spXI C f)

/-- e is an exception of the class at C with the field f holding v -/
def XV (H : Hp) (e C : Addr) (f : Str) (v : V) : Prop := ∃ d, H e = some (exo e C (some d)) ∧ H d = some (exd d [(f, v)])
theorem XV.mono {H H' : Hp} {e C : Addr} {f : Str} {v : V} (x : Same H H') (h : XV H e C f v) : XV H' e C f v :=
  let ⟨d, a, b⟩ := h
  ⟨d, x _ _ a, x _ _ b⟩
theorem XV.xat {H : Hp} {e C : Addr} {f : Str} {v : V} (h : XV H e C f v) : ∃ dx fs, XAt H e C (some dx) ∧ FAt H dx fs :=
  let ⟨d, a, b⟩ := h
  ⟨d, _, xat_exo a, .inl b⟩
/-- a new exception with its field: what was there stays -/
theorem xv_made {H : Hp} {C a d : Addr} {f : Str} {v : V} (ha : H a = none) (hd : (upd H a (exo a C none)) d = none) (hne : d ≠ a) :
    Same H (upd (upd (upd H a (exo a C none)) d (exd d [(f, v)])) a (exo a C (some d))) ∧ XV (upd (upd (upd H a (exo a C none)) d (exd d [(f, v)])) a (exo a C (some d))) a C f v := by
  refine ⟨fun b o e => ?_, d, upd_same, by rw [upd_ne hne]; exact upd_same⟩
  have h1 : b ≠ a := ne_of_none e ha
  have h2 : b ≠ d := fun z => by
    rw [← z, upd_ne h1, e] at hd
    cases hd
  rw [upd_ne h1, upd_ne h2, upd_ne h1]
  exact e

section
variable {X : Cx} {fI C : Addr} {fd : FuncData} {x f : Str} {p pos : Pos}
/-- C(e), C(), C(f = e) of such a class, telling only that it holds the field -/
def tXV (C : Addr) (f : Str) (te : TE) : TE := fun σ H Q => te σ H fun v H1 => ∀ a H2, H1 a = none → Same H1 H2 → XV H2 a C f v → Q (.ref a) H2
theorem PE.imp {e : Expr} {t t' : TE} (h : PE X e t) (k : ∀ σ H Q, t' σ H Q → t σ H Q) : PE X e t' := ⟨fun pins s σ H Q I q => h.run pins s σ H Q I (k σ H Q q)⟩
theorem pe_xv1 {e : Expr} {te : TE} (T : XCls X.prog X.w X.K X.mg x f C fI fd) (hr : Room 2 X.A) (hg : Gl X x) (he : PE X e te)
    (hm : ∀ σ H (Q Q' : VK), (∀ v H1, Q v H1 → Q' v H1) → te σ H Q → te σ H Q')
    (hdb : (x == ("__debug__" : Str)) = false := by decide) (hs : starEach [e] X.env = (false, eval e X.env) :: starEach [] X.env := by rfl)
    (hpl : (backTo pos (starEach [] X.env)).any (·.1) = false := by rfl) : PE X (.Call (.Name x p) [e] [] pos) (tXV C f te) := by
  refine PE.imp (pe_mkV T.o T.iC T.tI (T.fn X.base) hr hg T.mgC T.b2 .nil pass0 (pa_cons he pa_nil hs) hdb hs hpl) fun σ H Q q => ?_
  refine hm σ H _ _ (fun v H1 k => ?_) q
  refine ⟨by show 1 ≤ 1000; decide, fun a ha => ⟨a, v, rfl, upd_same, fun d hd hne => ⟨rfl, ?_⟩⟩⟩
  obtain ⟨h1, h2⟩ := xv_made (f := f) (v := v) ha hd hne
  exact k a _ ha h1 h2
theorem pe_xv0 (T : XCls X.prog X.w X.K X.mg x f C fI fd) (hr : Room 2 X.A) (hg : Gl X x) (hdb : (x == ("__debug__" : Str)) = false := by decide) :
    PE X (.Call (.Name x p) [] [] pos) (tXV C f (tC .non)) := by
  obtain ⟨ds, hd, hb⟩ := T.b1
  refine PE.imp (pe_mkV0 T.o T.iC T.tI (T.fn X.base) hr hg T.mgC hb hd pass0 hdb) fun σ H Q q => ?_
  refine ⟨Nat.zero_le _, fun a ha => ⟨a, .non, rfl, upd_same, fun d hd hne => ⟨rfl, ?_⟩⟩⟩
  obtain ⟨h1, h2⟩ := xv_made (f := f) (v := .non) ha hd hne
  exact q a _ ha h1 h2
theorem pe_xvk {e : Expr} {te : TE} {kp : Pos} (T : XCls X.prog X.w X.K X.mg x f C fI fd) (hr : Room 2 X.A) (hg : Gl X x) (he : PE X e te)
    (hm : ∀ σ H (Q Q' : VK), (∀ v H1, Q v H1 → Q' v H1) → te σ H Q → te σ H Q')
    (hall : (backToKw pos (keywordEach [⟨some f, e, kp⟩] X.env)).all (·.1.isSome) = true := by rfl) (hks : (backToKw pos (keywordEach [⟨some f, e, kp⟩] X.env)).filterMap (·.1) = [f] := by rfl)
    (hdb : (x == ("__debug__" : Str)) = false := by decide) (hpl : ((backTo pos (starEach [] X.env)).any (·.1) || (backToKw pos (keywordEach [⟨some f, e, kp⟩] X.env)).any (·.1.isNone)) = false := by rfl) :
    PE X (.Call (.Name x p) [] [⟨some f, e, kp⟩] pos) (tXV C f te) := by
  refine PE.imp (pe_mkK (ks := [f]) T.o T.iC T.tI (T.fn X.base) hr hg T.mgC pass0 T.bk (pk_cons he pk_nil) rfl hall hks hdb hpl) fun σ H Q q => ?_
  refine hm σ H _ _ (fun v H1 k => ?_) q
  refine fun a ha => ⟨a, v, rfl, upd_same, fun d hd hne => ⟨rfl, ?_⟩⟩
  obtain ⟨h1, h2⟩ := xv_made (f := f) (v := v) ha hd hne
  exact k a _ ha h1 h2
/-- C() of an own exception class without own __init__ -/
theorem pe_exc0 {bmB : List Value} {B newId initId : String} (F : ExcBaseFacts B newId initId bmB) (q : PySem.W.excIn X.K C bmB newId = true) (gC : X.mg x = some (.ref C)) (kC : PySem.W.keepIn X.K (.ref C) = true) (hg : Gl X x)
    (hdb : (x == ("__debug__" : Str)) = false := by decide) : PE X (.Call (.Name x p) [] [] pos) (fun σ H Q => ∀ a, H a = none → Q (.ref a) (upd H a (ExO (.ref C) a))) := by
  refine ⟨fun pins s σ H Q I h => wpAny_Call_Name_kw (ld_glob I hg gC (PySem.W.callWith_K0 I.kIn kC ?_) hdb)⟩
  show wpAny _ _ (call (.ref C) []) _ _ _
  obtain ⟨bm, N, nm, qn, bs, hdct, sn, sub, ab, col, dd, k0, k1, k2, k3, k5, mN, hC, hN, hni, T⟩ := exc_obj I.kIn q
  refine wpAny_call_exc_subT F T hC hN hni (fun h' a hm => ?_) (Nat.zero_le _)
  have hn : H a = none := I.hok.gone hm.new
  obtain ⟨t, ht, _, _⟩ := hm.there
  exact ⟨.ref a, upd H a (ExO (.ref C) a), I.laidN hm.keeps hm.new hn (exO_ok ht ⟨rfl, rfl⟩ rfl rfl rfl (show 4 < 6 by decide)), rfl, h a hn⟩
end
theorem xat_ExO {H : Hp} {a C : Addr} (h : H a = some (ExO (.ref C) a)) : XAt H a C none :=
  ⟨_, h, fun _ ⟨oe, vs, e, z, d, _⟩ => ⟨oe, e, z.1, z.2, by unfold PySem.W.notCls; rw [d]⟩⟩
end Kx

set_option Elab.async false
set_option maxRecDepth 100000
set_option linter.all false
set_option maxHeartbeats 4000000
/-! KitF: how long data shows; evaluation to data (a known part G of the heap, that only grows). -/
namespace Kx
open PySem PySem.Spec PyProof.Rows L2 Evl

/-! ### how long data shows -/
mutual
def bnd : PyData → Nat
  | .none => 4
  | .bool _ => 5
  | .int i => i.natAbs.log2 + 2
  | .str x => (reprText x).length
  | .list xs => 2 + bndA xs
  | .tuple xs => 3 + bndA xs
  | .dict kvs => 2 + bndD kvs
def bndA : List PyData → Nat
  | [] => 0
  | x :: xs => bnd x + 2 + bndA xs
def bndD : List (PyData × PyData) → Nat
  | [] => 0
  | (k, v) :: r => bnd k + bnd v + 4 + bndD r
end
def lens (ts : List Str) : Nat := (ts.map fun t => t.length + 2).sum
theorem textFrom_le : ∀ (ts : List Str) (k : Nat) (acc : Str), (textFrom k acc ts).length ≤ acc.length + lens ts
  | [], k, acc => Nat.le_add_right _ _
  | t :: r, k, acc => by
    have h := textFrom_le r (k + 1) (acc ++ (if k > 0 then ", " else "" : String) ++ t)
    have e : (acc ++ (Str.ofString (if k > 0 then ", " else "")) ++ t).length ≤ acc.length + 2 + t.length := by
      rw [strLen_append, strLen_append]
      have h2 : (Str.ofString (if k > 0 then ", " else "")).length ≤ 2 := by
        split <;> decide
      omega
    have e2 : lens (t :: r) = t.length + 2 + lens r := by
      unfold lens
      rw [List.map_cons, List.sum_cons]
    rw [e2]
    refine Nat.le_trans h ?_
    have e3 : (acc ++ (if k > 0 then ", " else "" : String) ++ t).length ≤ acc.length + 2 + t.length := e
    omega
theorem listText_le (ts : List Str) : (listText ts).length ≤ 2 + lens ts := by
  unfold listText
  rw [strLen_append]
  have h := textFrom_le ts 0 "["
  have e1 : Str.length ("[" : Str) = 1 := by decide
  have e2 : Str.length ("]" : Str) = 1 := by decide
  omega
theorem piled_eq : ∀ ts : List Str, piled ts = lens ts
  | [] => rfl
  | t :: r => by
    have e := piled_eq r
    unfold lens at e ⊢
    rw [List.map_cons, List.sum_cons, ← e]
    simp [piled]
theorem joined_le (ts : List Str) : (Str.join ", " ts).length ≤ lens ts := by
  by_cases h : ts = []
  · subst h
    decide
  · have e := join_length_add ts h
    rw [piled_eq] at e
    omega
theorem tupleText_le (ts : List Str) : (tupleText ts).length ≤ 3 + lens ts := by
  unfold tupleText
  rw [strLen_append, strLen_append]
  have h := joined_le ts
  have e1 : Str.length ("(" : Str) = 1 := by decide
  have e2 : (Str.ofString (if ts.length == 1 then ",)" else ")")).length ≤ 2 := by
    split <;> decide
  have e3 : Str.length ((if ts.length == 1 then ",)" else ")" : String) : Str) ≤ 2 := e2
  omega
theorem dictText_le (ts : List Str) : (dictText ts).length ≤ 2 + lens ts := by
  unfold dictText
  rw [strLen_append, strLen_append]
  have h := joined_le ts
  have e1 : Str.length ("{" : Str) = 1 := by decide
  have e2 : Str.length ("}" : Str) = 1 := by decide
  omega
mutual
theorem shown_le : ∀ d : PyData, d.shown.length ≤ bnd d
  | .none => by
    simp only [PyData.shown, bnd]
    decide
  | .bool b => by
    simp only [PyData.shown, bnd]
    cases b <;> decide
  | .int i => by
    simp only [PyData.shown, bnd]
    have h := int_text_length_le (a := i) (k := i.natAbs.log2 + 1) (Nat.succ_pos _) (Nat.lt_succ_self _)
    have e : Str.length (Str.ofString (toString i)) = (toString i).length := PySem.ofString_length _
    show Str.length (Str.ofString (toString i)) ≤ _
    omega
  | .str x => by
    simp only [PyData.shown, bnd]
    exact Nat.le_refl _
  | .list xs => by
    simp only [PyData.shown, bnd]
    exact Nat.le_trans (listText_le _) (Nat.add_le_add_left (shownAll_le xs) _)
  | .tuple xs => by
    simp only [PyData.shown, bnd]
    exact Nat.le_trans (tupleText_le _) (Nat.add_le_add_left (shownAll_le xs) _)
  | .dict kvs => by
    simp only [PyData.shown, bnd]
    exact Nat.le_trans (dictText_le _) (Nat.add_le_add_left (shownKv_le kvs) _)
theorem shownAll_le : ∀ xs : List PyData, lens (PyData.shownAll xs) ≤ bndA xs
  | [] => by
    simp only [PyData.shownAll, bndA]
    decide
  | x :: xs => by
    have h1 := shown_le x
    have h2 := shownAll_le xs
    simp only [PyData.shownAll, bndA]
    have e : lens (PyData.shown x :: PyData.shownAll xs) = (PyData.shown x).length + 2 + lens (PyData.shownAll xs) := by
      unfold lens
      rw [List.map_cons, List.sum_cons]
    omega
theorem shownKv_le : ∀ xs : List (PyData × PyData), lens (PyData.shownKv xs) ≤ bndD xs
  | [] => by
    simp only [PyData.shownKv, bndD]
    decide
  | (k, v) :: xs => by
    have h1 := shown_le k
    have h3 := shown_le v
    have h2 := shownKv_le xs
    simp only [PyData.shownKv, bndD]
    have e : lens ((PyData.shown k ++ ": " ++ PyData.shown v) :: PyData.shownKv xs) = (PyData.shown k).length + 2 + (PyData.shown v).length + 2 + lens (PyData.shownKv xs) := by
      unfold lens
      rw [List.map_cons, List.sum_cons, strLen_append, strLen_append]
      have e1 : Str.length (": " : Str) = 2 := by decide
      rw [e1]
      try omega
    omega
end

/-! ### the known part of the heap grows -/
structure Ext (G H1 G2 H2 : Hp) : Prop where
  hh : Ex H1 H2
  gg : Ex G G2
  gh : Ex G2 H2
  ag : ∀ a o, H1 a = some o → G2 a = G a
theorem Ext.refl {G H : Hp} (e : Ex G H) : Ext G H G H := ⟨Ex.refl H, Ex.refl G, e, fun _ _ _ => rfl⟩
theorem Ext.trans {G H1 G2 H2 G3 H3 : Hp} (a : Ext G H1 G2 H2) (b : Ext G2 H2 G3 H3) : Ext G H1 G3 H3 :=
  ⟨a.hh.trans b.hh, a.gg.trans b.gg, b.gh, fun c o h => (b.ag c o (a.hh c o h)).trans (a.ag c o h)⟩
/-- a new object, known from now on -/
theorem Ext.new {G H H2 : Hp} {p : Addr} {o : HO} (e : Ex G H) (hp : H p = none) (hh : Ex H H2) (h : H2 p = some o) : Ext G H (upd G p o) H2 := by
  refine ⟨hh, Ex.new (fresh_back e hp), fun a u q => ?_, fun a u q => upd_ne (ne_of_none q hp)⟩
  by_cases z : a = p
  · rw [z, upd_same] at q
    rw [z, h]
    exact q
  · rw [upd_ne z] at q
    exact hh a u (e a u q)
/-- .. where the known part had grown before -/
theorem Ext.more {G H1 G2 H2 H3 : Hp} {p : Addr} {o : HO} (x : Ext G H1 G2 H2) (hp : H2 p = none) (hh : Ex H2 H3) (h : H3 p = some o) : Ext G H1 (upd G2 p o) H3 := x.trans (Ext.new x.gh hp hh h)

/-- te gives a value of the data d, G being known -/
def EvD (K : PySem.W.Frag) (te : TE) (σ : L2.St) (G : Hp) (d : PyData) : Prop := ∀ H1, Ex G H1 → ∀ Q : VK, (∀ v G2 H2, Ext G H1 G2 H2 → Dq K G2 v d → Q v H2) → te σ H1 Q
def EvDA (K : PySem.W.Frag) (ta : TA) (σ : L2.St) (G : Hp) (ds : List PyData) : Prop := ∀ H1, Ex G H1 → ∀ Q : List V → Hp → Prop, (∀ vs G2 H2, Ext G H1 G2 H2 → DqA K G2 vs ds → Q vs H2) → ta σ H1 Q
section
variable {K : PySem.W.Frag} {σ : L2.St} {G G' : Hp} {te ta tb : TE} {d : PyData}
theorem EvD.mono (e : Ex G G') (h : EvD K te σ G d) : EvD K te σ G' d := fun H1 a Q q => h H1 (e.trans a) Q fun v G2 H2 x hd => by
  let G3 : Hp := fun b => match G' b with
    | some o => some o
    | none => G2 b
  have e3 : Ex G2 G3 := fun b o hb => by
    show (match G' b with | some o => some o | none => G2 b) = some o
    cases z : G' b with
    | none => exact hb
    | some o' =>
      have h1 := x.hh b o' (a b o' z)
      have h2 := x.gh b o hb
      rw [h1] at h2
      exact h2
  refine q v G3 H2 ⟨x.hh, fun b o hb => ?_, fun b o hb => ?_, fun b o hb => ?_⟩ (hd.mono (same_ex e3))
  · show (match G' b with | some o => some o | none => G2 b) = some o
    rw [hb]
  · have hb' : (match G' b with | some o => some o | none => G2 b) = some o := hb
    cases z : G' b with
    | none =>
      rw [z] at hb'
      exact x.gh b o hb'
    | some o' =>
      rw [z] at hb'
      rw [← hb']
      exact x.hh b o' (a b o' z)
  · show (match G' b with | some o => some o | none => G2 b) = G' b
    cases z : G' b with
    | none =>
      show G2 b = none
      rw [x.ag b o hb]
      cases z2 : G b with
      | none => rfl
      | some u =>
        rw [e b u z2] at z
        cases z
    | some o' => rfl
theorem ed_ev {v : V} (h : Ev te σ G v) (hd : Dq K G v d) : EvD K te σ G d := fun H1 e Q q => h H1 e Q fun H2 e2 => q v G H2 ⟨e2, Ex.refl G, e.trans e2, fun _ _ _ => rfl⟩ hd
theorem ed_evL {xs : List V} {ds : List PyData} (h : EvL te σ G xs) (hd : DqA K G xs ds) : EvD K te σ G (.list ds) := fun H1 e Q q => h H1 e Q fun p H2 hp e2 hx =>
  q _ _ H2 (Ext.new e hp e2 hx) (.lst upd_same (hd.mono (same_ex (Ex.new (fresh_back e hp)))))
theorem eda_nil : EvDA K tNil σ G [] := fun H1 e Q q => q [] G H1 (Ext.refl e) .nil
theorem eda_cons {tr : TA} {ds : List PyData} (h : EvD K te σ G d) (hr : ∀ G1, Ex G G1 → EvDA K tr σ G1 ds) : EvDA K (tCons te tr) σ G (d :: ds) := fun H1 e Q q =>
  h H1 e _ fun v G2 H2 x hd => hr G2 x.gg H2 x.gh _ fun vs G3 H3 y hds => q _ G3 H3 (x.trans y) (.cons (hd.mono (same_ex y.gg)) hds)
theorem dqa_len {H : Hp} : ∀ {vs : List V} {ds : List PyData}, DqA K H vs ds → vs.length = ds.length
  | _, _, .nil => rfl
  | _, _, .cons _ b => congrArg Nat.succ (dqa_len b)
theorem ed_lst {ta : TA} {ds : List PyData} (h : EvDA K ta σ G ds) (hl : ds.length ≤ 100000) : EvD K (tLst ta) σ G (.list ds) := fun H1 e Q q =>
  h H1 e _ fun vs G2 H2 x hd => ⟨sz_of (by rw [dqa_len hd]; exact hl), fun p hp => q _ _ _ (x.more hp (Ex.new hp) upd_same) (.lst upd_same (hd.mono (same_ex (Ex.new (fresh_back x.gh hp)))))⟩
theorem ed_tup {ta : TA} {ds : List PyData} (h : EvDA K ta σ G ds) (hl : ds.length ≤ 100000) : EvD K (tTup ta) σ G (.tuple ds) := fun H1 e Q q =>
  h H1 e _ fun vs G2 H2 x hd => ⟨sz_of (by rw [dqa_len hd]; exact hl), fun p hp => q _ _ _ (x.more hp (Ex.new hp) upd_same) (.tup (.inl (.inl upd_same)) (hd.mono (same_ex (Ex.new (fresh_back x.gh hp)))))⟩

/-! ### comprehensions of data -/
def gvn (n : Nat) (f : Nat → Bool) (ds : Nat → PyData) : List PyData := ((List.range n).filter f).map ds
theorem gvn_yes {n : Nat} {f : Nat → Bool} {ds : Nat → PyData} (h : f n = true) : gvn (n + 1) f ds = gvn n f ds ++ [ds n] := by
  unfold gvn
  rw [List.range_succ, List.filter_append, List.map_append, List.filter_cons, if_pos h] <;> rfl
theorem gvn_no {n : Nat} {f : Nat → Bool} {ds : Nat → PyData} (h : f n = false) : gvn (n + 1) f ds = gvn n f ds := by
  unfold gvn
  rw [List.range_succ, List.filter_append, List.map_append, List.filter_cons, if_neg (by rw [h]; decide)]
  exact List.append_nil _
theorem gvn_len (n : Nat) (f : Nat → Bool) (ds : Nat → PyData) : (gvn n f ds).length ≤ n := by
  unfold gvn
  rw [List.length_map]
  have h := List.length_filter_le f (List.range n)
  rw [List.length_range] at h
  exact h
theorem dqa_app {H : Hp} {v : V} : ∀ {vs : List V} {ds : List PyData}, DqA K H vs ds → Dq K H v d → DqA K H (vs ++ [v]) (ds ++ [d])
  | _, _, .nil, h => .cons h .nil
  | _, _, .cons a b, h => .cons a (dqa_app b h)
/-- the word between two turns: Dl grows, all it holds is known without it -/
def Cd (K : PySem.W.Frag) (G H1 : Hp) (f : Nat → Bool) (ds : Nat → PyData) (Dl : Addr) (i : Nat) (H' : Hp) : Prop :=
  ∃ Gi vs, Ext G H1 Gi H' ∧ Gi Dl = none ∧ H' Dl = some (.lst vs) ∧ DqA K Gi vs (gvn i f ds)
theorem cd_turn {G H1 H' : Hp} {f : Nat → Bool} {ds : Nat → PyData} {Dl : Addr} {i : Nat} {σ2 : L2.St} {t : TT} (hD : H1 Dl = none) (p : Cd K G H1 f ds Dl i H') (hi : i < 50000)
    (ht : ∀ G1, Ex G G1 → EvT t σ2 G1 (f i)) (he : ∀ G1, Ex G G1 → f i = true → EvD K te σ2 G1 (ds i)) :
    t σ2 H' fun b H3 => if b = true then te σ2 H3 fun y H4 => ∃ acc, H4 Dl = some (.lst acc) ∧ acc.length < sizeLine ∧ Cd K G H1 f ds Dl (i + 1) (upd H4 Dl (.lst (acc ++ [y]))) else Cd K G H1 f ds Dl (i + 1) H3 := by
  obtain ⟨Gi, vs, x, g0, hv, hd⟩ := p
  refine ht Gi x.gg H' x.gh _ fun H3 e3 => ?_
  cases hf : f i with
  | true =>
    show te σ2 H3 _
    refine he Gi x.gg hf H3 (x.gh.trans e3) _ fun y G2 H4 z hy => ?_
    have e4 : H4 Dl = some (.lst vs) := z.hh _ _ (e3 _ _ hv)
    have g2 : G2 Dl = none := (z.ag _ _ (e3 _ _ hv)).trans g0
    refine ⟨vs, e4, sz_lt (by have h1 := dqa_len hd; have h2 := gvn_len i f ds; omega), G2, vs ++ [y], ⟨?_, x.gg.trans z.gg, ?_, ?_⟩, g2, upd_same, ?_⟩
    · exact Ex.mut ((x.hh.trans e3).trans z.hh) hD
    · exact Ex.mut z.gh g2
    · intro a o ha
      exact (z.ag a o (e3 _ _ (x.hh a o ha))).trans (x.ag a o ha)
    · rw [gvn_yes hf]
      exact dqa_app (hd.mono (same_ex z.gg)) hy
  | false =>
    show Cd K G H1 f ds Dl (i + 1) H3
    refine ⟨Gi, vs, ⟨x.hh.trans e3, x.gg, x.gh.trans e3, x.ag⟩, g0, e3 _ _ hv, ?_⟩
    rw [gvn_no hf]
    exact hd
theorem cd_end {G H1 H' : Hp} {f : Nat → Bool} {ds : Nat → PyData} {Dl : Addr} {n : Nat} (hD : H1 Dl = none) (p : Cd K G H1 f ds Dl n H') : ∃ G2, Ext G H1 G2 H' ∧ Dq K G2 (.ref Dl) (.list (gvn n f ds)) := by
  obtain ⟨Gi, vs, x, g0, hv, hd⟩ := p
  refine ⟨upd Gi Dl (.lst vs), ⟨x.hh, x.gg.trans (Ex.new g0), fun a o h => ?_, fun a o h => ?_⟩, .lst upd_same (hd.mono (same_ex (Ex.new g0)))⟩
  · by_cases z : a = Dl
    · rw [z, upd_same] at h
      rw [z, hv]
      exact h
    · rw [upd_ne z] at h
      exact x.gh a o h
  · rw [upd_ne (ne_of_none h hD)]
    exact x.ag a o h
theorem cd_start {G H1 : Hp} {f : Nat → Bool} {ds : Nat → PyData} {Dl : Addr} (e : Ex G H1) (hD : H1 Dl = none) : Cd K G H1 f ds Dl 0 (upd H1 Dl (.lst [])) :=
  ⟨G, [], ⟨Ex.new hD, Ex.refl G, e.trans (Ex.new hD), fun _ _ _ => rfl⟩, fresh_back e hD, upd_same, .nil⟩
variable {t : TT}
theorem ed_lcL {a : Addr} {xs : List V} {tl : TE} {j : Nat} {ws : List Nat} (f : Nat → Bool) (ds : Nat → PyData) (h : Ev tl σ G (.ref a)) (hx : SqL K G a xs) (hz : xs.length ≤ 40000) (hw : ∀ x, wipe ((wipe σ ws).set j (some x)) ws = wipe σ ws)
    (ht : ∀ (i : Nat) (x : V) G1, Ex G G1 → xs[i]? = some x → EvT t ((wipe σ ws).set j (some x)) G1 (f i)) (he : ∀ (i : Nat) (x : V) G1, Ex G G1 → xs[i]? = some x → f i = true → EvD K te ((wipe σ ws).set j (some x)) G1 (ds i)) :
    EvD K (tLc (iList K tl) (gName j) t te ws) σ G (.list (gvn xs.length f ds)) := fun H0 e Q q => h H0 e _ fun H1 e1 => ⟨a, rfl, ⟨xs, ex_l (e.trans e1) hx⟩, fun Dl hD =>
  lc_list (xs := xs) (Cd K G H1 f ds Dl) (cd_start (e.trans e1) hD) (fun i H' _ p => by obtain ⟨Gi, vs, x, _⟩ := p; exact ex_l (x.gg.trans x.gh) hx)
    (fun i x H' hi p => ⟨hw x, cd_turn hD p (by have := (List.getElem?_eq_some_iff.mp hi).1; omega) (fun G1 g1 => ht i x G1 g1 hi) (fun G1 g1 hf => he i x G1 g1 hi hf)⟩)
    (fun H' p => by
      obtain ⟨G2, x, hd⟩ := cd_end hD p
      exact q _ G2 H' ⟨e1.trans x.hh, x.gg, x.gh, fun b o hb => x.ag b o (e1 b o hb)⟩ hd)⟩
theorem ed_lcR {ta : TA} {j : Nat} {ws : List Nat} {n : Int} (f : Nat → Bool) (ds : Nat → PyData) (h : EvA ta σ G [.int n]) (hn : 0 ≤ n ∧ n ≤ 40000) (hw : ∀ x, wipe ((wipe σ ws).set j (some x)) ws = wipe σ ws)
    (ht : ∀ (i : Nat) G1, Ex G G1 → (i : Int) < n → EvT t ((wipe σ ws).set j (some (.int (i : Int)))) G1 (f i)) (he : ∀ (i : Nat) G1, Ex G G1 → (i : Int) < n → f i = true → EvD K te ((wipe σ ws).set j (some (.int (i : Int)))) G1 (ds i)) :
    EvD K (tLc (iRng1 ta) (gName j) t te ws) σ G (.list (gvn n.toNat f ds)) := fun H0 e Q q => h H0 e _ fun H1 e1 => ⟨n, rfl, by omega, by omega, fun Dl hD =>
  lc_range (lo := 0) (n := n.toNat) (Cd K G H1 f ds Dl) (cd_start (e.trans e1) hD) (fun i H' hi p => by
      have e0 : (0 : Int) + (i : Int) = (i : Int) := Int.zero_add _
      show wipe ((wipe σ ws).set j (some (.int ((0 : Int) + (i : Int))))) ws = wipe σ ws ∧ t ((wipe σ ws).set j (some (.int ((0 : Int) + (i : Int))))) H' _
      rw [e0]
      exact ⟨hw _, cd_turn hD p (by omega) (fun G1 g1 => ht i G1 g1 (by omega)) (fun G1 g1 hf => he i G1 g1 (by omega) hf)⟩)
    (fun H' p => by
      obtain ⟨G2, x, hd⟩ := cd_end hD p
      exact q _ G2 H' ⟨e1.trans x.hh, x.gg, x.gh, fun b o hb => x.ag b o (e1 b o hb)⟩ hd)⟩
theorem et_yes {H : Hp} : EvT tYes σ H true := fun H1 _ _ q => q H1 (Ex.refl H1)
theorem el_cat {H : Hp} {a : Addr} {xs ys : List V} (ha : Ev ta σ H (.ref a)) (h : H a = some (.lst xs)) (hb : EvL tb σ H ys) (hl : xs.length + ys.length ≤ 100000) : EvL (tOp rCat ta tb) σ H (xs ++ ys) := fun H1 e Q q =>
  ha H1 e _ fun H2 e2 => hb H2 (e.trans e2) _ fun p H3 hp e3 h3 => ⟨a, p, xs, ys, rfl, rfl, e3 _ _ (e2 _ _ (e _ _ h)), h3, sz_of hl,
    fun l hl' => q l _ (fresh_back (e2.trans e3) hl') ((e2.trans e3).trans (Ex.new hl')) upd_same⟩
theorem el_catLL {H : Hp} {xs ys : List V} (ha : EvL ta σ H xs) (hb : ∀ H1, Ex H H1 → EvL tb σ H1 ys) (hl : xs.length + ys.length ≤ 100000) : EvL (tOp rCat ta tb) σ H (xs ++ ys) := fun H1 e Q q =>
  ha H1 e _ fun p H2 hp e2 h2 => hb H2 (e.trans e2) H2 (Ex.refl H2) _ fun p' H3 hp' e3 h3 => ⟨p, p', xs, ys, rfl, rfl, e3 _ _ h2, h3, sz_of hl,
    fun l hl' => q l _ (fresh_back (e2.trans e3) hl') ((e2.trans e3).trans (Ex.new hl')) upd_same⟩
/-- two data compared, no dicts in them -/
theorem dp_of {H : Hp} : ∀ {d : PyData} {v : V}, Dq K H v d → d.hasDict = false → Dp K H v d := by
  intro d v h
  exact Dq.rec (motive_1 := fun v d _ => d.hasDict = false → Dp K H v d) (motive_2 := fun vs ds _ => PyData.hasDictAll ds = false → DpAll K H vs ds) (motive_3 := fun _ _ _ => True)
    (fun _ => .non) (fun b _ => .bl b) (fun i _ => .int i) (fun x _ => .str x)
    (fun h1 _ ih q => .lst (SqL.of h1) (ih (by simpa only [PyData.hasDict] using q)))
    (fun h1 _ ih q => .tup h1 (ih (by simpa only [PyData.hasDict] using q)))
    (fun _ _ _ q => absurd q (by simp only [PyData.hasDict]; decide))
    (fun _ => .nil)
    (fun _ _ i1 i2 q => by
      simp only [PyData.hasDictAll, Bool.or_eq_false_iff] at q
      exact .cons (i1 q.1) (i2 q.2))
    trivial (fun _ _ _ _ => trivial) h
end
end Kx
namespace Kx
open PySem PySem.Spec PyProof.Rows L2 Evl
section
variable {X : Cx} {K : PySem.W.Frag}
theorem pe_cls {x : Str} {C : Addr} {pos : Pos} (hg : Gl X x) (hm : X.mg x = some (.ref C)) (hd : (x == ("__debug__" : Str)) = false := by decide) : PE X (.Name x pos) (tC (.ref C)) := pe_glob hg hm rfl hd
/-- the rules that name the written part, the part told from outside (for a comprehension's block) -/
theorem pe_xatK {e : Expr} {te : TE} {pos : Pos} {n : Str} (he : PE X e te) (h : X.K = K := by rfl) (hb : attributeBase e n X.env (eval e X.env) = eval e X.env := by rfl) : PE X (.Attribute e n pos) (tXat K n te) := h ▸ pe_xat he hb
theorem isX_K (h : X.K = K := by rfl) : CallR X (.builtin "isinstance") (rIsX K) := h ▸ call_isX
structure rIsiS (K : PySem.W.Frag) (vs : List V) (H : Hp) (Q : VK) : Prop where
  mk' ::
  out : rIsi K vs H Q
theorem isi_K (h : X.K = K := by rfl) : CallR X (.builtin "isinstance") (rIsi K) := h ▸ call_isi
theorem isi_S (h : X.K = K := by rfl) : CallR X (.builtin "isinstance") (rIsiS K) := by
  intro pins s σ H xs us Q I r g
  exact isi_K h pins s σ H xs us Q I r g.out
theorem ixL_K (h : X.K = K := by rfl) : IxR X (rIxL K) := h ▸ ix_list
theorem ixT_K (h : X.K = K := by rfl) : IxR X (rIxT K) := h ▸ ix_tup
end
end Kx

set_option Elab.async false
set_option maxRecDepth 100000
set_option linter.all false
set_option maxHeartbeats 4000000
/-! KitG: evaluation words for repr, comparisons of data, copies. -/
namespace Kx
open PySem PySem.Spec PyProof.Rows L2 Evl
/-- what may be shown -/
def okD (d : PyData) : Prop := d.showable = true ∧ d.depth ≤ 50 ∧ bnd d ≤ 1000000
theorem okD.fits {d : PyData} (h : okD d) : d.showable = true ∧ d.depth ≤ 60 ∧ d.shown.length ≤ sizeLine :=
  ⟨h.1, Nat.le_trans h.2.1 (by decide), Nat.le_trans (shown_le d) (Nat.le_trans h.2.2 (by decide))⟩
def okL (ds : List PyData) : Prop := (PyData.list ds).showable = true ∧ (PyData.list ds).depth ≤ 60 ∧ bnd (.list ds) ≤ 16000000
section
variable {K : PySem.W.Frag} {σ : L2.St} {G H : Hp} {te ta tb : TE} {d e : PyData} {v : V}
theorem ev_repr (h : Ev te σ H v) (y : Sys H) (hd : Dq K H v d) (ok : okD d) : Ev (tCB (rRepr K) (tCons te tNil)) σ H (.str d.shown) := fun H1 x Q q =>
  h H1 x _ fun H2 x2 => ⟨v, d, rfl, y.mono (same_ex (x.trans x2)), hd.mono (same_ex (x.trans x2)), ok.fits.1, ok.fits.2.1, ok.fits.2.2, q H2 x2⟩
theorem ev_reprB (h : Ev te σ H v) (y : Sys H) (hd : Dq K H v d) (o1 : d.showable = true) (o2 : d.depth ≤ 60) (o3 : bnd d ≤ 16000000) : Ev (tCB (rRepr K) (tCons te tNil)) σ H (.str d.shown) := fun H1 x Q q =>
  h H1 x _ fun H2 x2 => ⟨v, d, rfl, y.mono (same_ex (x.trans x2)), hd.mono (same_ex (x.trans x2)), o1, o2, Nat.le_trans (shown_le d) (Nat.le_trans o3 (by decide)), q H2 x2⟩
theorem ev_reprN {xs : List V} {ds : List PyData} (h : EvL te σ H xs) (y : Sys H) (hd : DqA K H xs ds) (ok : okL ds) : Ev (tCB (rRepr K) (tCons te tNil)) σ H (.str (PyData.list ds).shown) := fun H1 x Q q =>
  h H1 x _ fun p H2 hp x2 hx => ⟨_, .list ds, rfl, y.mono (same_ex (x.trans x2)), .lst hx (hd.mono (same_ex (x.trans x2))), ok.1, ok.2.1, Nat.le_trans (shown_le _) (Nat.le_trans ok.2.2 (by decide)), q H2 x2⟩
theorem ed_repr (h : EvD K te σ G d) (y : Sys G) (ok : okD d) : Ev (tCB (rRepr K) (tCons te tNil)) σ G (.str d.shown) := fun H1 x Q q =>
  h H1 x _ fun v G2 H2 z hd => ⟨v, d, rfl, y.mono (same_ex (z.gg.trans z.gh)), hd.mono (same_ex z.gh), ok.fits.1, ok.fits.2.1, ok.fits.2.2, q H2 z.hh⟩
theorem el_rep {xs : List V} {n : Nat} (h : EvL ta σ H xs) (hn : xs.length * n ≤ 100000) (hn2 : n ≤ 100000) : EvL (tOp rRep ta (tC (.int (n : Int)))) σ H (List.replicate n xs).flatten := fun H1 x Q q =>
  h H1 x _ fun p H2 hp x2 hx => ⟨p, (n : Int), xs, rfl, rfl, hx, by omega, by omega, by rw [Int.toNat_natCast]; exact sz_of hn, fun l hl => by
    rw [Int.toNat_natCast]
    exact q l _ (fresh_back x2 hl) (x2.trans (Ex.new hl)) upd_same⟩
theorem et_neD (ha : EvD K ta σ G d) (hb : EvD K tb σ G e) (n1 : d.hasDict = false) (n2 : e.hasDict = false) (s1 : SeqAt.shaped d = true) (s2 : SeqAt.shaped e = true) :
    EvT (tTest (tOp (rNeD K) ta tb)) σ G (!PyData.eqv d e) := fun H1 x Q q => ha H1 x _ fun v G2 H2 y hd => (hb.mono y.gg) H2 y.gh _ fun v' G3 H3 z he =>
  ⟨d, e, dp_of (hd.mono (same_ex (y.gh.trans z.hh))) n1, dp_of (he.mono (same_ex z.gh)) n2, s1, s2, _, rfl, q H3 (y.hh.trans z.hh)⟩
theorem ev_eqD (ha : EvD K ta σ G d) (hb : EvD K tb σ G e) (n1 : d.hasDict = false) (n2 : e.hasDict = false) (s1 : SeqAt.shaped d = true) (s2 : SeqAt.shaped e = true) :
    Ev (tOp (rEqD K) ta tb) σ G (.bl (PyData.eqv d e)) := fun H1 x Q q => ha H1 x _ fun v G2 H2 y hd => (hb.mono y.gg) H2 y.gh _ fun v' G3 H3 z he =>
  ⟨d, e, dp_of (hd.mono (same_ex (y.gh.trans z.hh))) n1, dp_of (he.mono (same_ex z.gh)) n2, s1, s2, q H3 (y.hh.trans z.hh)⟩
/-- e.f of an exception with one field -/
theorem ev_xat {C a : Addr} {f : Str} (h : Ev te σ H (.ref a)) (hx : XV H a C f v) (T : ExcC K C) (hno : PySem.W.findIn K (.ref C) f = some none) : Ev (tXat K f te) σ H v := fun H1 x Q q =>
  h H1 x _ fun H2 x2 => by
    obtain ⟨dx, h1, h2⟩ := hx.mono (same_ex (x.trans x2))
    exact ⟨a, C, dx, _, v, rfl, xat_exo h1, .inl h2, T, hno, by simp [List.lookup], q H2 x2⟩
end
end Kx

set_option Elab.async false
set_option maxRecDepth 100000
set_option linter.all false
set_option maxHeartbeats 4000000
/-! KitP: steps, bodies and parts of programs as data; growth of the heap but for one list that is written (a generator's). -/
namespace Kx
open PySem PySem.Spec PyProof.Rows L2 Evl

inductive Stp where
  | call (n : Str) | tail (n : Str) | check (r : Str) | back
  | either (a b : List Stp) | loop (b : List Stp) | block (m : Bool) (b : List Stp)
mutual
def stpD : Stp → PyData
  | .call n => .tuple [.str "call", .str n]
  | .tail n => .tuple [.str "tail", .str n]
  | .check r => .tuple [.str "check", .str r]
  | .back => .tuple [.str "back"]
  | .either a b => .tuple [.str "either", .list (bodyD a), .list (bodyD b)]
  | .loop b => .tuple [.str "loop", .list (bodyD b)]
  | .block m b => .tuple [.str "block", .bool m, .list (bodyD b)]
def bodyD : List Stp → List PyData
  | [] => []
  | s :: r => stpD s :: bodyD r
end
theorem bodyD_map : ∀ b : List Stp, bodyD b = b.map stpD
  | [] => by simp only [bodyD, List.map_nil]
  | s :: r => by simp only [bodyD, List.map_cons, bodyD_map r]
mutual
/-- fits for these rights and names; mk: within a marked block -/
def okS (rs ns : List Str) (mk : Bool) : Stp → Bool
  | .call n => decide (n ∈ ns)
  | .tail n => decide (n ∈ ns) && !mk
  | .check r => decide (r ∈ rs)
  | .back => true
  | .either a b => okB rs ns mk a && okB rs ns mk b
  | .loop b => okB rs ns mk b
  | .block m b => okB rs ns (mk || m) b
def okB (rs ns : List Str) (mk : Bool) : List Stp → Bool
  | [] => true
  | s :: r => okS rs ns mk s && okB rs ns mk r
end
theorem okB_app {rs ns : List Str} {mk : Bool} : ∀ {a b : List Stp}, okB rs ns mk a = true → okB rs ns mk b = true → okB rs ns mk (a ++ b) = true
  | [], _, _, h => h
  | s :: r, b, h1, h2 => by
    simp only [okB, Bool.and_eq_true, List.cons_append] at h1 ⊢
    exact ⟨h1.1, okB_app h1.2 h2⟩
theorem okB_mem {rs ns : List Str} {mk : Bool} {s : Stp} : ∀ {a : List Stp}, okB rs ns mk a = true → s ∈ a → okS rs ns mk s = true
  | t :: r, h, hm => by
    simp only [okB, Bool.and_eq_true] at h
    rcases List.mem_cons.mp hm with rfl | hm
    · exact h.1
    · exact okB_mem h.2 hm
theorem okB_of {rs ns : List Str} {mk : Bool} : ∀ {a : List Stp}, (∀ s ∈ a, okS rs ns mk s = true) → okB rs ns mk a = true
  | [], _ => by simp only [okB]
  | t :: r, h => by
    simp only [okB, Bool.and_eq_true]
    exact ⟨h t (List.mem_cons_self ..), okB_of fun s hs => h s (List.mem_cons_of_mem _ hs)⟩
mutual
/-- the number of steps; how deep they are nested -/
def cntS : Stp → Nat
  | .either a b => 1 + cntB a + cntB b
  | .loop b => 1 + cntB b
  | .block _ b => 1 + cntB b
  | _ => 1
def cntB : List Stp → Nat
  | [] => 0
  | s :: r => cntS s + cntB r
end
mutual
def nstS : Stp → Nat
  | .either a b => 1 + max (nstB a) (nstB b)
  | .loop b => 1 + nstB b
  | .block _ b => 1 + nstB b
  | _ => 0
def nstB : List Stp → Nat
  | [] => 0
  | s :: r => max (nstS s) (nstB r)
end
theorem cntB_app : ∀ a b : List Stp, cntB (a ++ b) = cntB a + cntB b
  | [], b => by simp only [List.nil_append, cntB, Nat.zero_add]
  | s :: r, b => by simp only [List.cons_append, cntB, cntB_app r b, Nat.add_assoc]
theorem nstB_app : ∀ a b : List Stp, nstB (a ++ b) = max (nstB a) (nstB b)
  | [], b => by simp [nstB]
  | s :: r, b => by simp only [List.cons_append, nstB, nstB_app r b, Nat.max_assoc]

/-! ### growth but for one written list -/
structure ExtG (g : Addr) (G H1 G2 H2 : Hp) : Prop where
  hh : ∀ a o, a ≠ g → H1 a = some o → H2 a = some o
  gg : Ex G G2
  gh : Ex G2 H2
  ag : ∀ a o, H1 a = some o → G2 a = G a
section
variable {g : Addr} {G H1 G2 H2 G3 H3 : Hp}
theorem ExtG.refl (e : Ex G H1) : ExtG g G H1 G H1 := ⟨fun _ _ _ h => h, Ex.refl G, e, fun _ _ _ => rfl⟩
/-- H1 knows g all along -/
theorem ExtG.trans (a : ExtG g G H1 G2 H2) (b : ExtG g G2 H2 G3 H3) (hg : ∃ o, H2 g = some o) : ExtG g G H1 G3 H3 :=
  ⟨fun c o n h => b.hh c o n (a.hh c o n h), a.gg.trans b.gg, b.gh, fun c o h => by
    by_cases z : c = g
    · obtain ⟨o', h'⟩ := hg
      rw [z] at h ⊢
      exact (b.ag g o' h').trans (a.ag g o h)
    · exact (b.ag c o (a.hh c o z h)).trans (a.ag c o h)⟩
theorem Ext.extG (x : Ext G H1 G2 H2) : ExtG g G H1 G2 H2 := ⟨fun a o _ h => x.hh a o h, x.gg, x.gh, x.ag⟩
theorem ExtG.thenE (a : ExtG g G H1 G2 H2) (b : Ext G2 H2 G3 H3) (hg : ∃ o, H2 g = some o) : ExtG g G H1 G3 H3 := a.trans b.extG hg
/-- g itself is written -/
theorem ExtG.wr {o : HO} (e : Ex G H1) (n : G g = none) : ExtG g G H1 G (upd H1 g o) :=
  ⟨fun a u z h => by rw [upd_ne z]; exact h, Ex.refl G, fun a u h => by
    rw [upd_ne (ne_of_none h n)]
    exact e a u h, fun _ _ _ => rfl⟩
theorem ExtG.off (a : ExtG g G H1 G2 H2) (n : G g = none) (h : ∃ o, H1 g = some o) : G2 g = none := by
  obtain ⟨o, h⟩ := h
  exact (a.ag g o h).trans n
theorem ExtG.new {p : Addr} {o : HO} (a : ExtG g G H1 G2 H2) (hp : H2 p = none) (hg : ∃ o, H2 g = some o) : ExtG g G H1 (upd G2 p o) (upd H2 p o) := a.thenE (Ext.new a.gh hp (Ex.new hp) upd_same) hg
end
end Kx
namespace Kx
open PySem PySem.Spec PyProof.Rows L2 Evl
/-- a generator at g: what a draw may ask; n: how far its counter may have gone -/
def GenAt (H : Hp) (g : Addr) (n : Nat) : Prop := ∃ a b c : Int, H g = some (.lst [.int a, .int b, .int c]) ∧ (0 ≤ a ∧ a < 2 ^ 2000) ∧ (0 ≤ b ∧ b < 2147483647) ∧ (0 ≤ c ∧ c ≤ n)
theorem GenAt.is {H : Hp} {g : Addr} {n : Nat} (h : GenAt H g n) : ∃ o, H g = some o := let ⟨_, _, _, e, _⟩ := h; ⟨_, e⟩
theorem GenAt.le {H : Hp} {g : Addr} {n m : Nat} (h : GenAt H g n) (l : n ≤ m) : GenAt H g m := let ⟨a, b, c, e, h1, h2, h3⟩ := h; ⟨a, b, c, e, h1, h2, by omega⟩
theorem GenAt.of {H H' : Hp} {g : Addr} {n : Nat} (h : GenAt H g n) (x : H' g = H g) : GenAt H' g n := let ⟨a, b, c, e, r⟩ := h; ⟨a, b, c, x.trans e, r⟩
theorem GenAt.ex {H H' : Hp} {g : Addr} {n : Nat} (h : GenAt H g n) (x : Ex H H') : GenAt H' g n := let ⟨a, b, c, e, r⟩ := h; ⟨a, b, c, x _ _ e, r⟩
/-- where we stand: the known part, the heap, the generator's counter -/
structure KS (g : Addr) (G0 H0 G H : Hp) (n : Nat) : Prop where
  x : ExtG g G0 H0 G H
  gen : GenAt H g n
  off : G g = none
section
variable {g p : Addr} {G0 H0 G H G2 H2 : Hp} {n m : Nat} {o : HO}
theorem KS.start (e : Ex G H) (h : GenAt H g n) (o : G g = none) : KS g G H G H n := ⟨ExtG.refl e, h, o⟩
theorem KS.draw (k : KS g G0 H0 G H n) (e : H2 = upd H g o) (h : GenAt H2 g m) : KS g G0 H0 G H2 m := by
  subst e
  exact ⟨k.x.trans (ExtG.wr k.x.gh k.off) k.gen.is, h, k.off⟩
theorem KS.ne (k : KS g G0 H0 G H n) (h : H p = none) : p ≠ g := fun z => by
  obtain ⟨o, e⟩ := k.gen.is
  rw [z, e] at h
  cases h
/-- a new object that is known -/
theorem KS.new (k : KS g G0 H0 G H n) (h : H p = none) : KS g G0 H0 (upd G p o) (upd H p o) n :=
  ⟨k.x.new h k.gen.is, k.gen.ex (Ex.new h), by rw [upd_ne (k.ne h).symm]; exact k.off⟩
/-- a new object that is our own -/
theorem KS.own (k : KS g G0 H0 G H n) (h : H p = none) : KS g G0 H0 G (upd H p o) n :=
  ⟨k.x.thenE ⟨Ex.new h, Ex.refl G, k.x.gh.trans (Ex.new h), fun _ _ _ => rfl⟩ k.gen.is, k.gen.ex (Ex.new h), k.off⟩
theorem KS.step (k : KS g G0 H0 G H n) (x : Ext G H G2 H2) : KS g G0 H0 G2 H2 n :=
  ⟨k.x.thenE x k.gen.is, k.gen.ex x.hh, by obtain ⟨o, e⟩ := k.gen.is; exact (x.ag _ _ e).trans k.off⟩
theorem KS.then (k : KS g G0 H0 G H n) (x : KS g G H G2 H2 m) : KS g G0 H0 G2 H2 m := ⟨k.x.trans x.x k.gen.is, x.gen, x.off⟩
/-- our own object is written -/
theorem KS.put (k : KS g G0 H0 G H n) (n0 : H0 p = none) (ng : G p = none) (hp : p ≠ g) : KS g G0 H0 G (upd H p o) n := by
  refine ⟨⟨fun a u z h => ?_, k.x.gg, fun a u h => ?_, k.x.ag⟩, k.gen.of (upd_ne hp.symm), k.off⟩
  · rw [upd_ne (ne_of_none h n0)]
    exact k.x.hh a u z h
  · rw [upd_ne (ne_of_none h ng)]
    exact k.x.gh a u h
/-- our own object is known from now on -/
theorem KS.freeze (k : KS g G0 H0 G H n) (n0 : H0 p = none) (ng : G p = none) (hp : p ≠ g) (h : H p = some o) : KS g G0 H0 (upd G p o) H n := by
  refine ⟨⟨k.x.hh, k.x.gg.trans (Ex.new ng), fun a u q => ?_, fun a u q => ?_⟩, k.gen, by rw [upd_ne hp.symm]; exact k.off⟩
  · by_cases z : a = p
    · rw [z, upd_same] at q
      rw [z, h]
      exact q
    · rw [upd_ne z] at q
      exact k.x.gh a u q
  · rw [upd_ne (ne_of_none q n0)]
    exact k.x.ag a u q
theorem KS.hnone (k : KS g G0 H0 G H n) (h : H p = none) : H0 p = none := by
  cases e : H0 p with
  | none => rfl
  | some o => rw [k.x.hh p o (k.ne h) e] at h; cases h
theorem KS.le (k : KS g G0 H0 G H n) (l : n ≤ m) : KS g G0 H0 G H m := ⟨k.x, k.gen.le l, k.off⟩
theorem KS.gnone (k : KS g G0 H0 G H n) (h : H p = none) : G p = none := fresh_back k.x.gh h
end
end Kx
namespace Kx
open PySem PySem.Spec PyProof.Rows L2 Evl
/-! ### owners -/
theorem nodup_rev {α : Type} {l : List α} (h : l.Nodup) : l.reverse.Nodup := List.pairwise_reverse.mpr (h.imp fun h e => h e.symm)
abbrev Own := Str × List Str
def strsD (xs : List Str) : PyData := .list (xs.map .str)
def ownD (o : Own) : PyData := .tuple [.str o.1, strsD o.2]
def rights3 : List Str := ["write", "read", "net"]
def names3 : List Str := ["app", "lib", "web"]
def ownOk (rs : List Str) (o : Own) : Prop := o.1 ∈ names3 ∧ o.2.Nodup ∧ ∀ r ∈ o.2, r ∈ rs
structure OwnsOk (rs : List Str) (os : List Own) : Prop where
  nd : (os.map (·.1)).Nodup
  ne : os ≠ []
  le : os.length ≤ 3
  ok : ∀ o ∈ os, ownOk rs o
section
variable {K : PySem.W.Frag} {G : Hp}
theorem dqa_strs : ∀ xs : List Str, DqA K G (xs.map V.str) (xs.map PyData.str)
  | [] => .nil
  | x :: xs => .cons (.str x) (dqa_strs xs)
theorem dq_strs {p : Addr} {xs : List Str} (h : G p = some (.lst (xs.map V.str))) : Dq K G (.ref p) (strsD xs) := .lst h (dqa_strs xs)
theorem dqa_rev : ∀ {vs : List V} {ds : List PyData}, DqA K G vs ds → DqA K G vs.reverse ds.reverse
  | _, _, .nil => .nil
  | _, _, .cons a b => by
    rw [List.reverse_cons, List.reverse_cons]
    exact dqa_app (dqa_rev b) a
end
end Kx

set_option Elab.async false
set_option maxRecDepth 100000
set_option linter.all false
set_option maxHeartbeats 4000000
namespace Lx
open PySem PySem.Spec PyProof.Rows L2 Evl Kx
def top (i : Nat) : Stmt := PySem.Challenge.pw_callersrights_k10_programs_made.main.body.getD i (.Pass ⟨0, 0, 0, 0⟩)
abbrev sCell : Stmt := top 30
abbrev sHash : Stmt := top 31
abbrev sGen : Stmt := top 32
abbrev sRnd : Stmt := top 33
section
variable {P : Program} {w : World} {K : PySem.W.Frag} {mg : Str → Option Value} {base : Heap} {f : Addr} {fd : FuncData}

theorem scCell : FnScope ["script", "index"] ["script", "index"] (defScope sCell) := ⟨rfl, rfl, rfl, by decide +kernel, rfl, by decide +kernel, by decide +kernel⟩
def spCell (K : PySem.W.Frag) : Sp := fun vs H Q _ => ∃ (l : Addr) (ns : List Int) (j : Nat), vs = [.ref l, .int j] ∧ SqL K H l (ns.map V.int) ∧ Q (.int (ns.getD j 0)) H
theorem ok_cell (F : Fun K "_law_cell" "_law_cell" sCell f fd) (mL : mg "len" = none) : FnOk P w K mg base CX0 1 f fd ["script", "index"] (spCell K) := by
  refine F.ok scCell (fun vs H Q E h => ?_) (fun cdv A outer s H vs Q E hr h => ?_)
  · obtain ⟨l, ns, j, rfl, _⟩ := h
    rfl
  · obtain ⟨l, ns, j, rfl, hS, q⟩ := h
    refine ⟨_, pss_cons (ps_if (pt_cmpR op_lt (pv 1) (pe_callB call_len_seq (by rfl) mL PySem.boot_len (pa_cons (pv 0) pa_nil)) (nomark _))
      (pss_one (ps_ret (pe_ix ix_list (pv 0) (pv 1) (fun _ _ => rfl)))) pss_nil) (pss_one (ps_ret pe_int)), ?_⟩
    refine ⟨_, rfl, _, rfl, l, _, rfl, .inl hS, _, _, rfl, rfl, _, rfl, ?_⟩
    refine ite2 (fun h => ?_) (fun h => ?_)
    · have hj : j < ns.length := by
        have h2 := of_decide_eq_true h
        rw [List.length_map] at h2
        omega
      refine ⟨_, rfl, _, rfl, l, _, _, .int (ns.getD j 0), rfl, rfl, hS, atI_nat ?_, q⟩
      rw [List.getElem?_map, List.getElem?_eq_getElem hj, List.getD_eq_getElem?_getD, List.getElem?_eq_getElem hj] <;> rfl
    · have hj : ¬ j < ns.length := fun z => h (decide_eq_true (by rw [List.length_map]; omega))
      rw [List.getD_eq_getElem?_getD, List.getElem?_eq_none (by omega)] at q
      exact q

theorem scHash : FnScope ["seed", "index", "mixed"] ["seed", "index"] (defScope sHash) := ⟨rfl, rfl, rfl, by decide +kernel, rfl, by decide +kernel, by decide +kernel⟩
def spHash : Sp := fun vs H Q _ => ∃ s i : Int, vs = [.int s, .int i] ∧ (0 ≤ s ∧ s < 2147483647) ∧ (0 ≤ i ∧ i < 2 ^ 60) ∧ ∀ r : Int, 0 ≤ r ∧ r < 2147483587 → Q (.int r) H
theorem ok_hash (F : Fun K "_law_hash" "_law_hash" sHash f fd) (mI : mg "int" = none) : FnOk P w K mg base CX0 1 f fd ["seed", "index"] spHash := by
  refine F.ok scHash (fun vs H Q E h => ?_) (fun cdv A outer s H vs Q E hr h => ?_)
  · obtain ⟨_, _, rfl, _⟩ := h
    rfl
  · obtain ⟨z, i, rfl, hz, hi, q⟩ := h
    refine ⟨_, pss_cons (ps_set (i := 2) scHash.nd rfl (Or.inl rfl) (pe_op op_mod (pe_callTy call_int1 (by rfl) mI PyProof.Rows.boot_int
        (pa_cons (pe_op op_add (pe_op op_add (pe_op op_add (pe_op op_mul (pv 0) pe_int) (pe_op op_mul (pe_op op_mul pe_int (pv 1)) (pv 1))) (pv 1)) pe_int) pa_nil)) pe_int))
      (pss_cons (ps_set (i := 2) scHash.nd rfl (Or.inl rfl) (pe_op op_mod (pe_callTy call_int1 (by rfl) mI PyProof.Rows.boot_int
        (pa_cons (pe_op op_add (pe_op op_mul (pv 2) (pv 2)) pe_int) pa_nil)) pe_int))
      (pss_one (ps_ret (pe_op op_mod (pe_callTy call_int1 (by rfl) mI PyProof.Rows.boot_int (pa_cons (pe_op op_mul (pv 2) pe_int) pa_nil)) pe_int)))), ?_⟩
    have e60 : (2 : Int) ^ 60 = 1152921504606846976 := by decide
    rw [e60] at hi
    have c1 : CMul z 1103515245 := .inr (by decide)
    have c2 : CMul 7919 i := .inl (by decide)
    have c3 : CMul (7919 * i) i := .inr (by
      have e64 : (2 : Int) ^ 64 = 18446744073709551616 := by decide
      rw [e64]
      omega)
    have c4 : ∀ x : Int, CMul (x % 2147483647) (x % 2147483647) := fun x => .inr (by
      have e64 : (2 : Int) ^ 64 = 18446744073709551616 := by decide
      rw [e64]
      omega)
    have c5 : ∀ x : Int, CMul x 48271 := fun x => .inr (by decide)
    have mp : ∀ {b : Int}, 0 < b → 0 < b := fun h => h
    refine ⟨_, rfl, _, _, rfl, rfl, c1, ?_⟩
    refine ⟨_, rfl, _, _, rfl, rfl, c2, _, rfl, _, _, rfl, rfl, c3, _, _, rfl, rfl, _, rfl, _, _, rfl, rfl, _, _, rfl, rfl, ?_⟩
    refine .inl ⟨_, rfl, _, _, rfl, rfl, mp (by decide), ?_⟩
    refine ⟨_, rfl, _, rfl, _, _, rfl, rfl, c4 _, _, _, rfl, rfl, .inl ⟨_, rfl, _, _, rfl, rfl, mp (by decide), ?_⟩⟩
    refine ⟨_, rfl, _, _, rfl, rfl, c5 _, .inl ⟨_, rfl, _, _, rfl, rfl, mp (by decide), ?_⟩⟩
    exact q _ (by omega)
theorem scGen : FnScope ["script", "index", "seed"] ["script", "index"] (defScope sGen) := ⟨rfl, rfl, rfl, by decide +kernel, rfl, by decide +kernel, by decide +kernel⟩
structure spGen (K : PySem.W.Frag) (vs : List V) (H : Hp) (Q : VK) (E_ : XK) : Prop where
  mk' ::
  out : ∃ (l : Addr) (ns : List Int) (j : Nat), vs = [.ref l, .int j] ∧ SqL K H l (ns.map V.int) ∧ ∀ p H', H p = none → Same H H' → GenAt H' p (1000 * j) → Q (.ref p) H'
theorem ok_gen {fC : Addr} {fdC : FuncData} (F : Fun K "_law_generator" "_law_generator" sGen f fd) (mI : mg "int" = none) (mM : mg "max" = none)
    (FC : FnOk P w K mg base CX0 1 fC fdC ["script", "index"] (spCell K)) (mC : mg "_law_cell" = some (.ref fC)) (kC : PySem.W.keepIn K (.ref fC) = true) (bC : Binds K fdC ["script", "index"] []) :
    FnOk P w K mg base CX0 2 f fd ["script", "index"] (spGen K) := by
  refine F.ok scGen (fun vs H Q E h => ?_) (fun cdv A outer s H vs Q E hr h => ?_)
  · obtain ⟨_, _, _, rfl, _⟩ := h
    rfl
  · obtain ⟨l, ns, j, rfl, hS, q⟩ := h
    refine ⟨_, pss_cons (ps_set (i := 2) scGen.nd rfl (Or.inl rfl) (pe_call FC hr rfl mC kC bC .nil pass0 (pa_cons (pv 0) (pa_cons (pv 1) pa_nil))))
      (pss_one (ps_ret (pe_lst (pa_cons (pe_op op_mod (pe_callTy call_int1 (by rfl) mI PyProof.Rows.boot_int (pa_cons (pe_callB (call_max2 rfl) (by rfl) mM (by decide +kernel)
          (pa_cons (pe_op op_sub (pv 2) (pe_op op_pow pe_int pe_int)) (pa_cons pe_int pa_nil))) pa_nil)) (pe_op op_powB (pe_op op_pow pe_int pe_int) pe_int))
        (pa_cons (pe_op op_mod (pe_callTy call_int1 (by rfl) mI PyProof.Rows.boot_int (pa_cons (pv 2) pa_nil)) pe_int)
        (pa_cons (pe_op op_mul pe_int (pv 1)) pa_nil)))))), ?_⟩
    have mp : ∀ {b : Int}, 0 < b → 0 < b := fun h => h
    refine ⟨_, rfl, _, rfl, l, ns, j, rfl, hS, ?_⟩
    have hp : CPow 10 18 := ⟨by decide, by decide, by decide⟩
    have hp2 : CPow 10 60 := ⟨by decide, by decide, by decide⟩
    refine ⟨_, rfl, _, _, rfl, rfl, hp, _, _, rfl, rfl, _, _, rfl, ?_⟩
    refine .inl ⟨_, rfl, _, _, rfl, rfl, hp2, _, _, rfl, rfl, ⟨by decide, by decide +kernel⟩, _, _, rfl, rfl, mp (by decide +kernel), ?_⟩
    refine ⟨_, rfl, .inl ⟨_, rfl, _, _, rfl, rfl, mp (by decide), ?_⟩⟩
    refine ⟨_, rfl, _, _, rfl, rfl, .inl (by decide), ?_⟩
    refine ⟨by show 3 ≤ sizeLine; decide, fun p hp => q p _ hp (same_ex (Ex.new hp)) ⟨_, _, _, upd_same, ⟨?_, ?_⟩, ⟨?_, ?_⟩, ?_, ?_⟩⟩
    · exact Int.emod_nonneg _ (by decide +kernel)
    · exact Int.lt_of_lt_of_le (Int.emod_lt_of_pos _ (by decide +kernel)) (by decide +kernel)
    · omega
    · omega
    · omega
    · omega

theorem scRnd : FnScope ["generator", "bound", "drawn", "turn"] ["generator", "bound"] (defScope sRnd) := ⟨rfl, rfl, rfl, by decide +kernel, rfl, by decide +kernel, by decide +kernel⟩
structure spRnd (vs : List V) (H : Hp) (Q : VK) (E_ : XK) : Prop where
  mk' ::
  out : ∃ (g : Addr) (n : Nat) (m : Int), vs = [.ref g, .int m] ∧ GenAt H g n ∧ n < 2 ^ 50 ∧ (1 ≤ m ∧ m < 2 ^ 59) ∧
  ∀ (r : Int) H' o, 0 ≤ r ∧ r < m → H' = upd H g o → GenAt H' g (n + 2) → Q (.int r) H'
theorem ok_rnd {fH : Addr} {fdH : FuncData} (F : Fun K "_law_random" "_law_random" sRnd f fd) (mI : mg "int" = none) (mR : mg "range" = none)
    (FH : FnOk P w K mg base CX0 1 fH fdH ["seed", "index"] spHash) (mH : mg "_law_hash" = some (.ref fH)) (kH : PySem.W.keepIn K (.ref fH) = true) (bH : Binds K fdH ["seed", "index"] []) :
    FnOk P w K mg base CX0 2 f fd ["generator", "bound"] spRnd := by
  refine F.ok scRnd (fun vs H Q E h => ?_) (fun cdv A outer s H vs Q E hr h => ?_)
  · obtain ⟨_, _, _, rfl, _⟩ := h
    rfl
  · obtain ⟨g, n, m, rfl, ⟨a, b, c, hg, ha, hb, hc⟩, hn, hm, q⟩ := h
    refine ⟨_, pss_cons (ps_if (pt_cmpR op_gt (pe_ix ix_list (pv 0) pe_int (fun _ _ => rfl)) pe_int (nomark _))
        (pss_cons (ps_set (i := 2) scRnd.nd rfl (Or.inl rfl) (pe_op op_mod (pe_callTy call_int1 (by rfl) mI PyProof.Rows.boot_int (pa_cons (pe_ix ix_list (pv 0) pe_int (fun _ _ => rfl)) pa_nil)) (pv 1)))
        (pss_cons (ps_asg (pe_op op_fdivW (pe_ix ix_list (pv 0) pe_int (fun _ _ => rfl)) (pv 1)) (pg_sub (pv 0) pe_int set_list))
        (pss_one (ps_ret (pv 2))))) pss_nil)
      (pss_cons (ps_set (i := 2) scRnd.nd rfl (Or.inl rfl) pe_int)
      (pss_cons (ps_for PassesOwn.never rfl (pi_range1 (by rfl) mR (pa_cons (pe_op op_add pe_int (pe_op op_fdiv (pe_bits (pv 1)) pe_int)) pa_nil)) (pg_name (i := 3) scRnd.nd rfl (Or.inl rfl))
        (pss_cons (ps_asg (pe_op op_add (pe_ix ix_list (pv 0) pe_int (fun _ _ => rfl)) pe_int) (pg_sub (pv 0) pe_int set_list))
        (pss_one (ps_set (i := 2) scRnd.nd rfl (Or.inl rfl) (pe_op op_add (pe_op op_mul (pv 2) pe_int)
          (pe_call FH hr rfl mH kH bH .nil pass0 (pa_cons (pe_ix ix_list (pv 0) pe_int (fun _ _ => rfl)) (pa_cons (pe_ix ix_list (pv 0) pe_int (fun _ _ => rfl)) pa_nil))))))))
      (pss_one (ps_ret (pe_op op_mod (pe_callTy call_int1 (by rfl) mI PyProof.Rows.boot_int (pa_cons (pv 2) pa_nil)) (pv 1)))))), ?_⟩
    have mp : ∀ {b : Int}, 0 < b → 0 < b := fun h => h
    have hm0 : 0 < m := by omega
    have hmb : m.natAbs < 2 ^ 59 := by
      have e : ((2 ^ 59 : Nat) : Int) = 2 ^ 59 := by decide
      omega
    refine ⟨_, rfl, g, _, _, _, rfl, rfl, SqL.of hg, rfl, _, _, rfl, rfl, _, rfl, ite2 (fun h => ?_) (fun h => ?_)⟩
    · have h0 : 0 < a := of_decide_eq_true h
      refine ⟨_, rfl, g, _, _, _, rfl, rfl, SqL.of hg, rfl, .inl ⟨_, rfl, _, rfl, _, _, rfl, rfl, mp hm0, ?_⟩⟩
      refine ⟨_, rfl, g, _, _, _, rfl, rfl, SqL.of hg, rfl, _, rfl, _, _, rfl, rfl, wide_div hm0 hmb (by decide) (by decide), ?_⟩
      refine ⟨_, rfl, g, _, _, 0, rfl, rfl, hg, rfl, _, rfl, ?_⟩
      refine q _ _ _ ⟨Int.emod_nonneg _ (by omega), Int.emod_lt_of_pos _ hm0⟩ rfl ⟨a / m, b, c, upd_same, ⟨Int.ediv_nonneg (by omega) (by omega), ?_⟩, hb, by omega, by omega⟩
      exact Int.lt_of_le_of_lt (Int.ediv_le_self _ (by omega)) ha.2
    · have bits : Builtin.Int.intBits m ≤ 59 := by
        unfold Builtin.Int.intBits
        split
        · decide
        · have h1 : m.natAbs ≠ 0 := by omega
          exact (Nat.log2_lt h1).mpr hmb
      refine ⟨_, rfl, _, rfl, _, _, rfl, rfl, ⟨by decide, by decide⟩, _, _, rfl, rfl, _, rfl, by omega, by omega, ?_⟩
      refine for_range (lo := 0) (n := (1 + (Builtin.Int.intBits m : Int) / 30).toNat) (fun i σ H' => ∃ (c' d : Int) (t : Option V) (o : HO), σ = [some (.ref g), some (.int m), some (.int d), t] ∧ H' = upd H g o ∧
        H' g = some (.lst [.int a, .int b, .int c']) ∧ 0 ≤ c' ∧ c' ≤ n + i) ?_ ?_ ?_
      · refine ⟨c, 0, none, .lst [.int a, .int b, .int c], rfl, ?_, hg, by omega, by omega⟩
        funext z
        by_cases e : z = g
        · rw [e, hg, upd_same]
        · rw [upd_ne e]
      · rintro i σ H' hi ⟨c', d, t, o, rfl, rfl, h1, h2, h3⟩
        refine ⟨_, rfl, g, _, _, _, rfl, rfl, SqL.of h1, rfl, _, _, rfl, rfl, _, rfl, g, _, _, 2, rfl, rfl, h1, rfl, ?_⟩
        have e60 : (2 : Int) ^ 60 = 1152921504606846976 := by decide
        have e50 : (2 : Nat) ^ 50 = 1125899906842624 := by decide
        refine ⟨_, rfl, _, _, rfl, rfl, .inr (by decide), _, rfl, g, _, _, _, rfl, rfl, SqL.of upd_same, rfl, _, rfl, g, _, _, _, rfl, rfl, SqL.of upd_same, rfl, ?_⟩
        refine ⟨_, _, rfl, hb, ⟨by omega, by rw [e60]; omega⟩, fun r hr => ⟨_, _, rfl, rfl, c' + 1, _, _, _, rfl, upd_upd, upd_same, by omega, by omega⟩⟩
      · rintro σ H' ⟨c', d, t, o, rfl, rfl, h1, h2, h3⟩
        refine ⟨_, rfl, .inl ⟨_, rfl, _, rfl, _, _, rfl, rfl, mp hm0, ?_⟩⟩
        exact q _ _ o ⟨Int.emod_nonneg _ (by omega), Int.emod_lt_of_pos _ hm0⟩ rfl ⟨a, b, c', h1, ha, hb, h2, by omega⟩

/-! ### the rights -/
abbrev sRts : Stmt := top 34
theorem scRts : FnScope ["generator"] ["generator"] (defScope sRts) := ⟨rfl, rfl, rfl, by decide +kernel, rfl, by decide +kernel, by decide +kernel⟩
/-- drawn rights: at the list p, known -/
structure spRts (vs : List V) (H : Hp) (Q : VK) (E_ : XK) : Prop where
  mk' ::
  out : ∃ (g : Addr) (n : Nat) (G : Hp), vs = [.ref g] ∧ GenAt H g n ∧ n < 2 ^ 49 ∧ Ex G H ∧ G g = none ∧
  ∀ (p : Addr) G2 H2 (k : Nat), KS g G H G2 H2 (n + 2) → G2 p = some (.lst ((rights3.take (k + 1)).map V.str)) → k < 3 → Q (.ref p) H2
theorem ok_rts {fR : Addr} {fdR : FuncData} (F : Fun K "_law_rights_drawn" "_law_rights_drawn" sRts f fd) (FR : FnOk P w K mg base CX0 2 fR fdR ["generator", "bound"] spRnd) (mR : mg "_law_random" = some (.ref fR)) (kR : PySem.W.keepIn K (.ref fR) = true) (bR : Binds K fdR ["generator", "bound"] []) :
    FnOk P w K mg base CX0 3 f fd ["generator"] spRts := by
  refine F.ok scRts (fun vs H Q E h => ?_) (fun cdv A outer s H vs Q E hr h => ?_)
  · obtain ⟨_, _, _, rfl, _⟩ := h
    rfl
  · obtain ⟨g, n, G, rfl, hg, hn, e, n0, q⟩ := h
    refine ⟨_, pss_one (ps_ret (pe_slice sl_list (pe_lst (pa_cons pe_str (pa_cons pe_str (pa_cons pe_str pa_nil)))) po_none (po_some (pe_op op_add pe_int (pe_call FR hr rfl mR kR bR .nil pass0 (pa_cons (pv 0) (pa_cons pe_int pa_nil))))))), ?_⟩
    refine ⟨by show 3 ≤ sizeLine; decide, fun p hp => ⟨_, rfl, g, n, 3, rfl, (KS.start e hg n0).own hp |>.gen, by omega, by decide, fun r H2 o hr2 hH2 g2 => ?_⟩⟩
    have k1 := ((KS.start e hg n0).own (p := p) (o := .lst [V.str "write", V.str "read", V.str "net"]) hp).draw hH2 g2
    have pg : p ≠ g := (KS.start e hg n0).ne hp
    have h2 : H2 p = some (.lst [V.str "write", V.str "read", V.str "net"]) := by
      rw [hH2, upd_ne pg]
      exact upd_same
    refine ⟨_, _, rfl, rfl, _, rfl, p, _, rfl, SqL.of h2, fun p2 hp2 => ?_⟩
    obtain ⟨k, hk, rfl⟩ : ∃ k : Nat, k < 3 ∧ r = (k : Int) := ⟨r.toNat, by omega, by omega⟩
    refine q p2 _ _ k (k1.new (o := .lst ((rights3.take (k + 1)).map V.str)) hp2) upd_same hk |> fun z => ?_
    match k, hk, z with
    | 0, _, z => exact z
    | 1, _, z => exact z
    | 2, _, z => exact z
    | k + 3, h, _ => omega

/-- a draw, from where we stand -/
theorem rnd_k {g : Addr} {G0 H0 G H : Hp} {n : Nat} {m : Int} {Q : VK} {E : XK} (k : KS g G0 H0 G H n) (hn : n < 2 ^ 50) (hm : 1 ≤ m ∧ m < 2 ^ 59)
    (q : ∀ (r : Int) H2, 0 ≤ r ∧ r < m → (∀ a, a ≠ g → H2 a = H a) → KS g G0 H0 G H2 (n + 2) → Q (.int r) H2) : spRnd [.ref g, .int m] H Q E :=
  ⟨g, n, m, rfl, k.gen, hn, hm, fun r H2 _ hr e g2 => q r H2 hr (fun a z => by rw [e, upd_ne z]) (k.draw e g2)⟩
/-- a list of our own choice, or the same turned about -/
theorem rev_or {g z : Addr} {G0 H0 G H : Hp} {n i : Nat} {xs : List V} {σ : L2.St} {Qc : VK} {c : Prop} [Decidable c] (k : KS g G0 H0 G H n) (hz : G z = some (.lst xs)) (hσ : σ[i]? = some (some (.ref z)))
    (fin : ∀ p G2 H2 (b : Bool), KS g G0 H0 G2 H2 n → Ext G H G2 H2 → G2 p = some (.lst (if b then xs.reverse else xs)) → Qc (.ref p) H2) :
    if c then tRevL K (tVar i) σ H Qc else tVar i σ H Qc := by
  refine ite2 (fun _ => ⟨_, hσ, z, xs, rfl, SqL.of (k.x.gh _ _ hz), fun p hp => ?_⟩) (fun _ => ⟨_, hσ, ?_⟩)
  · exact fin p _ _ true (k.new hp) (Ext.new k.x.gh hp (Ex.new hp) upd_same) upd_same
  · exact fin z _ _ false k (Ext.refl k.x.gh) hz
/-! ### the owners -/
abbrev sOws : Stmt := top 35
theorem scOws : FnScope ["generator", "rights", "found", "name", "some", "right"] ["generator", "rights"] (defScope sOws) := ⟨rfl, rfl, rfl, by decide +kernel, rfl, by decide +kernel, by decide +kernel⟩
structure spOws (K : PySem.W.Frag) (vs : List V) (H : Hp) (Q : VK) (E_ : XK) : Prop where
  mk' ::
  out : ∃ (g pr : Addr) (n : Nat) (G : Hp) (rs : List Str), vs = [.ref g, .ref pr] ∧ GenAt H g n ∧ n < 2 ^ 49 ∧ Ex G H ∧ G g = none ∧ G pr = some (.lst (rs.map V.str)) ∧ rs.length ≤ 3 ∧ rs.Nodup ∧
  ∀ (p : Addr) G2 H2 (os : List Own), KS g G H G2 H2 (n + 40) → Dq K G2 (.ref p) (.list (os.map ownD)) → OwnsOk rs os → Q (.ref p) H2
theorem ok_ows {fR : Addr} {fdR : FuncData} (F : Fun K "_law_owners_drawn" "_law_owners_drawn" sOws f fd) (FR : FnOk P w K mg base CX0 2 fR fdR ["generator", "bound"] spRnd) (mR : mg "_law_random" = some (.ref fR)) (kR : PySem.W.keepIn K (.ref fR) = true) (bR : Binds K fdR ["generator", "bound"] []) :
    FnOk P w K mg base CX0 3 f fd ["generator", "rights"] (spOws K) := by
  refine F.ok scOws (fun vs H Q E h => ?_) (fun cdv A outer s H vs Q E hr h => ?_)
  · obtain ⟨_, _, _, _, _, rfl, _⟩ := h
    rfl
  · obtain ⟨g, pr, n, G, rs, rfl, hg, hn, e, n0, hpr, hrl, hrn, q⟩ := h
    refine ⟨_, pss_cons (ps_set (i := 2) scOws.nd rfl (Or.inl rfl) (pe_lst pa_nil))
      (pss_cons (ps_for PassesOwn.never rfl (pi_list (pe_slice sl_list (pe_lst (pa_cons pe_str (pa_cons pe_str (pa_cons pe_str pa_nil)))) po_none (po_some (pe_op op_add pe_int (pe_call FR hr rfl mR kR bR .nil pass0 (pa_cons (pv 0) (pa_cons pe_int pa_nil))))))) (pg_name (i := 3) scOws.nd rfl (Or.inl rfl))
        (pss_cons (ps_setLc (i := 4) (own := [("right", 5)]) (g := gName 5) rfl scOws.nd rfl rfl (sw_true rfl rfl rfl (by decide +kernel)) (pi_list (pv 1)) (blkOk_by (own := [("right", 5)]) (N := ["generator", "rights", "found", "name", "some", "right"]) (sc := defScope sOws) (by decide +kernel))
            (fun _ _ _ _ _ => pg_name (i := 5) scOws.nd rfl (Or.inl rfl)) (fun _ _ _ _ _ => pts_one (pt_cmpR op_gt (pe_call FR hr rfl mR kR bR .nil pass0 (pa_cons (pv 0) (pa_cons pe_int pa_nil))) pe_int (nomark _))) (fun _ _ _ _ _ => pv 5))
        (pss_one (ps_expr (pe_bm PySem.F.plainAttrs_list PySem.F.slot_list_append PySem.F.type_list_append mt_append (pv 2) (pa_cons (pe_tup (pa_cons (pv 3) (pa_cons (pe_ifExp (pt_cmpR op_eq (pe_call FR hr rfl mR kR bR .nil pass0 (pa_cons (pv 0) (pa_cons pe_int pa_nil))) pe_int (nomark _)) (pe_revL (pv 4)) (pv 4)) pa_nil))) pa_nil))))))
      (pss_one (ps_ret (pe_ifExp (pt_cmpR op_eq (pe_call FR hr rfl mR kR bR .nil pass0 (pa_cons (pv 0) (pa_cons pe_int pa_nil))) pe_int (nomark _)) (pe_revL (pv 2)) (pv 2))))), ?_⟩
    have e49 : (2 : Nat) ^ 49 = 562949953421312 := by decide
    have e50 : (2 : Nat) ^ 50 = 1125899906842624 := by decide
    have k0 := KS.start e hg n0
    refine ⟨by show 0 ≤ sizeLine; decide, fun pf npf => ?_⟩
    have k1 := k0.own (o := .lst []) npf
    have fg : pf ≠ g := k0.ne npf
    have Gf : G pf = none := k0.gnone npf
    refine ⟨by show 3 ≤ sizeLine; decide, fun p1 np1 => ⟨_, rfl, rnd_k (k1.own np1) (by omega) (by decide) fun r H2 hr s2 k2 => ?_⟩⟩
    have p1g : p1 ≠ g := k1.ne np1
    have h1 : H2 p1 = some (.lst [V.str "app", V.str "lib", V.str "web"]) := by
      rw [s2 _ p1g]
      exact upd_same
    refine ⟨_, _, rfl, rfl, _, rfl, p1, _, rfl, SqL.of h1, fun p2 np2 => ?_⟩
    obtain ⟨c, hc, rfl⟩ : ∃ c : Nat, c < 3 ∧ r = (c : Int) := ⟨r.toNat, by omega, by omega⟩
    have hcut : cutV [V.str "app", V.str "lib", V.str "web"] none (some (1 + (c : Int))) = (names3.take (c + 1)).map V.str := by
      match c, hc with
      | 0, _ => rfl
      | 1, _ => rfl
      | 2, _ => rfl
    rw [hcut]
    have k3 := k2.new (o := .lst ((names3.take (c + 1)).map V.str)) np2
    have hf2 : H2 pf = some (.lst []) := by
      rw [s2 _ fg, upd_ne (ne_of_none upd_same np1)]
      exact upd_same
    have f2 : pf ≠ p2 := ne_of_none hf2 np2
    refine ⟨p2, rfl, ⟨_, SqL.of upd_same⟩, ?_⟩
    refine for_list (K := K) (a := p2) (xs := (names3.take (c + 1)).map V.str) (fun i σ H' => ∃ (vs : List V) (os : List Own) (G' : Hp) (a b : Option V), σ = [some (.ref g), some (.ref pr), some (.ref pf), a, b, none] ∧
        KS g G H G' H' (n + 2 + 8 * i) ∧ G' p2 = some (.lst ((names3.take (c + 1)).map V.str)) ∧ H' pf = some (.lst vs) ∧ G' pf = none ∧ DqA K G' vs (os.map ownD) ∧ os.map (·.1) = names3.take i ∧ ∀ o ∈ os, ownOk rs o) ?_
      (fun i σ H' _ ⟨_, _, _, _, _, _, k, g2, _⟩ => SqL.of (k.x.gh _ _ g2)) ?_ ?_
    · exact ⟨[], [], _, none, none, rfl, k3, upd_same, by rw [upd_ne f2]; exact hf2, by rw [upd_ne f2]; exact Gf, .nil, rfl, fun o h => by cases h⟩
    · rintro i x σ H' hx ⟨vs, os, G', a, b, rfl, k, g2, hf, gf, hd, hos, hok⟩
      have hi : i < c + 1 := by
        have := List.getElem?_eq_some_iff.mp hx |>.1
        rw [List.length_map, List.length_take] at this
        omega
      have hx' : ∃ nm, names3[i]? = some nm ∧ x = .str nm := by
        rw [List.getElem?_map, List.getElem?_take_of_lt hi] at hx
        cases hz : names3[i]? with
        | none => rw [hz] at hx; cases hx
        | some nm => rw [hz] at hx; exact ⟨nm, rfl, (Option.some.inj hx).symm⟩
      obtain ⟨nm, hnm, rfl⟩ := hx'
      have gpr : G' pr = some (.lst (rs.map V.str)) := k.x.gg _ _ hpr
      refine ⟨_, rfl, ⟨pr, rfl, ⟨_, SqL.of (k.x.gh _ _ gpr)⟩, fun D nD => ?_⟩⟩
      have fD : pf ≠ D := ne_of_none hf nD
      have Dg : D ≠ g := k.ne nD
      refine lc_list (K := K) (a := pr) (xs := rs.map V.str) (fun j H'' => ∃ acc : List Str, KS g G H G' H'' (n + 2 + 8 * i + 2 * j) ∧ H'' D = some (.lst (acc.map V.str)) ∧ H'' pf = some (.lst vs) ∧ acc.Sublist (rs.take j)) ?_
        (fun j H'' _ ⟨_, k', _⟩ => SqL.of (k'.x.gh _ _ gpr)) ?_ ?_
      · exact ⟨[], k.own nD, upd_same, by rw [upd_ne fD]; exact hf, List.nil_sublist _⟩
      · rintro j x H'' hx ⟨acc, k', hD, hf', hsub⟩
        have hj : ∃ rt, rs[j]? = some rt ∧ x = .str rt := by
          rw [List.getElem?_map] at hx
          cases hz : rs[j]? with
          | none => rw [hz] at hx; cases hx
          | some rt => rw [hz] at hx; exact ⟨rt, rfl, (Option.some.inj hx).symm⟩
        obtain ⟨rt, hrt, rfl⟩ := hj
        have hjl : j < rs.length := (List.getElem?_eq_some_iff.mp hrt).1
        have htk : rs.take (j + 1) = rs.take j ++ [rt] := by
          rw [List.take_succ, hrt]
          rfl
        refine ⟨rfl, _, rfl, rnd_k k' (by omega) (by decide) fun r2 H3 hr2 s3 k4 => ⟨_, _, rfl, rfl, _, rfl, ?_⟩⟩
        have hD3 : H3 D = some (.lst (acc.map V.str)) := by rw [s3 _ Dg]; exact hD
        have hf3 : H3 pf = some (.lst vs) := by rw [s3 _ fg]; exact hf'
        refine ite2 (fun hpos => ⟨_, rfl, acc.map V.str, hD3, ?_, acc ++ [rt], ?_, ?_, ?_, ?_⟩) (fun hpos => ⟨acc, ?_, hD3, hf3, ?_⟩)
        · have := hsub.length_le
          rw [List.length_map]
          rw [List.length_take] at this
          have e : (3 : Nat) < sizeLine := by decide
          omega
        · have := k4.put (p := D) (o := .lst (acc.map V.str ++ [V.str rt])) (k.hnone nD) (k.gnone nD) Dg
          exact this
        · rw [upd_same, List.map_append]
          rfl
        · rw [upd_ne fD]
          exact hf3
        · rw [htk]
          exact hsub.append (List.Sublist.refl _)
        · exact k4
        · rw [htk]
          exact hsub.trans (List.sublist_append_left _ _)
      · rintro H'' ⟨acc, k', hD, hf', hsub⟩
        rw [List.take_of_length_le (by rw [List.length_map]; exact Nat.le_refl _)] at hsub
        have k5 := k'.freeze (k.hnone nD) (k.gnone nD) Dg hD
        refine ⟨_, rfl, .inl ⟨rfl, _, SqL.of hf'⟩, _, rfl, _, rfl, rnd_k k5 (by rw [List.length_map]; omega) (by decide) fun r3 H3 hr3 s3 k6 => ⟨rfl, _, rfl, ?_⟩⟩
        have hf3 : H3 pf = some (.lst vs) := by rw [s3 _ fg]; exact hf'
        refine rev_or k6 upd_same rfl fun z G7 H7 b7 k7 x7 hz7 => ?_
        have g7 : G7 pf = none := by rw [x7.ag _ _ hf3, upd_ne fD]; exact gf
        have h7 : H7 pf = some (.lst vs) := x7.hh _ _ hf3
        have x17 : Ex G' G7 := (Ex.new (k.gnone nD)).trans x7.gg
        refine ⟨by show 2 ≤ sizeLine; decide, fun tp ntp => ?_⟩
        have ftp : pf ≠ tp := ne_of_none h7 ntp
        have k8 := k7.new (o := .tup [V.str nm, V.ref z]) ntp
        have x18 := x17.trans (Ex.new (o := .tup [V.str nm, V.ref z]) (k7.gnone ntp))
        have hD8 : DqA K (upd G7 tp (.tup [V.str nm, V.ref z])) vs (os.map ownD) := hd.mono (same_ex x18)
        have hlen : vs.length = i := by
          have e1 := dqa_len hd
          have e2 := congrArg List.length hos
          rw [List.length_map, List.length_take] at e2
          rw [List.length_map] at e1
          have e3 : names3.length = 3 := rfl
          omega
        have e3z : (3 : Nat) < sizeLine := by decide
        refine ⟨pf, vs, V.ref tp, rfl, rfl, by rw [upd_ne ftp]; exact h7, (by rw [hlen]; omega), ?_⟩
        have hsb : (if b7 then (acc.map V.str).reverse else acc.map V.str) = (if b7 then acc.reverse else acc).map V.str := by
          cases b7
          · rfl
          · exact List.map_reverse.symm
        rw [hsb] at hz7
        refine ⟨vs ++ [V.ref tp], os ++ [(nm, if b7 then acc.reverse else acc)], _, _, _, rfl, (k8.put (p := pf) npf ?_ fg).le ?_, x18 _ _ g2, upd_same, ?_, ?_, ?_, ?_⟩
        · rw [upd_ne ftp]; exact g7
        · rw [List.length_map]; omega
        · rw [upd_ne ftp]; exact g7
        · rw [List.map_append]
          refine dqa_app hD8 (.tup (.inl (.inl upd_same)) (.cons (.str _) (.cons (dq_strs ?_) .nil)))
          rw [upd_ne (ne_of_none (k7.x.gh _ _ hz7) ntp)]
          exact hz7
        · rw [List.map_append, hos, List.take_succ, hnm]
          rfl
        · intro o ho
          rcases List.mem_append.mp ho with ho | ho
          · exact hok o ho
          · rw [List.mem_singleton.mp ho]
            refine ⟨List.mem_of_getElem? hnm, ?_, ?_⟩
            · cases b7
              · exact hsub.nodup hrn
              · exact nodup_rev (hsub.nodup hrn)
            · intro r4 hr4
              cases b7
              · exact hsub.subset hr4
              · exact hsub.subset (List.mem_reverse.mp hr4)
    · rintro σ H' ⟨vs, os, G', a, b, rfl, k, g2, hf, gf, hd, hos, hok⟩
      have hpf : (upd G' pf (.lst vs)) pf = some (.lst vs) := upd_same
      have kf := k.freeze npf gf fg hf
      have hN : ((names3.take (c + 1)).map V.str).length = c + 1 := by
        rw [List.length_map, List.length_take]
        have e3 : names3.length = 3 := rfl
        omega
      rw [hN] at hos k kf
      refine ⟨_, rfl, rnd_k kf (by omega) (by decide) fun r3 H3 hr3 s3 k6 => ⟨rfl, _, rfl, ?_⟩⟩
      refine rev_or k6 hpf rfl fun z G7 H7 b7 k7 x7 hz7 => ?_
      have x17 : Ex G' G7 := (Ex.new gf).trans x7.gg
      refine q z G7 H7 (if b7 then os.reverse else os) (k7.le (by omega)) ?_ ?_
      · have := hd.mono (K := K) (same_ex x17)
        refine .lst hz7 ?_
        cases b7
        · exact this
        · show DqA K G7 vs.reverse _
          rw [if_pos rfl, List.map_reverse]
          exact dqa_rev this
      · have hl : os.length ≤ 3 := by
          have e2 := congrArg List.length hos
          rw [List.length_map, List.length_take] at e2
          omega
        have hne : os ≠ [] := fun z => by
          rw [z] at hos
          cases hos
        have hnd : (os.map (·.1)).Nodup := by
          rw [hos]
          exact (List.take_sublist _ _).nodup (by decide)
        cases b7
        · exact ⟨hnd, hne, hl, hok⟩
        · refine ⟨?_, ?_, ?_, ?_⟩
          · rw [if_pos rfl, List.map_reverse]
            exact nodup_rev hnd
          · intro z
            rw [if_pos rfl, List.reverse_eq_nil_iff] at z
            exact hne z
          · rw [if_pos rfl, List.length_reverse]
            exact hl
          · intro o ho
            exact hok o (List.mem_reverse.mp ho)
end
end Lx

set_option Elab.async false
set_option maxRecDepth 100000
set_option linter.all false
set_option maxHeartbeats 4000000
namespace Lx
open PySem PySem.Spec PyProof.Rows L2 Evl Kx
section
variable {P : Program} {w : World} {K : PySem.W.Frag} {mg : Str → Option Value} {base : Heap} {f : Addr} {fd : FuncData}
def kS : Nat → Nat
  | 0 => 8
  | d + 1 => 8 + 2 * (2 + 2 * kS d)
def kB (d most : Nat) : Nat := 2 + most * kS d
/-- the most steps in a step that is nested so deep -/
def cS : Nat → Nat
  | 0 => 1
  | d + 1 => 1 + 4 * cS d
structure RN (rs ns : List Str) : Prop where
  r1 : rs ≠ []
  r2 : rs.length ≤ 5
  n1 : ns ≠ []
  n2 : ns.length ≤ 6
abbrev sStp : Stmt := top 36
abbrev sBod : Stmt := top 37
theorem scStp : FnScope ["generator", "rights", "names", "deep", "marked", "kind", "name", "right", "parts", "mark", "turn"] ["generator", "rights", "names", "deep", "marked"] (defScope sStp) := ⟨rfl, rfl, rfl, by decide +kernel, rfl, by decide +kernel, by decide +kernel⟩
theorem scBod : FnScope ["generator", "rights", "names", "deep", "marked", "most", "found", "turn"] ["generator", "rights", "names", "deep", "marked", "most"] (defScope sBod) := ⟨rfl, rfl, rfl, by decide +kernel, rfl, by decide +kernel, by decide +kernel⟩
structure spStp (K : PySem.W.Frag) (d : Nat) (vs : List V) (H : Hp) (Q : VK) (E_ : XK) : Prop where
  mk' ::
  out : ∃ (g pr pn : Addr) (n : Nat) (G : Hp) (rs ns : List Str) (j : Int) (mk : Bool), vs = [.ref g, .ref pr, .ref pn, .int j, .bl mk] ∧ j = d ∧ d ≤ 2 ∧ GenAt H g n ∧ n < 2 ^ 40 + 10000 * (3 - d) ∧ Ex G H ∧ G g = none ∧
  G pr = some (.lst (rs.map V.str)) ∧ G pn = some (.lst (ns.map V.str)) ∧ RN rs ns ∧
  ∀ (x : V) G2 H2 (s : Stp), KS g G H G2 H2 (n + kS d) → Dq K G2 x (stpD s) → okS rs ns mk s = true → nstS s ≤ d → cntS s ≤ cS d → Q x H2
structure spBod (K : PySem.W.Frag) (d : Nat) (vs : List V) (H : Hp) (Q : VK) (E_ : XK) : Prop where
  mk' ::
  out : ∃ (g pr pn : Addr) (n : Nat) (G : Hp) (rs ns : List Str) (j : Int) (mk : Bool) (most : Nat), vs = [.ref g, .ref pr, .ref pn, .int j, .bl mk, .int most] ∧ j = d ∧ d ≤ 2 ∧ most ≤ 4 ∧ GenAt H g n ∧ n + 5000 < 2 ^ 40 + 10000 * (3 - d) ∧ Ex G H ∧ G g = none ∧
  G pr = some (.lst (rs.map V.str)) ∧ G pn = some (.lst (ns.map V.str)) ∧ RN rs ns ∧
  ∀ (p : Addr) G2 H2 (b : List Stp), KS g G H G2 H2 (n + kB d most) → Dq K G2 (.ref p) (.list (bodyD b)) → okB rs ns mk b = true → nstB b ≤ d → b.length ≤ most → cntB b ≤ most * cS d → Q (.ref p) H2
def spBodP (K : PySem.W.Frag) : Nat → Sp
  | 0 => fun _ _ _ _ => False
  | d + 1 => spBod K d
/-- a body, from where we stand -/
theorem bod_k {g pr pn : Addr} {G0 H0 G H : Hp} {n d most : Nat} {j : Int} {mk : Bool} {rs ns : List Str} {Q : VK} {E : XK} (k : KS g G0 H0 G H n) (hn : n + 5000 < 2 ^ 40 + 10000 * (3 - d)) (hj : j = d) (hd : d ≤ 2) (hm : most ≤ 4)
    (hpr : G pr = some (.lst (rs.map V.str))) (hpn : G pn = some (.lst (ns.map V.str))) (rn : RN rs ns)
    (q : ∀ (p : Addr) G2 H2 (b : List Stp), KS g G0 H0 G2 H2 (n + kB d most) → ExtG g G H G2 H2 → Dq K G2 (.ref p) (.list (bodyD b)) → okB rs ns mk b = true → nstB b ≤ d → b.length ≤ most → cntB b ≤ most * cS d → Q (.ref p) H2) :
    spBod K d [.ref g, .ref pr, .ref pn, .int j, .bl mk, .int most] H Q E :=
  ⟨g, pr, pn, n, G, rs, ns, j, mk, most, rfl, hj, hd, hm, k.gen, hn, k.x.gh, k.off, hpr, hpn, rn, fun p G2 H2 b k2 => q p G2 H2 b (k.then k2) k2.x⟩
/-- a step, from where we stand -/
theorem stp_k {g pr pn : Addr} {G0 H0 G H : Hp} {n d : Nat} {j : Int} {mk : Bool} {rs ns : List Str} {Q : VK} {E : XK} (k : KS g G0 H0 G H n) (hn : n < 2 ^ 40 + 10000 * (3 - d)) (hj : j = d) (hd : d ≤ 2)
    (hpr : G pr = some (.lst (rs.map V.str))) (hpn : G pn = some (.lst (ns.map V.str))) (rn : RN rs ns)
    (q : ∀ (x : V) G2 H2 (s : Stp), KS g G0 H0 G2 H2 (n + kS d) → ExtG g G H G2 H2 → Dq K G2 x (stpD s) → okS rs ns mk s = true → nstS s ≤ d → cntS s ≤ cS d → Q x H2) :
    spStp K d [.ref g, .ref pr, .ref pn, .int j, .bl mk] H Q E :=
  ⟨g, pr, pn, n, G, rs, ns, j, mk, rfl, hj, hd, k.gen, hn, k.x.gh, k.off, hpr, hpn, rn, fun x G2 H2 s k2 => q x G2 H2 s (k.then k2) k2.x⟩
theorem ite_c {c : Prop} [Decidable c] {a b : V} {σ : L2.St} {H : Hp} {Qk : VK} (h : ∀ m, (c → m = a) → (¬ c → m = b) → Qk m H) : if c then tC a σ H Qk else tC b σ H Qk :=
  ite2 (fun z => h a (fun _ => rfl) fun y => (y z).elim) (fun z => h b (fun y => (z y).elim) fun _ => rfl)
theorem or_and {c1 : Prop} {c2 : Bool} [Decidable c1] {σ : L2.St} {H : Hp} {i : Nat} {mk : Bool} {t2 : TT} {Qb : Bool → Hp → Prop} (hσ : σ[i]? = some (some (.bl mk))) (ht : ∀ Q' : Bool → Hp → Prop, Q' c2 H → t2 σ H Q')
    (fin : ∀ b : Bool, (b = true ↔ c1 ∨ (c2 = true ∧ mk = true)) → Qb b H) : if c1 then Qb true H else tAnd t2 (tB (tVar i)) σ H Qb := by
  refine ite2 (fun h => fin true ⟨fun _ => .inl h, fun _ => rfl⟩) (fun h => ht _ (ite2 (fun h2 => ⟨_, hσ, _, rfl, fin mk ⟨fun z => .inr ⟨h2, z⟩, fun z => ?_⟩⟩) fun h2 => fin false ⟨fun z => Bool.noConfusion z, fun z => ?_⟩))
  · rcases z with z | z
    · exact (h z).elim
    · exact z.2
  · rcases z with z | z
    · exact (h z).elim
    · exact (h2 z.1).elim
theorem or_v {mk mb : Bool} {σ : L2.St} {H : Hp} {i : Nat} {Qk : VK} (hσ : σ[i]? = some (some (.bl mb))) (h : Qk (.bl (mk || mb)) H) : if mk = true then Qk (.bl true) H else tVar i σ H Qk := by
  cases mk
  · exact ite2 (fun z => Bool.noConfusion z) fun _ => ⟨_, hσ, h⟩
  · exact ite2 (fun _ => h) fun z => (z rfl).elim
theorem ok_stp {d : Nat} {fR fB : Addr} {fdR fdB : FuncData} (F : Fun K "_law_step_drawn" "_law_step_drawn" sStp f fd) (FR : FnOk P w K mg base CX0 2 fR fdR ["generator", "bound"] spRnd) (mR : mg "_law_random" = some (.ref fR)) (kR : PySem.W.keepIn K (.ref fR) = true) (bR : Binds K fdR ["generator", "bound"] [])
    (FB : FnOk P w K mg base CX0 (2 * d + 2) fB fdB ["generator", "rights", "names", "deep", "marked", "most"] (spBodP K d)) (mB : mg "_law_body_drawn" = some (.ref fB)) (kB' : PySem.W.keepIn K (.ref fB) = true) (bB : Binds K fdB ["generator", "rights", "names", "deep", "marked", "most"] [])
    (mL : mg "len" = none) (mG : mg "range" = none) :
    FnOk P w K mg base CX0 (2 * d + 3) f fd ["generator", "rights", "names", "deep", "marked"] (spStp K d) := by
  refine F.ok scStp (fun vs H Q E h => ?_) (fun cdv A outer s H vs Q E hr h => ?_)
  · obtain ⟨_, _, _, _, _, _, _, _, _, rfl, _⟩ := h
    rfl
  · obtain ⟨g, pr, pn, n, G, rs, ns, j, mk, rfl, hj, hd2, hg, hn, e, n0, hpr, hpn, rn, q⟩ := h
    have r2 := hr.mono (j := 2) (by omega)
    refine ⟨_, pss_cons (ps_set (i := 5) scStp.nd rfl (Or.inl rfl) (pe_call FR r2 rfl mR kR bR .nil pass0 (pa_cons (pv 0) (pa_cons (pe_ifExp (pt_cmpR op_gt (pv 3) pe_int (nomark _)) pe_int pe_int) pa_nil))))
      (pss_cons (ps_par (i := 6) (j := 7) (by rfl) scStp.nd rfl rfl (by decide) rfl rfl (pa_cons (pe_ix ix_list (pv 2) (pe_call FR r2 rfl mR kR bR .nil pass0 (pa_cons (pv 0) (pa_cons (pe_callB call_len_seq (by rfl) mL PySem.boot_len (pa_cons (pv 2) pa_nil)) pa_nil))) (fun _ _ => rfl))
          (pa_cons (pe_ix ix_list (pv 1) (pe_call FR r2 rfl mR kR bR .nil pass0 (pa_cons (pv 0) (pa_cons (pe_callB call_len_seq (by rfl) mL PySem.boot_len (pa_cons (pv 1) pa_nil)) pa_nil))) (fun _ _ => rfl)) pa_nil)) (by rfl))
      (pss_cons (ps_if (pt_cmpR op_lt (pv 5) pe_int (nomark _)) (pss_one (ps_ret (pe_tup (pa_cons pe_str (pa_cons (pv 6) pa_nil))))) pss_nil)
      (pss_cons (ps_if (PW.pt (pw_or (pt_cmpR op_lt (pv 5) pe_int (nomark _)) (pw_or1 (PW.pt (pw_and (pt_cmpR op_eq (pv 5) pe_int (nomark _)) (pw_and1 (pt_val (pv 4)))))))) (pss_one (ps_ret (pe_tup (pa_cons pe_str (pa_cons (pv 7) pa_nil))))) pss_nil)
      (pss_cons (ps_if (pt_cmpR op_eq (pv 5) pe_int (nomark _)) (pss_one (ps_ret (pe_ix ix_list (pe_lst (pa_cons (pe_tup (pa_cons pe_str (pa_cons (pv 6) pa_nil))) (pa_cons (pe_tup (pa_cons pe_str pa_nil)) pa_nil))) (pe_call FR r2 rfl mR kR bR .nil pass0 (pa_cons (pv 0) (pa_cons pe_int pa_nil))) (fun _ _ => rfl)))) pss_nil)
      (pss_cons (ps_if (pt_cmpR op_eq (pv 5) pe_int (nomark _)) (pss_cons (ps_setLc (i := 8) (own := [("turn", 10)]) (g := gName 10) rfl scStp.nd rfl rfl (sw_true rfl rfl rfl (by decide +kernel)) (pi_range1 (by rfl) mG (pa_cons pe_int pa_nil))
            (blkOk_by (own := [("turn", 10)]) (N := ["generator", "rights", "names", "deep", "marked", "kind", "name", "right", "parts", "mark", "turn"]) (sc := defScope sStp) (by decide +kernel))
            (fun _ _ _ _ _ => pg_name (i := 10) scStp.nd rfl (Or.inl rfl)) (fun _ _ _ _ _ => pts_nil) (fun _ _ _ _ _ => pe_call FB hr rfl mB kB' bB .nil pass0 (pa_cons (pv 0) (pa_cons (pv 1) (pa_cons (pv 2) (pa_cons (pe_op op_sub (pv 3) pe_int) (pa_cons (pv 4) (pa_cons pe_int pa_nil))))))))
          (pss_one (ps_ret (pe_tup (pa_cons pe_str (pa_cons (pe_ix ix_list (pv 8) pe_int (fun _ _ => rfl)) (pa_cons (pe_ix ix_list (pv 8) pe_int (fun _ _ => rfl)) pa_nil))))))) pss_nil)
      (pss_cons (ps_if (pt_cmpR op_eq (pv 5) pe_int (nomark _)) (pss_one (ps_ret (pe_tup (pa_cons pe_str (pa_cons (pe_call FB hr rfl mB kB' bB .nil pass0 (pa_cons (pv 0) (pa_cons (pv 1) (pa_cons (pv 2) (pa_cons (pe_op op_sub (pv 3) pe_int) (pa_cons (pv 4) (pa_cons pe_int pa_nil))))))) pa_nil))))) pss_nil)
      (pss_cons (ps_set (i := 9) scStp.nd rfl (Or.inl rfl) (pe_cmpR op_gt (pe_call FR r2 rfl mR kR bR .nil pass0 (pa_cons (pv 0) (pa_cons pe_int pa_nil))) pe_int (nomark _)))
      (pss_one (ps_ret (pe_tup (pa_cons pe_str (pa_cons (pv 9) (pa_cons (pe_call FB hr rfl mB kB' bB .nil pass0 (pa_cons (pv 0) (pa_cons (pv 1) (pa_cons (pv 2) (pa_cons (pe_op op_sub (pv 3) pe_int) (pa_cons (pe_or (pv 4) (pe_one (pv 9))) (pa_cons pe_int pa_nil))))))) pa_nil))))))))))))), ?_⟩
    have e40 : (2 : Nat) ^ 40 = 1099511627776 := by decide
    have e50 : (2 : Nat) ^ 50 = 1125899906842624 := by decide
    have e59 : (2 : Int) ^ 59 = 576460752303423488 := by decide
    have k0 := KS.start e hg n0
    have rl := List.length_pos_iff.mpr rn.r1
    have nl := List.length_pos_iff.mpr rn.n1
    refine ⟨_, rfl, _, rfl, _, _, rfl, rfl, _, rfl, ite_c fun m h1 h2 => ?_⟩
    obtain ⟨m, rfl, hm⟩ : ∃ i : Int, m = .int i ∧ ((0 < d ∧ i = 11) ∨ (d = 0 ∧ i = 7)) := by
      by_cases z : (0 : Int) < j
      · exact ⟨11, h1 (decide_eq_true z), .inl ⟨by omega, rfl⟩⟩
      · exact ⟨7, h2 (by rw [decide_eq_true_eq]; exact z), .inr ⟨by omega, rfl⟩⟩
    refine rnd_k k0 (by omega) (by omega) fun kd H1 hkd s1 k1 => ?_
    have gpr := hpr
    -- the name
    refine ⟨_, rfl, _, rfl, _, rfl, pn, _, rfl, .inl (SqL.of (k1.x.gh _ _ hpn)), rnd_k k1 (by omega) (by rw [List.length_map]; have := rn.n2; omega) fun rN H2 hrN s2 k2 => ?_⟩
    rw [List.length_map] at hrN
    obtain ⟨iN, hiN, rfl⟩ : ∃ i : Nat, i < ns.length ∧ rN = (i : Int) := ⟨rN.toNat, by omega, by omega⟩
    obtain ⟨nm, hnm⟩ : ∃ nm, ns[iN]? = some nm := ⟨_, List.getElem?_eq_getElem hiN⟩
    have mN : nm ∈ ns := List.mem_of_getElem? hnm
    refine ⟨pn, _, _, .str nm, rfl, rfl, SqL.of (k2.x.gh _ _ hpn), atI_nat (by rw [List.getElem?_map, hnm]; rfl), ?_⟩
    -- the right
    refine ⟨_, rfl, _, rfl, _, rfl, pr, _, rfl, .inl (SqL.of (k2.x.gh _ _ hpr)), rnd_k k2 (by omega) (by rw [List.length_map]; have := rn.r2; omega) fun rR H3 hrR s3 k3 => ?_⟩
    rw [List.length_map] at hrR
    obtain ⟨iR, hiR, rfl⟩ : ∃ i : Nat, i < rs.length ∧ rR = (i : Int) := ⟨rR.toNat, by omega, by omega⟩
    obtain ⟨rt, hrt⟩ : ∃ rt, rs[iR]? = some rt := ⟨_, List.getElem?_eq_getElem hiR⟩
    have mR' : rt ∈ rs := List.mem_of_getElem? hrt
    refine ⟨pr, _, _, .str rt, rfl, rfl, SqL.of (k3.x.gh _ _ hpr), atI_nat (by rw [List.getElem?_map, hrt]; rfl), _, _, rfl, ?_⟩
    have ks8 : 8 ≤ kS d := by cases d <;> simp only [kS] <;> omega
    have c1 : 1 ≤ cS d := by cases d <;> simp only [cS] <;> omega
    have two : ∀ {p : Addr} {G7 H7 : Hp} {n7 : Nat} {a : Str} {b : V} {s : Stp} {ds : PyData}, KS g G H G7 H7 n7 → n7 ≤ n + kS d → H7 p = none → Dq K G7 b ds → stpD s = .tuple [.str a, ds] → okS rs ns mk s = true → nstS s ≤ d → cntS s ≤ cS d → Q (.ref p) (upd H7 p (.tup [.str a, b])) :=
      fun k7 hn7 np hb hs ok hd hc => q _ _ _ _ ((k7.new np).le hn7) (by
        rw [hs]
        exact .tup (.inl (.inl upd_same)) (.cons (.str _) (.cons (hb.mono (same_ex (Ex.new (k7.gnone np)))) .nil))) ok hd hc
    refine ⟨_, rfl, _, _, rfl, rfl, _, rfl, ite2 (fun h3 => ?_) (fun h3 => ?_)⟩
    · refine ⟨_, rfl, by show 2 ≤ sizeLine; decide, fun p np => ?_⟩
      exact two (s := .call nm) k3 (by omega) np (.str nm) rfl (by simp only [okS, decide_eq_true_eq]; exact mN) (Nat.zero_le _) c1
    have g3 : ¬ kd < 3 := fun z => h3 (decide_eq_true z)
    refine ⟨_, rfl, _, _, rfl, rfl, _, rfl, or_and (c2 := decide (kd = 6)) rfl (fun Q' q' => ⟨_, rfl, rfl, _, rfl, ?_⟩) fun b hb => ite2 (fun hbt => ?_) (fun hbf => ?_)⟩
    · simp only [V.int.injEq]
      exact q'
    · refine ⟨_, rfl, by show 2 ≤ sizeLine; decide, fun p np => ?_⟩
      exact two (s := .check rt) k3 (by omega) np (.str rt) rfl (by simp only [okS, decide_eq_true_eq]; exact mR') (Nat.zero_le _) c1
    have nb := fun z => hbf (hb.mpr z)
    have g6 : ¬ kd < 6 := fun z => nb (.inl (decide_eq_true z))
    have gm : kd = 6 → mk = false := fun z => by
      cases mk
      · rfl
      · exact (nb (.inr ⟨decide_eq_true z, rfl⟩)).elim
    refine ⟨_, rfl, rfl, _, rfl, ite2 (fun h6 => ?_) (fun h6 => ?_)⟩
    · have h6 : kd = 6 := by simpa only [V.int.injEq, decide_eq_true_eq] using h6
      have hmk := gm h6
      refine ⟨_, rfl, by show 2 ≤ sizeLine; decide, fun p np => ⟨by show 1 ≤ sizeLine; decide, fun p2 np2 => ⟨by show 2 ≤ sizeLine; decide, fun pl npl => ⟨_, rfl, ?_⟩⟩⟩⟩
      have k4 := (k3.new (o := .tup [V.str "tail", V.str nm]) np).new (o := .tup [V.str "back"]) np2
      have k5 := k4.new (o := .lst [V.ref p, V.ref p2]) npl
      refine rnd_k k5 (by omega) (by decide) fun rT H4 hrT s4 k6 => ?_
      have gp : (upd (upd (upd G p (.tup [V.str "tail", V.str nm])) p2 (.tup [V.str "back"])) pl (.lst [V.ref p, V.ref p2])) p = some (.tup [V.str "tail", V.str nm]) := by
        rw [upd_ne (ne_of_none (by rw [upd_ne (ne_of_none upd_same np2)]; exact upd_same) npl), upd_ne (ne_of_none upd_same np2)]
        exact upd_same
      have gp2 : (upd (upd (upd G p (.tup [V.str "tail", V.str nm])) p2 (.tup [V.str "back"])) pl (.lst [V.ref p, V.ref p2])) p2 = some (.tup [V.str "back"]) := by
        rw [upd_ne (ne_of_none upd_same npl)]
        exact upd_same
      have hl : H4 pl = some (.lst [V.ref p, V.ref p2]) := k6.x.gh _ _ upd_same
      have hz : rT = 0 ∨ rT = 1 := by omega
      rcases hz with rfl | rfl
      · refine ⟨pl, _, _, V.ref p, rfl, rfl, SqL.of hl, rfl, ?_⟩
        exact q _ _ _ (.tail nm) (k6.le (by omega)) (.tup (.inl (.inl gp)) (.cons (.str _) (.cons (.str nm) .nil))) (by simp only [okS, hmk, Bool.and_eq_true, decide_eq_true_eq]; exact ⟨mN, rfl⟩) (Nat.zero_le _) c1
      · refine ⟨pl, _, _, V.ref p2, rfl, rfl, SqL.of hl, rfl, ?_⟩
        exact q _ _ _ .back (k6.le (by omega)) (.tup (.inl (.inl gp2)) (.cons (.str _) .nil)) (by simp only [okS]) (Nat.zero_le _) c1
    have g7 : 7 ≤ kd := by
      have : ¬ kd = 6 := fun z => h6 (by simp only [V.int.injEq, decide_eq_true_eq]; exact z)
      omega
    obtain ⟨d', rfl⟩ : ∃ d', d = d' + 1 := ⟨d - 1, by omega⟩
    have hj' : j - 1 = (d' : Int) := by omega
    have hkS : kS (d' + 1) = 8 + 2 * (2 + 2 * kS d') := rfl
    have hkB : kB d' 2 = 2 + 2 * kS d' := rfl
    have hcS : cS (d' + 1) = 1 + 4 * cS d' := rfl
    have tick : ∀ {i : Nat}, i ≤ 2 → i * kB d' 2 ≤ 2 * kB d' 2 := fun h => Nat.mul_le_mul_right _ h
    have ks : kS d' ≤ 44 := by
      have : d' = 0 ∨ d' = 1 := by omega
      rcases this with rfl | rfl <;> decide
    refine ⟨_, rfl, rfl, _, rfl, ite2 (fun h7 => ?_) (fun h7 => ?_)⟩
    · refine ⟨_, rfl, by decide, by decide, fun D nD => ?_⟩
      have Dg : D ≠ g := k3.ne nD
      refine lc_range (lo := 0) (n := 2) (fun i H' => ∃ (G' : Hp) (vs : List V) (bs : List (List Stp)), KS g G H G' H' (n + 6 + i * kB d' 2) ∧ H' D = some (.lst vs) ∧ G' D = none ∧ vs.length = i ∧ DqA K G' vs (bs.map fun b => .list (bodyD b)) ∧
          ∀ b ∈ bs, okB rs ns mk b = true ∧ nstB b ≤ d' ∧ cntB b ≤ 2 * cS d') ?_ ?_ ?_
      · exact ⟨G, [], [], (k3.own nD).le (by omega), upd_same, k3.gnone nD, rfl, .nil, fun b h => by cases h⟩
      · rintro i H' hi ⟨G', vs, bs, k4, hD, gD, hl, hd, hok⟩
        have := tick (Nat.le_of_lt hi)
        refine ⟨rfl, _, rfl, _, rfl, _, rfl, _, rfl, _, _, rfl, rfl, _, rfl, bod_k (most := 2) k4 (by omega) hj' (by omega) (by decide) (k4.x.gg _ _ hpr) (k4.x.gg _ _ hpn) rn fun p G5 H5 b k5 x5 hb ok5 nd5 len5 cnt5 => ?_⟩
        have gD5 : G5 D = none := (x5.ag _ _ hD).trans gD
        refine ⟨vs, x5.hh _ _ Dg hD, by rw [hl]; have e3z : (3 : Nat) < sizeLine := by decide
                                        omega, G5, vs ++ [.ref p], bs ++ [b], ?_, upd_same, gD5, by rw [List.length_append, hl]; rfl, ?_, ?_⟩
        · have : (i + 1) * kB d' 2 = i * kB d' 2 + kB d' 2 := Nat.succ_mul ..
          exact (k5.put (k3.hnone nD) gD5 Dg).le (by omega)
        · rw [List.map_append]
          exact dqa_app (hd.mono (same_ex x5.gg)) hb
        · intro c hc
          rcases List.mem_append.mp hc with hc | hc
          · exact hok c hc
          · rw [List.mem_singleton.mp hc]
            exact ⟨ok5, nd5, cnt5⟩
      · rintro H' ⟨G', vs, bs, k4, hD, gD, hl, hd, hok⟩
        obtain ⟨v1, v2, rfl⟩ : ∃ v1 v2, vs = [v1, v2] := by
          match vs, hl with
          | [v1, v2], _ => exact ⟨v1, v2, rfl⟩
        have hlb := dqa_len hd
        rw [List.length_map] at hlb
        obtain ⟨b1, b2, rfl⟩ : ∃ b1 b2, bs = [b1, b2] := by
          match bs, hlb with
          | [b1, b2], _ => exact ⟨b1, b2, rfl⟩
        obtain ⟨o1, n1, q1⟩ := hok b1 (List.mem_cons_self ..)
        obtain ⟨o2, n2, q2⟩ := hok b2 (List.mem_cons_of_mem _ (List.mem_cons_self ..))
        refine ⟨_, rfl, D, _, _, v1, rfl, rfl, SqL.of hD, rfl, _, rfl, D, _, _, v2, rfl, rfl, SqL.of hD, rfl, by show 3 ≤ sizeLine; decide, fun p np => ?_⟩
        cases hd with
        | cons d1 hd =>
          cases hd with
          | cons d2 hd =>
            refine q _ _ _ (.either b1 b2) ((k4.new np).le (by omega)) (.tup (.inl (.inl upd_same)) (.cons (.str _) (.cons (d1.mono (same_ex (Ex.new (k4.gnone np)))) (.cons (d2.mono (same_ex (Ex.new (k4.gnone np)))) .nil)))) ?_ ?_ ?_
            · simp only [okS, o1, o2, Bool.and_self]
            · simp only [nstS]
              omega
            · simp only [cntS]
              omega
    refine ⟨_, rfl, rfl, _, rfl, ite2 (fun h8 => ?_) (fun h8 => ?_)⟩
    · refine ⟨_, rfl, _, rfl, _, rfl, _, rfl, _, _, rfl, rfl, _, rfl, bod_k (most := 2) k3 (by omega) hj' (by omega) (by decide) hpr hpn rn fun p G5 H5 b k5 x5 hb ok5 nd5 len5 cnt5 => ⟨by show 2 ≤ sizeLine; decide, fun p np => ?_⟩⟩
      exact two (s := .loop b) k5 (by omega) np hb rfl (by simp only [okS]; exact ok5) (by simp only [nstS]; omega) (by simp only [cntS]; omega)
    refine ⟨_, rfl, rnd_k k3 (by omega) (by decide) fun rM H4 hrM s4 k4 => ⟨_, _, rfl, rfl, ?_⟩⟩
    refine ⟨_, rfl, _, rfl, _, rfl, _, rfl, _, rfl, _, _, rfl, rfl, _, rfl, mk, rfl, or_v (mb := decide ((0 : Int) < rM)) rfl ?_⟩
    refine bod_k (most := 2) k4 (by omega) hj' (by omega) (by decide) hpr hpn rn fun p G5 H5 b k5 x5 hb ok5 nd5 len5 cnt5 => ⟨by show 3 ≤ sizeLine; decide, fun p np => ?_⟩
    refine q _ _ _ (.block (decide ((0 : Int) < rM)) b) ((k5.new np).le (by omega)) (.tup (.inl (.inl upd_same)) (.cons (.str _) (.cons (.bl _) (.cons (hb.mono (same_ex (Ex.new (k5.gnone np)))) .nil)))) ?_ ?_ ?_
    · simp only [okS]
      exact ok5
    · simp only [nstS]
      omega
    · simp only [cntS]
      omega
theorem ok_bod {d : Nat} {fR fS : Addr} {fdR fdS : FuncData} (F : Fun K "_law_body_drawn" "_law_body_drawn" sBod f fd) (FR : FnOk P w K mg base CX0 2 fR fdR ["generator", "bound"] spRnd) (mR : mg "_law_random" = some (.ref fR)) (kR : PySem.W.keepIn K (.ref fR) = true) (bR : Binds K fdR ["generator", "bound"] [])
    (FS : FnOk P w K mg base CX0 (2 * d + 3) fS fdS ["generator", "rights", "names", "deep", "marked"] (spStp K d)) (mS : mg "_law_step_drawn" = some (.ref fS)) (kS' : PySem.W.keepIn K (.ref fS) = true) (bS : Binds K fdS ["generator", "rights", "names", "deep", "marked"] [])
    (mG : mg "range" = none) :
    FnOk P w K mg base CX0 (2 * d + 4) f fd ["generator", "rights", "names", "deep", "marked", "most"] (spBod K d) := by
  refine F.ok scBod (fun vs H Q E h => ?_) (fun cdv A outer s H vs Q E hr h => ?_)
  · skip
    obtain ⟨_, _, _, _, _, _, _, _, _, _, rfl, _⟩ := h
    rfl
  · skip
    obtain ⟨g, pr, pn, n, G, rs, ns, j, mk, most, rfl, hj, hd2, hm, hg, hn, e, n0, hpr, hpn, rn, q⟩ := h
    have r2 := hr.mono (j := 2) (by omega)
    refine ⟨_, pss_cons (ps_set (i := 6) scBod.nd rfl (Or.inl rfl) (pe_lst pa_nil))
      (pss_cons (ps_for PassesOwn.never rfl (pi_range1 (by rfl) mG (pa_cons (pe_call FR r2 rfl mR kR bR .nil pass0 (pa_cons (pv 0) (pa_cons (pe_op op_add (pv 5) pe_int) pa_nil))) pa_nil)) (pg_name (i := 7) scBod.nd rfl (Or.inl rfl))
        (pss_one (ps_expr (pe_bm PySem.F.plainAttrs_list PySem.F.slot_list_append PySem.F.type_list_append mt_append (pv 6) (pa_cons (pe_call FS hr rfl mS kS' bS .nil pass0 (pa_cons (pv 0) (pa_cons (pv 1) (pa_cons (pv 2) (pa_cons (pv 3) (pa_cons (pv 4) pa_nil)))))) pa_nil)))))
      (pss_one (ps_ret (pv 6)))), ?_⟩
    have e40 : (2 : Nat) ^ 40 = 1099511627776 := by decide
    have e50 : (2 : Nat) ^ 50 = 1125899906842624 := by decide
    have e59 : (2 : Int) ^ 59 = 576460752303423488 := by decide
    have ks : kS d ≤ 188 := by
      have : d = 0 ∨ d = 1 ∨ d = 2 := by omega
      rcases this with rfl | rfl | rfl <;> decide
    have k0 := KS.start e hg n0
    refine ⟨by show 0 ≤ sizeLine; decide, fun D nD => ?_⟩
    have k1 := k0.own (o := .lst []) nD
    have Dg : D ≠ g := k0.ne nD
    refine ⟨_, rfl, _, rfl, _, _, rfl, rfl, rnd_k k1 (by omega) (by omega) fun rM H1 hrM s1 k2 => ⟨_, rfl, by omega, by omega, ?_⟩⟩
    have tick : ∀ {i : Nat}, i ≤ most → i * kS d ≤ most * kS d := fun h => Nat.mul_le_mul_right _ h
    have tick4 : most * kS d ≤ 4 * kS d := Nat.mul_le_mul_right _ hm
    have tickc : ∀ {i : Nat}, i ≤ most → i * cS d ≤ most * cS d := fun h => Nat.mul_le_mul_right _ h
    refine for_range (lo := 0) (n := rM.toNat) (fun i σ H' => ∃ (a : Option V) (G' : Hp) (vs : List V) (b : List Stp), σ = [some (.ref g), some (.ref pr), some (.ref pn), some (.int j), some (.bl mk), some (.int most), some (.ref D), a] ∧
      KS g G H G' H' (n + 2 + i * kS d) ∧ H' D = some (.lst vs) ∧ G' D = none ∧ vs.length = i ∧ DqA K G' vs (bodyD b) ∧ okB rs ns mk b = true ∧ nstB b ≤ d ∧ cntB b ≤ i * cS d) ?_ ?_ ?_
    · refine ⟨none, G, [], [], rfl, k2.le (by omega), ?_, k0.gnone nD, rfl, by simp only [bodyD]; exact .nil, by simp only [okB], by simp only [nstB]; omega, by simp only [cntB]; omega⟩
      rw [s1 _ Dg]
      exact upd_same
    · rintro i σ H' hi ⟨a, G', vs, b, rfl, k, hD, gD, hl, hd, ok, nd, cn⟩
      have := tick (i := i) (by omega)
      have es : (i + 1) * kS d = i * kS d + kS d := Nat.succ_mul ..
      have ec : (i + 1) * cS d = i * cS d + cS d := Nat.succ_mul ..
      refine ⟨_, rfl, .inl ⟨rfl, _, SqL.of hD⟩, _, rfl, _, rfl, _, rfl, _, rfl, _, rfl, ?_⟩
      refine stp_k k (by omega) hj hd2 (k.x.gg _ _ hpr) (k.x.gg _ _ hpn) rn fun x G2 H2 s k2 x2 hx ok2 nd2 cn2 => ?_
      have gD2 : G2 D = none := (x2.ag _ _ hD).trans gD
      have e3z : (5 : Nat) < sizeLine := by decide
      refine ⟨D, vs, x, rfl, rfl, x2.hh _ _ Dg hD, by omega, _, G2, vs ++ [x], b ++ [s], rfl, (k2.put nD gD2 Dg).le (by omega), upd_same, gD2, by rw [List.length_append, hl]; rfl, ?_, ?_, ?_, ?_⟩
      · rw [bodyD_map, List.map_append, ← bodyD_map]
        exact dqa_app (hd.mono (same_ex x2.gg)) hx
      · exact okB_app ok (by simp only [okB, ok2, Bool.and_self])
      · rw [nstB_app]
        simp only [nstB]
        omega
      · rw [cntB_app]
        simp only [cntB]
        omega
    · rintro σ H' ⟨a, G', vs, b, rfl, k, hD, gD, hl, hd, ok, nd, cn⟩
      have := tick (i := rM.toNat) (by omega)
      have := tickc (i := rM.toNat) (by omega)
      have hlb := dqa_len hd
      rw [bodyD_map, List.length_map] at hlb
      refine ⟨_, rfl, q D _ _ b ((k.freeze nD gD Dg hD).le ?_) (.lst upd_same (hd.mono (same_ex (Ex.new gD)))) ok nd (by omega) (by omega)⟩
      simp only [kB]
      omega
end
end Lx

set_option Elab.async false
set_option maxRecDepth 100000
set_option linter.all false
set_option maxHeartbeats 4000000
/-! KitN: what a call lays anew, apart from all that was there; isinstance(x, list) of data; the parts of steps. -/
namespace Kx
open PySem PySem.Spec PyProof.Rows L2 Evl
def join (A B : Hp) : Hp := fun a => match A a with
  | some o => some o
  | none => B a
theorem join_l {A B : Hp} : Ex A (join A B) := fun a o h => by unfold join; rw [h]
theorem join_r {A B : Hp} {a : Addr} {o : HO} (h : B a = some o) (n : A a = none) : join A B a = some o := by unfold join; rw [n]; exact h
theorem join_inv {A B : Hp} {a : Addr} {o : HO} (h : join A B a = some o) : A a = some o ∨ (A a = none ∧ B a = some o) := by
  unfold join at h
  cases e : A a with
  | none => rw [e] at h; exact .inr ⟨rfl, h⟩
  | some u => rw [e] at h; exact .inl h
theorem join_none {A B : Hp} {a : Addr} (h : A a = none) (h' : B a = none) : join A B a = none := by unfold join; rw [h]; exact h'
/-- from H to H2 nothing was written; M is new -/
structure New (H H2 M : Hp) : Prop where
  hh : Ex H H2
  mh : Ex M H2
  fr : ∀ a o, H a = some o → M a = none
def emp : Hp := fun _ => none
section
variable {H H1 H2 M M1 M2 G : Hp} {p : Addr} {o : HO}
theorem New.refl : New H H emp := ⟨Ex.refl H, fun a o h => (nomatch h), fun _ _ _ => rfl⟩
theorem New.dis (b : New H1 H2 M2) (h : Ex M1 H1) {a : Addr} {o : HO} (e : M1 a = some o) : M2 a = none := b.fr a o (h a o e)
theorem New.trans (a : New H H1 M1) (b : New H1 H2 M2) : New H H2 (join M1 M2) :=
  ⟨a.hh.trans b.hh, fun x o h => by
    rcases join_inv h with h | ⟨_, h⟩
    · exact b.hh x o (a.mh x o h)
    · exact b.mh x o h, fun x o h => join_none (a.fr x o h) (b.fr x o (a.hh x o h))⟩
theorem New.right (a : New H H1 M1) (b : New H1 H2 M2) : Ex M2 (join M1 M2) := fun x o h => by
  refine join_r h ?_
  cases e : M1 x with
  | none => rfl
  | some u => rw [b.fr x u (a.mh x u e)] at h; cases h
theorem New.none (a : New H H2 M) (h : H2 p = .none) : M p = .none := by
  cases e : M p with
  | none => rfl
  | some u => rw [a.mh p u e] at h; cases h
theorem New.put (a : New H H2 M) (h : H2 p = .none) : New H (upd H2 p o) (upd M p o) :=
  ⟨a.hh.trans (Ex.new h), fun x u e => by
    by_cases z : x = p
    · rw [z, upd_same] at e ⊢
      exact e
    · rw [upd_ne z] at e ⊢
      exact a.mh x u e, fun x u e => by
    rw [upd_ne (ne_of_none (a.hh x u e) h)]
    exact a.fr x u e⟩
/-- a thing that is laid and forgotten -/
theorem New.own (a : New H H2 M) (h : H2 p = .none) : New H (upd H2 p o) M := ⟨a.hh.trans (Ex.new h), a.mh.trans (Ex.new h), a.fr⟩
theorem New.more (a : New H H2 M) (e : Ex H2 H1) : New H H1 M := ⟨a.hh.trans e, a.mh.trans e, a.fr⟩
theorem New.hnone (a : New H H2 M) (h : H2 p = .none) : H p = .none := fresh_back a.hh h
/-- our own object is written -/
theorem New.wr (a : New H H2 M) (h : H p = .none) (n : M p = .none) : New H (upd H2 p o) M :=
  ⟨fun x u e => by rw [upd_ne (ne_of_none e h)]; exact a.hh x u e, fun x u e => by rw [upd_ne (ne_of_none e n)]; exact a.mh x u e, a.fr⟩
/-- our own object belongs to what is new -/
theorem New.frz (a : New H H2 M) (h : H p = .none) (e : H2 p = some o) : New H H2 (upd M p o) :=
  ⟨a.hh, fun x u q => by
    by_cases z : x = p
    · rw [z, upd_same] at q
      rw [z, e]
      exact q
    · rw [upd_ne z] at q
      exact a.mh x u q, fun x u q => by
    rw [upd_ne (ne_of_none q h)]
    exact a.fr x u q⟩
theorem New.ext (a : New H H2 M) (e : Ex G H) : Ext G H (join G M) H2 :=
  ⟨a.hh, join_l, fun x o h => by
    rcases join_inv h with h | ⟨_, h⟩
    · exact a.hh x o (e x o h)
    · exact a.mh x o h, fun x o h => by
    unfold join
    rw [a.fr x o h]
    cases G x <;> rfl⟩
theorem New.exr (a : New H H2 M) (e : Ex G H) : Ex M (join G M) := fun x o h => by
  refine join_r h ?_
  cases q : G x with
  | none => rfl
  | some u => rw [a.fr x u (e x u q)] at h; cases h
end
/-! ### kinds of data -/
def tyN : PyData → String
  | .none => "NoneType"
  | .bool _ => "bool"
  | .int _ => "int"
  | .str _ => "str"
  | .list _ => "list"
  | .tuple _ => "tuple"
  | .dict _ => "dict"
theorem sqt_tyx {K : PySem.W.Frag} {H : Hp} {a : Addr} {xs : List V} (h : SqT K H a xs) : TyX K H (.ref a) (.type "tuple") := by
  rcases h with (h | ⟨o, h⟩) | ⟨o, _, _, hk, hc, _⟩
  · exact .base (.tup h)
  · exact .fTuple h
  · exact .kTuple hk hc
theorem dq_tyx {K : PySem.W.Frag} {H : Hp} {v : V} {d : PyData} (h : Dq K H v d) : TyX K H v (.type (tyN d)) := by
  cases h with
  | non => exact .base .non
  | bl b => exact .base (.bl b)
  | int i => exact .base (.int i)
  | str x => exact .base (.str x)
  | lst h _ => exact .base (.lst h)
  | tup h _ => exact sqt_tyx h
  | dic h _ => exact .base (.dK h)
def isLst : PyData → Bool
  | .list _ => true
  | _ => false
theorem isi_l {K : PySem.W.Frag} {H : Hp} {v : V} {d : PyData} {Q : VK} (h : Dq K H v d) (q : Q (.bl (isLst d)) H) : rIsiS K [v, .ty "list"] H Q :=
  ⟨v, _, _, _, _, rfl, .ty _, dq_tyx h, kit_ty (by cases h <;> rfl), q⟩
end Kx
namespace Kx
open PySem PySem.Spec PyProof.Rows L2 Evl
/-! ### the parts of a step -/
def partsP : Stp → List (PyData × Option (List Stp))
  | .call n => [(.str "call", none), (.str n, none)]
  | .tail n => [(.str "tail", none), (.str n, none)]
  | .check r => [(.str "check", none), (.str r, none)]
  | .back => [(.str "back", none)]
  | .either a b => [(.str "either", none), (.list (bodyD a), some a), (.list (bodyD b), some b)]
  | .loop b => [(.str "loop", none), (.list (bodyD b), some b)]
  | .block m b => [(.str "block", none), (.bool m, none), (.list (bodyD b), some b)]
theorem stpD_parts (s : Stp) : stpD s = .tuple ((partsP s).map (·.1)) := by cases s <;> simp only [stpD, partsP, List.map]
theorem parts_ok {s : Stp} {d : PyData} {o : Option (List Stp)} (h : (d, o) ∈ partsP s) : (isLst d = false ∧ o = none) ∨ ∃ b, d = .list (bodyD b) ∧ o = some b ∧ nstB b + 1 ≤ nstS s ∧ cntB b ≤ cntS s := by
  cases s <;> simp only [partsP, List.mem_cons, List.not_mem_nil, or_false, Prod.mk.injEq] at h
  case call => rcases h with ⟨rfl, rfl⟩ | ⟨rfl, rfl⟩ <;> exact .inl ⟨rfl, rfl⟩
  case tail => rcases h with ⟨rfl, rfl⟩ | ⟨rfl, rfl⟩ <;> exact .inl ⟨rfl, rfl⟩
  case check => rcases h with ⟨rfl, rfl⟩ | ⟨rfl, rfl⟩ <;> exact .inl ⟨rfl, rfl⟩
  case back => rcases h with ⟨rfl, rfl⟩; exact .inl ⟨rfl, rfl⟩
  case either =>
    rcases h with ⟨rfl, rfl⟩ | ⟨rfl, rfl⟩ | ⟨rfl, rfl⟩
    · exact .inl ⟨rfl, rfl⟩
    · exact .inr ⟨_, rfl, rfl, by simp only [nstS]; omega, by simp only [cntS]; omega⟩
    · exact .inr ⟨_, rfl, rfl, by simp only [nstS]; omega, by simp only [cntS]; omega⟩
  case loop =>
    rcases h with ⟨rfl, rfl⟩ | ⟨rfl, rfl⟩
    · exact .inl ⟨rfl, rfl⟩
    · exact .inr ⟨_, rfl, rfl, by simp only [nstS]; omega, by simp only [cntS]; omega⟩
  case block =>
    rcases h with ⟨rfl, rfl⟩ | ⟨rfl, rfl⟩ | ⟨rfl, rfl⟩
    · exact .inl ⟨rfl, rfl⟩
    · exact .inl ⟨rfl, rfl⟩
    · exact .inr ⟨_, rfl, rfl, by simp only [nstS]; omega, by simp only [cntS]; omega⟩
theorem cnt_parts (s : Stp) : cntS s = 1 + (((partsP s).filterMap (·.2)).map cntB).sum := by
  cases s <;> simp [partsP, cntS] <;> omega
theorem nst_mem {s : Stp} : ∀ {b : List Stp}, s ∈ b → nstS s ≤ nstB b
  | t :: r, h => by
    simp only [nstB]
    rcases List.mem_cons.mp h with rfl | h
    · omega
    · have := nst_mem h
      omega
theorem cnt_mem {s : Stp} : ∀ {b : List Stp}, s ∈ b → cntS s ≤ cntB b
  | t :: r, h => by
    simp only [cntB]
    rcases List.mem_cons.mp h with rfl | h
    · omega
    · have := cnt_mem h
      omega
theorem dqa_get {K : PySem.W.Frag} {H : Hp} : ∀ {vs : List V} {ds : List PyData} {i : Nat} {v : V}, DqA K H vs ds → vs[i]? = some v → ∃ d, ds[i]? = some d ∧ Dq K H v d
  | _, _, 0, _, .cons a _, h => ⟨_, rfl, by simp only [List.getElem?_cons_zero] at h; rw [← Option.some.inj h]; exact a⟩
  | _, _, i + 1, _, .cons _ b, h => by
    simp only [List.getElem?_cons_succ] at h ⊢
    exact dqa_get b h
theorem cntB_take {b : List Stp} {i : Nat} {s : Stp} (h : b[i]? = some s) : cntB (b.take (i + 1)) = cntB (b.take i) + cntS s := by
  rw [List.take_succ, h, cntB_app]
  simp only [Option.toList, cntB, Nat.add_zero]
theorem body_get {K : PySem.W.Frag} {H : Hp} {xs : List V} {b : List Stp} {i : Nat} {v : V} (h : DqA K H xs (bodyD b)) (hi : xs[i]? = some v) : ∃ s, b[i]? = some s ∧ Dq K H v (stpD s) := by
  obtain ⟨d, h1, h2⟩ := dqa_get h hi
  rw [bodyD_map, List.getElem?_map] at h1
  cases e : b[i]? with
  | none => rw [e] at h1; cases h1
  | some s => rw [e] at h1; exact ⟨s, rfl, by rw [← Option.some.inj h1] at h2; exact h2⟩
theorem step_at {K : PySem.W.Frag} {H : Hp} {v : V} {s : Stp} (h : Dq K H v (stpD s)) : ∃ a ys, v = .ref a ∧ SqT K H a ys ∧ DqA K H ys ((partsP s).map (·.1)) := by
  rw [stpD_parts] at h
  cases h with
  | tup h1 h2 => exact ⟨_, _, rfl, h1, h2⟩
theorem part_get {K : PySem.W.Frag} {H : Hp} {ys : List V} {s : Stp} {j : Nat} {v : V} (h : DqA K H ys ((partsP s).map (·.1))) (hj : ys[j]? = some v) : ∃ pr, (partsP s)[j]? = some pr ∧ Dq K H v pr.1 := by
  obtain ⟨d, h1, h2⟩ := dqa_get h hj
  rw [List.getElem?_map] at h1
  cases e : (partsP s)[j]? with
  | none => rw [e] at h1; cases h1
  | some s => rw [e] at h1; exact ⟨s, rfl, by rw [← Option.some.inj h1] at h2; exact h2⟩
def flatD : PyData → Bool
  | .none => true
  | .bool _ => true
  | .int _ => true
  | .str _ => true
  | _ => false
theorem parts_flat {s : Stp} {pr : PyData × Option (List Stp)} (h : pr ∈ partsP s) (n : isLst pr.1 = false) : flatD pr.1 = true := by
  cases s <;> simp only [partsP, List.mem_cons, List.not_mem_nil, or_false] at h
  case call => rcases h with rfl | rfl <;> rfl
  case tail => rcases h with rfl | rfl <;> rfl
  case check => rcases h with rfl | rfl <;> rfl
  case back => rcases h with rfl; rfl
  case either => rcases h with rfl | rfl | rfl <;> first | rfl | cases n
  case loop => rcases h with rfl | rfl <;> first | rfl | cases n
  case block => rcases h with rfl | rfl | rfl <;> first | rfl | cases n
theorem flat_dq {K : PySem.W.Frag} {H H' : Hp} {v : V} {d : PyData} (h : flatD d = true) (hv : Dq K H v d) : Dq K H' v d := by
  cases hv with
  | non => exact .non
  | bl b => exact .bl b
  | int i => exact .int i
  | str x => exact .str x
  | _ => cases h
theorem cnt_one (s : Stp) : 1 ≤ cntS s := by cases s <;> simp only [cntS] <;> omega
theorem len_cnt : ∀ b : List Stp, b.length ≤ cntB b
  | [] => Nat.zero_le _
  | s :: r => by
    have := len_cnt r
    have := cnt_one s
    simp only [List.length_cons, cntB]
    omega
mutual
theorem okS_mono {rs rs' ns ns' : List Str} (hr : ∀ x ∈ rs, x ∈ rs') (hn : ∀ x ∈ ns, x ∈ ns') : ∀ {mk : Bool} {s : Stp}, okS rs ns mk s = true → okS rs' ns' mk s = true
  | _, .call n, h => by simp only [okS, decide_eq_true_eq] at h ⊢; exact hn n h
  | _, .tail n, h => by simp only [okS, Bool.and_eq_true, decide_eq_true_eq] at h ⊢; exact ⟨hn n h.1, h.2⟩
  | _, .check r, h => by simp only [okS, decide_eq_true_eq] at h ⊢; exact hr r h
  | _, .back, _ => by simp only [okS]
  | _, .either a b, h => by simp only [okS, Bool.and_eq_true] at h ⊢; exact ⟨okB_mono hr hn h.1, okB_mono hr hn h.2⟩
  | _, .loop b, h => by simp only [okS] at h ⊢; exact okB_mono hr hn h
  | _, .block m b, h => by simp only [okS] at h ⊢; exact okB_mono hr hn h
theorem okB_mono {rs rs' ns ns' : List Str} (hr : ∀ x ∈ rs, x ∈ rs') (hn : ∀ x ∈ ns, x ∈ ns') : ∀ {mk : Bool} {b : List Stp}, okB rs ns mk b = true → okB rs' ns' mk b = true
  | _, [], _ => by simp only [okB]
  | _, s :: r, h => by simp only [okB, Bool.and_eq_true] at h ⊢; exact ⟨okS_mono hr hn h.1, okB_mono hr hn h.2⟩
end
/-! ### programs' parts -/
abbrev Fn := Str × Str × List Stp
def fnD (f : Fn) : PyData := .tuple [.str f.1, .str f.2.1, .list (bodyD f.2.2)]
def names4 : List Str := ["main", "f", "g", "h"]
structure Prt where
  rs : List Str
  os : List Own
  fs : List Fn
def prtD (p : Prt) : PyData := .list [strsD p.rs, .list (p.os.map ownD), .list (p.fs.map fnD)]
def fnOk (rs : List Str) (os : List Own) (ns : List Str) (f : Fn) : Prop := f.2.1 ∈ os.map (·.1) ∧ okB rs ns false f.2.2 = true ∧ nstB f.2.2 ≤ 2 ∧ cntB f.2.2 ≤ 12
structure PrtOk (many : Nat) (p : Prt) : Prop where
  rs : ∃ k, k < 3 ∧ p.rs = rights3.take (k + 1)
  os : OwnsOk p.rs p.os
  ns : p.fs.map (·.1) = names4.take many
  fs : ∀ f ∈ p.fs, fnOk p.rs p.os (names4.take many) f
theorem sIx_hi {n : Nat} {d : Nat} : HT.sIx n d (some (-1)) = n - 1 := by
  unfold HT.sIx
  simp only
  split <;> omega
theorem cut_last (xs : List V) : cutV xs none (some (-1)) = xs.take (xs.length - 1) := by
  unfold cutV
  rw [sIx_hi]
  rfl
theorem dqa_take {K : PySem.W.Frag} {H : Hp} : ∀ {vs : List V} {ds : List PyData} (i : Nat), DqA K H vs ds → DqA K H (vs.take i) (ds.take i)
  | _, _, 0, _ => .nil
  | _, _, i + 1, .nil => .nil
  | _, _, i + 1, .cons a b => .cons a (dqa_take i b)
theorem nstB_take : ∀ {b : List Stp} {i : Nat}, nstB (b.take i) ≤ nstB b
  | b, 0 => by rw [List.take_zero]; simp only [nstB]; omega
  | [], i + 1 => Nat.le_refl _
  | s :: r, i + 1 => by
    have := nstB_take (b := r) (i := i)
    rw [List.take_succ_cons]
    simp only [nstB]
    omega
theorem cntB_takeLe : ∀ {b : List Stp} {i : Nat}, cntB (b.take i) ≤ cntB b
  | b, 0 => by rw [List.take_zero]; simp only [cntB]; omega
  | [], i + 1 => Nat.le_refl _
  | s :: r, i + 1 => by
    have := cntB_takeLe (b := r) (i := i)
    rw [List.take_succ_cons]
    simp only [cntB]
    omega
theorem okB_take {rs ns : List Str} {mk : Bool} {b : List Stp} {i : Nat} (h : okB rs ns mk b = true) : okB rs ns mk (b.take i) = true := okB_of fun _ hs => okB_mem h (List.mem_of_mem_take hs)
end Kx

set_option Elab.async false
set_option maxRecDepth 100000
set_option linter.all false
set_option maxHeartbeats 4000000
/-! KitS: any data beside a text: x == text, text == x, x in [texts], xs.count(text). -/
namespace Kx
open PySem PySem.Spec PyProof.Rows L2 Evl SeqAt AutoSeq1 MeetsSeq
theorem dict_eq_declines_str (l : Addr) (es : Array DictEntry) (n : Nat) (dd : Option Addr) (sl : Array (Option Value)) (b : Str) (u : Tok) :
    Meets (Builtin.«dict.__eq__» ⟨[.ref l, .str b u], []⟩) (fun _ R s => s.heap.get? l = some { cls := .type "dict", dict := dd, data := .dict es n, slots := sl } ∧ R (.ok (.ret .notImplemented)) s) :=
  .of_wp fun prog w A R s h => by obtain ⟨hp, g, d, tk, os⟩ := s; obtain ⟨hl, h⟩ := h; have f1 := F.sub_str_dict; wp_walk using wpAny_loadPart' hl; exact ⟨_, rfl, h⟩
theorem str_eq_declines_dict (b : Str) (u : Tok) (l : Addr) (es : Array DictEntry) (n : Nat) (dd : Option Addr) (sl : Array (Option Value)) :
    Meets (Builtin.«str.__eq__» ⟨[.str b u, .ref l], []⟩) (fun _ R s => s.heap.get? l = some { cls := .type "dict", dict := dd, data := .dict es n, slots := sl } ∧ R (.ok (.ret .notImplemented)) s) :=
  .of_wp fun prog w A R s h => by obtain ⟨hp, g, d, tk, os⟩ := s; obtain ⟨hl, h⟩ := h; wp_walk using wpAny_loadPart' hl, wpAny_load hl; exact ⟨_, rfl, h⟩
section
variable {A : Around} {s : Shared}
theorem rc_dict_str {l : Addr} {o : Obj} {es : Array DictEntry} {n : Nat} (b : Str) (u : Tok) (ho : s.heap.get? l = some o) (hc : o.cls = .type "dict") (hd : o.data = .dict es n) (hu : A.units < cLine) : RcAt A s (.ref l) (.str b u) false := fun prog w E Q h => by
  obtain ⟨cls, dd, data, sl⟩ := o
  simp only at hc hd
  subst hc hd
  exact rc_eq_decline_or (k := false) ⟨_, ho, rfl⟩ (typeIs_str s b u) (by decide) F.sub_str_dict F.slot_dict_eq F.slot_str_eq_refl
    (fun _ hq => call_meets F.slot_dict_eq ⟨_, ho, rfl⟩ F.entry_dict_eq (F.args_dict_eq_2 _ _) (dict_eq_declines_str l es n dd sl b u) ⟨ho, hq⟩)
    (fun _ hq => call_meets F.slot_str_eq_refl (typeIs_str s b u) F.entry_str_eq (F.args_str_eq_2 _ _) (str_eq_declines_dict b u l es n dd sl) ⟨ho, hq⟩)
    (fun _ hq => wpAny_of_eq (rfl : isSame (.ref l) (.str b u) = pure false) hq) (.inr hu) h
theorem rc_str_dict {l : Addr} {o : Obj} {es : Array DictEntry} {n : Nat} (b : Str) (u : Tok) (ho : s.heap.get? l = some o) (hc : o.cls = .type "dict") (hd : o.data = .dict es n) (hu : A.units < cLine) : RcAt A s (.str b u) (.ref l) false := fun prog w E Q h => by
  obtain ⟨cls, dd, data, sl⟩ := o
  simp only at hc hd
  subst hc hd
  exact rc_eq_decline_or (k := false) (typeIs_str s b u) ⟨_, ho, rfl⟩ (by decide) F.sub_dict_str F.slot_str_eq F.slot_dict_eq_refl
    (fun _ hq => call_meets F.slot_str_eq (typeIs_str s b u) F.entry_str_eq (F.args_str_eq_2 _ _) (str_eq_declines_dict b u l es n dd sl) ⟨ho, hq⟩)
    (fun _ hq => call_meets F.slot_dict_eq_refl ⟨_, ho, rfl⟩ F.entry_dict_eq (F.args_dict_eq_2 _ _) (dict_eq_declines_str l es n dd sl b u) ⟨ho, hq⟩)
    (fun _ hq => wpAny_of_eq (rfl : isSame (.str b u) (.ref l) = pure false) hq) (.inr hu) h
theorem eq_dict_str {l : Addr} {o : Obj} {es : Array DictEntry} {n : Nat} (b : Str) (u : Tok) (ho : s.heap.get? l = some o) (hc : o.cls = .type "dict") (hd : o.data = .dict es n) (hu : A.units < cLine) : EqAt A s (.ref l) (.str b u) false := fun prog w E Q h => by
  unfold eqBool
  refine wpAny_holding ?_
  refine wpAny_ite_split (fun hab => absurd (eq_of_beq hab) nofun) (fun _ => ?_)
  exact wpAny_bind (rc_dict_str b u ho hc hd hu prog w E _ (wpAny_truthy_bool h))
theorem eq_str_dict {l : Addr} {o : Obj} {es : Array DictEntry} {n : Nat} (b : Str) (u : Tok) (ho : s.heap.get? l = some o) (hc : o.cls = .type "dict") (hd : o.data = .dict es n) (hu : A.units < cLine) : EqAt A s (.str b u) (.ref l) false := fun prog w E Q h => by
  unfold eqBool
  refine wpAny_holding ?_
  refine wpAny_ite_split (fun hab => absurd (eq_of_beq hab) nofun) (fun _ => ?_)
  exact wpAny_bind (rc_str_dict b u ho hc hd hu prog w E _ (wpAny_truthy_bool h))
def eqS (d : PyData) (x : Str) : Bool := match d with
  | .str y => y == x
  | _ => false
theorem isL {l : Addr} {o : Obj} {vs : Array Value} {n : Nat} (ho : s.heap.get? l = some o) (hc : o.cls = .type "list") (hd : o.data = .seq vs n) : s.heap.IsList l vs := ⟨o, ho, hc, n, hd⟩
theorem isT {l : Addr} {o : Obj} {vs : Array Value} {n : Nat} (ho : s.heap.get? l = some o) (hc : o.cls = .type "tuple") (hd : o.data = .seq vs n) : s.heap.IsTuple l vs := ⟨o, ho, hc, n, hd⟩
theorem rd_rcS {u : Value} {d : PyData} {as : List Addr} (x : Str) (t : Tok) (hu : A.units < cLine) (h : Reads s.heap u d as) : RcAt A s u (.str x t) (eqS d x) := by
  cases h with
  | none => exact RcAt.none_str x t
  | bool b => exact RcAt.bool_str b x t
  | int i k => exact RcAt.int_str i k x t
  | str y k => exact RcAt.str_str y k x t
  | list ho hc hd _ => exact RcAt.list_str x t (isL ho hc hd) hu
  | tuple ho hc hd _ => exact RcAt.tuple_str x t (isT ho hc hd) hu
  | dict ho hc hd _ _ => exact rc_dict_str x t ho hc hd hu
theorem rd_eqS {u : Value} {d : PyData} {as : List Addr} (x : Str) (t : Tok) (hu : A.units < cLine) (h : Reads s.heap u d as) : EqAt A s u (.str x t) (eqS d x) := by
  cases h with
  | none => exact EqAt.none_str x t
  | bool b => exact EqAt.bool_str b x t
  | int i k => exact EqAt.int_str i k x t
  | str y k => exact EqAt.str_str y k x t
  | list ho hc hd _ => exact EqAt.list_str x t (isL ho hc hd) hu
  | tuple ho hc hd _ => exact EqAt.tuple_str x t (isT ho hc hd) hu
  | dict ho hc hd _ _ => exact eq_dict_str x t ho hc hd hu
theorem beq_flip {x y : Str} : (x == y) = (y == x) := by
  rw [Bool.eq_iff_iff, beq_iff_eq, beq_iff_eq]
  exact ⟨Eq.symm, Eq.symm⟩
theorem rd_Seq {u : Value} {d : PyData} {as : List Addr} (x : Str) (t : Tok) (hu : A.units < cLine) (h : Reads s.heap u d as) : EqAt A s (.str x t) u (eqS d x) := by
  cases h with
  | none => exact EqAt.str_none x t
  | bool b => exact EqAt.str_bool x t b
  | int i k => exact EqAt.str_int x t i k
  | str y k =>
    have := EqAt.str_str (A := A) (s := s) x t y k
    rw [beq_flip] at this
    exact this
  | list ho hc hd _ => exact EqAt.str_list x t (isL ho hc hd) hu
  | tuple ho hc hd _ => exact EqAt.str_tuple x t (isT ho hc hd) hu
  | dict ho hc hd _ _ => exact eq_str_dict x t ho hc hd hu
end
section
variable {X : Cx} {pins : List (Addr × Obj)} {σ : L2.St} {H : Hp} {s : Shared}
mutual
theorem Dq.rd (I : Inv X pins σ H s) : ∀ {d : PyData} {v : V} {u : Value}, Dq X.K H v d → RelV v u → ∃ as, Reads s.heap u d as
  | _, _, _, .non, r => by cases r; exact ⟨_, Reads.none⟩
  | _, _, _, .bl b, r => by cases r; exact ⟨_, Reads.bool b⟩
  | _, _, _, .int i, r => by obtain ⟨t, rfl⟩ := r; exact ⟨_, Reads.int i t⟩
  | _, _, _, .str x, r => by obtain ⟨t, rfl⟩ := r; exact ⟨_, Reads.str x t⟩
  | _, _, _, .lst (a := a) h q, r => by
    cases r
    obtain ⟨_, its, n, rv, ho⟩ := (show ObjOk X.prog X.w H s.heap a (.lst _) from I.hok a _ h)
    obtain ⟨as, hr⟩ := DqA.rd I q rv
    exact ⟨_, Reads.list ho rfl rfl hr⟩
  | _, _, _, .tup h q, r => by
    cases r
    obtain ⟨its, rv, ⟨o, ho, hc, n, hd⟩, _⟩ := I.tuple h
    obtain ⟨as, hr⟩ := DqA.rd I q rv
    exact ⟨_, Reads.tuple ho hc hd hr⟩
  | _, _, _, .dic (a := a) h q, r => by
    cases r
    obtain ⟨_, ha, vs, rv, o, es, ep, ho, hx, hd, _, hp, _⟩ := (show ObjOk X.prog X.w H s.heap a (.dK _) from I.hok a _ h)
    obtain ⟨as, bs, h1, h2⟩ := DqD.rd I q rv hp
    exact ⟨_, Reads.dict ho hx.1 hd h1 h2⟩
theorem DqA.rd (I : Inv X pins σ H s) : ∀ {ds : List PyData} {vs : List V} {us : List Value}, DqA X.K H vs ds → Vals vs us → ∃ as, ReadsAll s.heap us ds as
  | _, _, _, .nil, r => by cases r; exact ⟨_, ReadsAll.nil⟩
  | _, _, _, .cons a b, r => by
    cases r with
    | cons r1 r2 =>
      obtain ⟨as, h1⟩ := Dq.rd I a r1
      obtain ⟨bs, h2⟩ := DqA.rd I b r2
      exact ⟨_, ReadsAll.cons h1 h2⟩
theorem DqD.rd (I : Inv X pins σ H s) : ∀ {ds : List (PyData × PyData)} {kvs : List (Key × V)} {vs : List (Key × Value)} {es : List DictEntry}, DqD X.K H kvs ds → KV kvs vs →
    Pairs (mixKind X.prog X.w) es vs → ∃ as bs, ReadsAll s.heap (es.map (·.key)) (ds.map (·.1)) as ∧ ReadsAll s.heap (es.map (·.val)) (ds.map (·.2)) bs
  | _, _, _, _, .nil, r, p => by
    cases r
    cases p
    exact ⟨_, _, ReadsAll.nil, ReadsAll.nil⟩
  | _, _, _, _, .cons a b, r, p => by
    cases r with
    | cons r1 r2 =>
      cases p with
      | cons p1 p2 p3 =>
        obtain ⟨e1, e2⟩ := r1
        obtain ⟨as, h1⟩ := Dq.rd I a (p2 ▸ e2)
        obtain ⟨bs, cs, h2, h3⟩ := DqD.rd I b r2 p3
        exact ⟨_, _, ReadsAll.cons (key_reads (by rw [← e1] at p1; exact p1)) h2, ReadsAll.cons h1 h3⟩
end
end
/-- x == text -/
def rEqS (K : PySem.W.Frag) : R2 := fun x y H Q => ∃ (d : PyData) (z : Str), Dq K H x d ∧ y = .str z ∧ Q (.bl (eqS d z)) H
theorem op_eqS {X : Cx} (hu : X.A.units < cLine) : OpR X (compareOp .Eq) (rEqS X.K) := by
  intro pins s σ H x y v u Q I rx ry h
  obtain ⟨d, z, hd, rfl, q⟩ := h
  obtain ⟨t, rfl⟩ := ry
  obtain ⟨as, hr⟩ := Dq.rd I hd rx
  exact rd_rcS z t hu hr X.prog X.w X.xe _ ⟨.bl _, H, I, rfl, q⟩
/-- the values of a list of texts, as one compares them -/
def strV (d : PyData) (v : Value) : Bool := match v with
  | .str y _ => eqS d y
  | _ => false
theorem strs_any {d : PyData} : ∀ {ws : List Str} {us : List Value}, Vals (ws.map V.str) us → us.any (strV d) = ws.any (eqS d)
  | [], _, h => by cases h; rfl
  | w :: ws, _, h => by
    cases h with
    | cons a b =>
      obtain ⟨t, rfl⟩ := a
      rw [List.any_cons, List.any_cons, strs_any b]
      rfl
theorem strs_mem {ws : List Str} : ∀ {us : List Value}, Vals (ws.map V.str) us → ∀ y ∈ us, ∃ w t, y = .str w t := by
  induction ws with
  | nil => intro us h y hy; cases h; cases hy
  | cons w ws ih =>
    intro us h y hy
    cases h with
    | cons a b =>
      rcases List.mem_cons.mp hy with rfl | hy
      · obtain ⟨t, rfl⟩ := a
        exact ⟨w, t, rfl⟩
      · exact ih b y hy
def rInS (K : PySem.W.Frag) (neg : Bool) : R2 := fun x y H Q => ∃ (d : PyData) (ws : List Str) (p : Addr), Dq K H x d ∧ y = .ref p ∧ SqL K H p (ws.map V.str) ∧ Q (.bl (cond neg (!ws.any (eqS d)) (ws.any (eqS d)))) H
theorem op_inTs {X : Cx} (hu : X.A.units + 1 < cLine) : OpR X (compareOp .In) (rInS X.K false) := by
  intro pins s σ H x y v u Q I rx ry h
  obtain ⟨d, ws, p, hd, rfl, hs, q⟩ := h
  cases ry
  obtain ⟨as, hr⟩ := Dq.rd I hd rx
  obtain ⟨its, rv, hl, _⟩ := I.list hs
  refine in_listAt (strV d) hl.isList (fun z hz => ?_) ⟨.bl _, H, I, rfl, ?_⟩
  · obtain ⟨w, t, rfl⟩ := strs_mem rv z (by simpa using hz)
    exact rd_Seq w t hu hr
  · rw [List.any_toArray, strs_any rv]
    simpa using q
theorem op_notInTs {X : Cx} (hu : X.A.units + 1 < cLine) : OpR X (compareOp .NotIn) (rInS X.K true) := by
  intro pins s σ H x y v u Q I rx ry h
  obtain ⟨d, ws, p, hd, rfl, hs, q⟩ := h
  cases ry
  obtain ⟨as, hr⟩ := Dq.rd I hd rx
  obtain ⟨its, rv, hl, _⟩ := I.list hs
  refine notIn_listAt (strV d) hl.isList (fun z hz => ?_) ⟨.bl _, H, I, rfl, ?_⟩
  · obtain ⟨w, t, rfl⟩ := strs_mem rv z (by simpa using hz)
    exact rd_Seq w t hu hr
  · rw [List.any_toArray, strs_any rv]
    simpa using q
/-- xs.count(text), xs any data -/
def rCntS (K : PySem.W.Frag) : V → List V → Hp → VK → Prop := fun x xs H Q => ∃ (p : Addr) (vs : List V) (ds : List PyData) (z : Str), x = .ref p ∧ xs = [.str z] ∧ SqL K H p vs ∧ DqA K H vs ds ∧ Q (.int ((ds.countP fun d => eqS d z : Nat))) H
theorem cnt_reads {A : Around} {s : Shared} {z : Str} {t : Tok} (hu : A.units < cLine) : ∀ {us : List Value} {ds : List PyData} {as : List Addr}, ReadsAll s.heap us ds as → ∃ e : Value → Bool, (∀ y ∈ us, EqAt A s y (.str z t) (e y)) ∧ us.countP e = ds.countP fun d => eqS d z := by
  intro us
  classical
  intro ds as h
  have all : ∀ {us : List Value} {ds : List PyData} {as : List Addr}, ReadsAll s.heap us ds as → ∀ e : Value → Bool, (∀ y d as', Reads s.heap y d as' → e y = eqS d z) → us.countP e = ds.countP fun d => eqS d z := by
    intro us
    induction us with
    | nil => intro ds as h e _; cases h; rfl
    | cons u us ih =>
      intro ds as h e he
      cases h with
      | cons a b =>
        rw [List.countP_cons, List.countP_cons, ih b e he, he _ _ _ a]
  have mem : ∀ {us : List Value} {ds : List PyData} {as : List Addr}, ReadsAll s.heap us ds as → ∀ y ∈ us, ∃ d as', Reads s.heap y d as' := by
    intro us
    induction us with
    | nil => intro ds as h y hy; cases hy
    | cons u us ih =>
      intro ds as h y hy
      cases h with
      | cons a b =>
        rcases List.mem_cons.mp hy with rfl | hy
        · exact ⟨_, _, a⟩
        · exact ih b y hy
  let e : Value → Bool := fun v => match v with
    | .str y _ => y == z
    | _ => false
  have he : ∀ y d as', Reads s.heap y d as' → e y = eqS d z := fun y d as' h => by cases h <;> rfl
  refine ⟨e, fun y hy => ?_, all h e he⟩
  obtain ⟨d, as', hr⟩ := mem h y hy
  rw [he y d as' hr]
  exact rd_eqS z t hu hr
theorem mt_countS {X : Cx} (hu : X.A.units + 1 < cLine) : MtR X "list.count" (rCntS X.K) := by
  intro pins s σ H x xs v us Q I rx rxs h
  obtain ⟨p, vs, ds, z, rfl, rfl, hs, hd, q⟩ := h
  cases rx
  obtain ⟨u, rfl, ru⟩ := rxs.one
  obtain ⟨t, rfl⟩ := ru
  obtain ⟨its, rv, ⟨⟨cls, dd, data, sl⟩, n, ho, hc, hdn, hdt⟩, hlen⟩ := I.list hs
  simp only at hc hdt
  subst hc hdt
  obtain ⟨as, hr⟩ := DqA.rd I hd rv
  obtain ⟨e, h1, h2⟩ := cnt_reads (A := X.A.in1) (z := z) (t := t) hu hr
  refine call_meets PySem.F.slot_list_count ⟨_, ho, rfl⟩ PySem.F.entry_list_count (PySem.F.args_list_count_2 _ _)
    (SeqAt.list_countAt p its.toArray n dd sl (.str z t) e) ⟨ho, fun y hy => h1 y (by simpa using hy), ?_⟩
  refine ⟨.int _, H, I.tok _, ⟨s.toks, ?_⟩, q⟩
  show Value.int ((its.toArray.toList.countP e : Nat) : Int) s.toks = _
  rw [show its.toArray.toList = its from rfl, h2]
/-! ### isinstance of data, by kind; a comprehension over a text -/
def isStrD : PyData → Bool
  | .str _ => true
  | _ => false
def isTupD : PyData → Bool
  | .tuple _ => true
  | _ => false
def isBoolD : PyData → Bool
  | .bool _ => true
  | _ => false
theorem isi_s {K : PySem.W.Frag} {H : Hp} {v : V} {d : PyData} {Q : VK} (h : Dq K H v d) (q : Q (.bl (isStrD d)) H) : rIsiS K [v, .ty "str"] H Q :=
  ⟨v, _, _, _, _, rfl, .ty _, dq_tyx h, kit_ty (by cases h <;> rfl), q⟩
theorem isi_t {K : PySem.W.Frag} {H : Hp} {v : V} {d : PyData} {Q : VK} (h : Dq K H v d) (q : Q (.bl (isTupD d)) H) : rIsiS K [v, .ty "tuple"] H Q :=
  ⟨v, _, _, _, _, rfl, .ty _, dq_tyx h, kit_ty (by cases h <;> rfl), q⟩
theorem isi_b {K : PySem.W.Frag} {H : Hp} {v : V} {d : PyData} {Q : VK} (h : Dq K H v d) (q : Q (.bl (isBoolD d)) H) : rIsiS K [v, .ty "bool"] H Q :=
  ⟨v, _, _, _, _, rfl, .ty _, dq_tyx h, kit_ty (by cases h <;> rfl), q⟩
theorem lc_text {x : Str} {g : TG} {tt : TT} {te : TE} {vs : List Nat} {σ : L2.St} {H1 : Hp} {D : Addr} {Qd : Hp → Prop} (Pv : Nat → Hp → Prop) (h0 : Pv 0 (upd H1 D (.lst [])))
    (hs : ∀ i c H, x.cps[i]? = some c → Pv i H → g (.str ⟨#[c]⟩) (wipe σ vs) H fun σ2 H2 => wipe σ2 vs = wipe σ vs ∧ tt σ2 H2 fun b H3 =>
      if b = true then te σ2 H3 fun y H4 => ∃ acc, H4 D = some (.lst acc) ∧ acc.length < sizeLine ∧ Pv (i + 1) (upd H4 D (.lst (acc ++ [y]))) else Pv (i + 1) H3) (hd : ∀ H, Pv x.cps.size H → Qd H) :
    ∃ W : Nat → Nat → Hp → Prop, (∃ m, W 0 m (upd H1 D (.lst []))) ∧ ∀ i m H, W i m H →
      ((Its x).stop i H ∧ Qd H) ∨ ((Its x).go i H ∧ ∃ Nx : Hp → Prop, (∀ H', Nx H' → ∃ m', m' < m ∧ W (i + 1) m' H') ∧ ∀ y H', (Its x).yld i H y H' → g y (wipe σ vs) H' fun σ2 H2 => wipe σ2 vs = wipe σ vs ∧ tt σ2 H2 fun b H3 =>
        if b = true then te σ2 H3 fun y H4 => ∃ acc, H4 D = some (.lst acc) ∧ acc.length < sizeLine ∧ Nx (upd H4 D (.lst (acc ++ [y]))) else Nx H3) := by
  refine ⟨fun i m H => m = x.cps.size - i ∧ i ≤ x.cps.size ∧ Pv i H, ⟨x.cps.size, by simp, Nat.zero_le _, h0⟩, ?_⟩
  rintro i m H ⟨rfl, hi, p⟩
  by_cases hlt : i < x.cps.size
  · refine .inr ⟨hlt, Pv (i + 1), fun H' p' => ⟨x.cps.size - (i + 1), by omega, rfl, hlt, p'⟩, fun y H' yy => ?_⟩
    obtain ⟨e, c, hc, rfl⟩ := yy
    subst e
    exact hs i c _ hc p
  · have e : i = x.cps.size := by omega
    subst e
    exact .inl ⟨Nat.le_refl _, hd H p⟩
end Kx

set_option Elab.async false
set_option maxRecDepth 100000
set_option linter.all false
set_option maxHeartbeats 4000000
/-! KitT: an exception that is caught and held beyond its suite. -/
namespace Kx
open PySem PySem.Spec PyProof.Rows L2 Evl
/-- at a stands an exception of the class at C, whatever its record holds -/
def exk (a C : Addr) (d : Option Addr) : HO := .ext fun h => ∃ ox : Obj, h.get? a = some ox ∧ ox.cls = .ref C ∧ ox.dict = d ∧ PySem.W.notCls ox = true
theorem xat_exk {H : Hp} {a C : Addr} {d : Option Addr} (h : H a = some (exk a C d)) : XAt H a C d := ⟨_, h, fun _ e => e⟩
section
variable {X : Cx} {pins : List (Addr × Obj)} {σ : L2.St} {H : Hp} {s : Shared} {a C : Addr} {d : Option Addr} {oe : Obj} {vs : Array Value}
theorem exk_ok {P : Program} {w : World} {H' : Hp} {h : Heap} (e : h.get? a = some oe) (z : Zc (.ref C) d oe) (hd : oe.data = .fields vs) : ObjOk P w H' h a (exk a C d) :=
  ⟨⟨oe, e, z.1, z.2, by unfold PySem.W.notCls; rw [hd]⟩, ⟨_, e⟩, fun h1 h2 ⟨ox, e1, r⟩ k => ⟨ox, k _ e1, r⟩⟩
/-- what was pinned and is new since the entry is known from now on -/
theorem Inv.track (I : Inv X ((a, oe) :: pins) σ H s) (n0 : X.s_0.heap.get? a = none) (np : ∀ p ∈ X.pn ++ pins, p.1 ≠ a) (z : Zc (.ref C) d oe) (hd : oe.data = .fields vs) : Inv X pins σ (upd H a (exk a C d)) s := by
  obtain ⟨e, na, nl, nf, nc⟩ := I.pin (a, oe) (List.mem_append_right _ (List.mem_cons_self ..))
  have nz : ∀ {b : Addr} {u : HO}, H b = some u → b ≠ a := fun h => ne_of_none h na
  refine ⟨I.ok, I.os, I.bare, ⟨I.base.keep, I.base.slot, fun b o h1 h2 h3 => ?_, I.base.there, fun b xs h => ?_, fun b o u h => ?_, fun b ps h => ?_⟩, I.loc, I.cell, ?_, fun x c hc => ?_, fun p hp => ?_, I.hok.laidN (fun _ _ q => q) na (exk_ok e z hd), I.len⟩
  · rw [upd_ne (fun y => by rw [y, n0] at h1; cases h1)]
    exact I.base.free b o h1 h2 h3
  · have q := I.base.tups b xs h
    rw [upd_ne (nz q)]
    exact q
  · have q := I.base.frzs b o u h
    rw [upd_ne (nz q)]
    exact q
  · obtain ⟨more, q⟩ := I.base.tbls b ps h
    exact ⟨more, by rw [upd_ne (nz q)]; exact q⟩
  · rw [upd_ne nl.symm]
    exact I.free
  · have : c ≠ a := fun y => by
      obtain ⟨v, oc, h1, h2⟩ := I.cell x c hc
      rw [y, e] at h1
      cases h1
      exact nc v h2
    rw [upd_ne this]
    exact I.freeC x c hc
  · have q := I.pin p (by
      rcases List.mem_append.mp hp with h | h
      · exact List.mem_append_left _ h
      · exact List.mem_append_right _ (List.mem_cons_of_mem _ h))
    exact ⟨q.1, by rw [upd_ne (np p hp)]; exact q.2.1, q.2.2⟩
end
/-- the ends of a suite whose exception is held from then on -/
def keepD (D : Ends) (i : Nat) (a C : Addr) (d : Option Addr) : Ends :=
  { nx := fun σ' H' => D.nx (σ'.set i none) (upd H' a (exk a C d)), rt := fun v H' => D.rt v (upd H' a (exk a C d)), bk := fun σ' H' => D.bk (σ'.set i none) (upd H' a (exk a C d)), ct := fun σ' H' => D.ct (σ'.set i none) (upd H' a (exk a C d)) }
/-- what 'except x as n' wishes, n's exception held beyond -/
def wKeep (K : PySem.W.Frag) (c : Value) (i : Nat) (ts : Addr → Addr → Option Addr → TS) (Wout : WX) (D : Ends) : WX := fun cls d σ H =>
  ∃ (C : Addr) (b : Bool), cls = .ref C ∧ PySem.W.exmOne K cls c = some b ∧ (b = true → ∀ a, H a = none → ts a C d (keepD D i a C d) (σ.set i (some (.ref a))) H) ∧ (b = false → Wout cls d σ H)
section
variable {X : Cx} {x n : Str} {c : Value} {i : Nat} {body suite : List Stmt} {st0 : Stmt} {np pos pos' : Pos} {tb : WX → TS} {ts : Addr → Addr → Option Addr → TS} {Wout : WX} {pins : List (Addr × Obj)} {σ : L2.St} {H : Hp} {s : Shared}
theorem Inv.unsuiteP {a : Addr} {q : Addr × Obj} {pn' : List (Addr × Obj)} (I : Inv (X.suite a (q :: (X.pn ++ pins))) pn' σ H s) (ok : X.Ok) : Inv X (q :: pins) σ H s :=
  { I with ok := ok, pin := fun p hp => I.pin p (List.mem_append_left _ (by
      rcases List.mem_append.mp hp with h | h
      · exact List.mem_cons_of_mem _ (List.mem_append_left _ h)
      · rcases List.mem_cons.mp h with rfl | h
        · exact List.mem_cons_self ..
        · exact List.mem_cons_of_mem _ (List.mem_append_right _ h))) }
theorem ps_try_keep (hx : X.ex = []) (hs : X.stack = X.env :: X.outer) (hf : X.env.frame = some X.env.locals) (hN : X.N.Nodup) (hi : X.N[i]? = some n) (hln : X.env.kindOf n = some .local) (hc : Names X x c) (tk : Takes X Wout)
    (hb : ∀ (W : WX) (pn : List (Addr × Obj)) (xe : Value → Shared → Prop), Takes (X.tr pn xe) W → PassesOwn (model X.prog X.w) X.A X.env xe → PSs (X.tr pn xe) body (tb W))
    (hsu : ∀ (a : Addr) (oe : Obj) (C : Addr) (d : Option Addr) (pn : List (Addr × Obj)), Zc (.ref C) d oe → (∃ vs, oe.data = .fields vs) → PSs (X.suite a ((a, oe) :: pn)) (st0 :: suite) (ts a C d)) :
    PS X (.Try body [.ExceptHandler (some (.Name x np)) (some n) (st0 :: suite) pos'] [] [] pos) (fun D σ H => tb (wKeep X.K c i ts Wout D) D σ H) := by
  constructor
  intro pins s σ H D I h
  have ok := I.ok
  have hfr : X.A.frames = some (X.env :: X.outer) := ok.frames.trans (congrArg some hs)
  refine wpAny_Try_except (wpAny_mono ((hb (wKeep X.K c i ts Wout D) (X.pn ++ pins)
    (fun u s₁ => wpAny (model X.prog X.w) X.A (noteFrame u X.env) (fun _ s₂ => wpAny (model X.prog X.w) X.A (setFlight u none) (fun _ s₃ => wpAny (model X.prog X.w) X.A (handleBy u X.env [.ExceptHandler (some (.Name x np)) (some n) (st0 :: suite) pos']) (SP X pins D) X.xe s₃) X.xe s₂) X.xe s₁)
    (fun u s' air => ?caught) PassesOwn.looking).run [] s σ H D (I.toTry _) h) (fun fl s1 hsp => ?done) (fun _ _ z => z))
  case done =>
    cases fl with
    | next =>
      obtain ⟨σ1, H1, J, q⟩ := hsp
      exact wpAny_execs_nil ⟨σ1, H1, J.ofTry ok, q⟩
    | brk =>
      obtain ⟨σ1, H1, J, q⟩ := hsp
      exact ⟨σ1, H1, J.ofTry ok, q⟩
    | cont =>
      obtain ⟨σ1, H1, J, q⟩ := hsp
      exact ⟨σ1, H1, J.ofTry ok, q⟩
    | ret u =>
      obtain ⟨v, σ1, H1, J, r, q⟩ := hsp
      exact ⟨v, σ1, H1, J.ofTry ok, r, q⟩
  case caught =>
    obtain ⟨a, B, sI, pins', σ1, H1, cls, d, rfl, J0, nb, up, sky, na, os, ag, C, b, rfl, hb1, hyes, hno⟩ := air
    have J : Inv X pins σ1 H1 sI := J0.ofTry ok
    rw [show (X.tr (X.pn ++ pins) _).stack = X.env :: X.outer from hs] at sky
    show wpAny (model X.prog X.w) X.A (noteFrame (.ref a) X.env) _ _ _
    refine Sky.land Zc.steady hfr hf sky fun h3 fl3 up3 => ?_
    have J3 : Inv X pins σ1 H1 { s' with heap := h3 } := J.landed nb fl3.1 (up.trans up3) os ag
    obtain ⟨oe3, vs3, he3, hz3, hd3⟩ := fl3.there
    have nfr : a ∉ frs (X.env :: X.outer) := fun hm => by
      obtain ⟨_, o', e', hnf⟩ := (show h3.FunFrames B (X.env :: X.outer) from fl3.2.2.1).mem hm
      rw [he3] at e'
      cases e'
      exact hnf _ hd3
    have nL : a ≠ X.env.locals := fun y => nfr (List.mem_filterMap.mpr ⟨X.env, List.mem_cons_self, by rw [hf, y]⟩)
    have nF : a ∉ X.fs := fun hm => by
      obtain ⟨e, he, q⟩ := List.mem_filterMap.mp hm
      exact nfr (List.mem_filterMap.mpr ⟨e, List.mem_cons_of_mem _ he, q⟩)
    have nI : sI.heap.get? a = none := by
      cases y : sI.heap.get? a with
      | none => rfl
      | some o =>
        have := nb a o y (by rw [show (X.tr (X.pn ++ pins) _).stack = X.env :: X.outer from hs]; exact nfr)
        rw [fl3.2.1] at this
        cases this
    have n0 : X.s_0.heap.get? a = none := by
      cases y : X.s_0.heap.get? a with
      | none => rfl
      | some o =>
        obtain ⟨o', q⟩ := J.base.there a o y (by rw [hx]; exact fun z => nomatch z)
        rw [nI] at q
        cases q
    have npi : ∀ p ∈ X.pn ++ pins, p.1 ≠ a := fun p hp y => by
      have := (J.pin p hp).1
      rw [y, nI] at this
      cases this
    have S3 := J3.suite he3 hd3 na nL nF
    have look : PySem.W.Looks (model X.prog X.w) h3 (typeOf (.ref a)) (.ref C) := fun A' Q' E' t k q => wpAny_typeOf_ref (k _ _ he3) (hz3.1.symm ▸ q)
    have name : ∀ {Q : Value → Shared → Prop} {E : Value → Shared → Prop}, Q c { s' with heap := h3 } → wpAny (model X.prog X.w) (X.A.mark (some (.ref a))) (eval (.Name x np) X.env) Q E { s' with heap := h3 } := by
      intro Q E q
      obtain ⟨g1, g2, ⟨g3⟩ | ⟨g3, g4, g5⟩⟩ := hc
      · exact ld_glob (X := X.suite a ((a, oe3) :: (X.pn ++ pins))) S3 g1 g3 q g2
      · exact ld_blt (X := X.suite a ((a, oe3) :: (X.pn ++ pins))) S3 g1 g3 g4 q g5 g2
    refine wpAny_handleBy_cons (codeAny_handlers_test (name ((PySem.W.exm_one (M := model X.prog X.w) J3.kIn look hb1).here ?_))) (fun q => nomatch q)
    cases b
    · show wpAny _ X.A (handleBy (.ref a) X.env []) _ _ _
      refine wpAny_handleBy_nil ?_
      obtain ⟨k1, k2, k3, oe, vs, T, oT, ts', he, hz, hd, h1, hr⟩ := id fl3
      have out : wpAny (model X.prog X.w) X.A (setFlight (.ref a) X.env.frame) (fun _ s4 => wpAny (model X.prog X.w) X.A (throw (.ref a) : Sem Flow) (SP X pins D) X.xe s4) X.xe { s' with heap := h3 } := by
        rw [hf]
        refine HandSPX.setFlight_upZ fl3 fun h4 held up4 => wpAny_throw (tk _ _ ⟨a, B, sI, pins, σ1, H1, .ref C, d, rfl, J, nb, (up.trans up3).trans up4, .inr (.inr ?_), na, os, ag, hno rfl⟩)
        rw [hs]
        exact held
      unfold PySem.passOn
      refine wpAny_bind (wpAny_field he hd h1 ?_)
      rw [if_neg (show ¬ (Value.ref T == Value.none) = true from fun z => nomatch z)]
      first
        | exact wpAny_bind out
        | exact wpAny_bind (wpAny_pure (wpAny_bind out))
    · refine codeAny_handlers_suite_as (HandSPX.lands_againZ fl3 fun h4 fl4 up4 => ?_)
      obtain ⟨oe4, vs4, he4, hz4, hd4⟩ := fl4.there
      have S4 := (J.landed nb fl4.1 ((up.trans up3).trans up4) os ag : Inv X pins σ1 H1 { s' with heap := h4 }).suite he4 hd4 na nL nF
      refine store_ok (X := X.suite a ((a, oe4) :: (X.pn ++ pins))) (v := .ref a) S4 hN hi (.inl hln) rfl (fun s5 S5 => ?_) (.inr hln)
      refine wpAny_mono ((hsu a oe4 C d (X.pn ++ pins) hz4 ⟨_, hd4⟩).run [] s5 _ H1 _ S5 (hyes rfl a na)) (fun fl s6 hsp => ?_) (fun _ _ z => z.elim)
      have last : ∀ {σ6 : L2.St} {H6 : Hp} {Q : Shared → Prop}, Inv (X.suite a ((a, oe4) :: (X.pn ++ pins))) [] σ6 H6 s6 → (∀ s7, Inv X pins (σ6.set i none) (upd H6 a (exk a C d)) s7 → Q s7) →
          wpAny (model X.prog X.w) X.A (do bindName X.env n .none; unbindBehindTheSuite X.env n pos') (fun _ s7 => Q s7) X.xe s6 := fun S6 hq =>
        gone_ok (Inv.unsuiteP S6 ok) hN hi hln fun s7 J7 => hq s7 (Inv.track J7 n0 npi hz4 hd4)
      cases fl with
      | next =>
        obtain ⟨σ6, H6, S6, q6⟩ := hsp
        exact last S6 fun s7 J7 => ⟨_, _, J7, q6⟩
      | brk =>
        obtain ⟨σ6, H6, S6, q6⟩ := hsp
        exact last S6 fun s7 J7 => ⟨_, _, J7, q6⟩
      | cont =>
        obtain ⟨σ6, H6, S6, q6⟩ := hsp
        exact last S6 fun s7 J7 => ⟨_, _, J7, q6⟩
      | ret u =>
        obtain ⟨v6, σ6, H6, S6, r6, q6⟩ := hsp
        exact last S6 fun s7 J7 => ⟨_, _, _, J7, r6, q6⟩
end
/-- what gives a new exception of an own class back, with its dict, makes an exception -/
theorem pmk_xo {X : Cx} {e : Expr} {te : TE} (hx : X.ex = []) (he : PE X e te) :
    PMk X e (fun σ H Q => te σ H fun x H1 => ∃ a C d, x = .ref a ∧ H1 a = some (exo a C (some d)) ∧ Fr0 X.H_0 a ∧ Raises X (.ref C) ∧ Q (.ref C) (some d) (delH H1 a)) := fun pins s σ H Q I h =>
  wpAny_mono (he.run pins s σ H _ I h) (fun u s1 ⟨v, H1, I1, r1, a, C, d, ev, ha, h0, hr, q⟩ => by
    subst ev
    cases r1
    obtain ⟨⟨t1, ho⟩, _⟩ := (show ObjOk X.prog X.w H1 s1.heap a (exo a C (some d)) from I1.hok a _ ha)
    obtain ⟨G, gs, ga, J⟩ := I1.untrack ha h0 hx
    exact ⟨a, _, _, { s1 with heap := G }, delH H1 a, _, some d, rfl, J, gs, ga, ho, ⟨rfl, rfl⟩, rfl, rfl, delH_same, rfl, I1.bare, hr, q⟩) fun _ _ z => z
/-- raise C(e), C an own class with one field: what flies holds it -/
def XFly (H H2 : Hp) (d : Addr) (f : Str) (v : V) : Prop := Same H H2 ∧ H2 d = some (exd d [(f, v)])
theorem XFly.fat {H H2 : Hp} {d : Addr} {f : Str} {v : V} (h : XFly H H2 d f v) : FAt H2 d [(f, v)] := .inl h.2
section
variable {X : Cx} {W : WX} {fI C : Addr} {fd : FuncData} {x f : Str} {p pos pos2 : Pos} {e : Expr} {te : TE}
def tXR (C : Addr) (f : Str) (te : TE) : TE := fun σ H Q => te σ H fun v H1 => ∀ a d H2, H1 a = none → d ≠ a → Same H1 H2 → H2 a = some (exo a C (some d)) → H2 d = some (exd d [(f, v)]) → Q (.ref a) H2
theorem pe_xr1 (T : XCls X.prog X.w X.K X.mg x f C fI fd) (hr : Room 2 X.A) (hg : Gl X x) (he : PE X e te)
    (hm : ∀ σ H (Q Q' : VK), (∀ v H1, Q v H1 → Q' v H1) → te σ H Q → te σ H Q')
    (hdb : (x == ("__debug__" : Str)) = false := by decide) (hs : starEach [e] X.env = (false, eval e X.env) :: starEach [] X.env := by rfl)
    (hpl : (backTo pos (starEach [] X.env)).any (·.1) = false := by rfl) : PE X (.Call (.Name x p) [e] [] pos) (tXR C f te) := by
  refine PE.imp (pe_mkV T.o T.iC T.tI (T.fn X.base) hr hg T.mgC T.b2 .nil pass0 (pa_cons he pa_nil hs) hdb hs hpl) fun σ H Q q => hm σ H _ _ (fun v H1 k => ⟨(by show 1 ≤ 1000; decide), fun a ha => ⟨a, v, rfl, upd_same, fun d hd hne => ⟨rfl, ?_⟩⟩⟩) q
  obtain ⟨h1, _⟩ := xv_made (f := f) (v := v) ha hd hne
  exact k a d _ ha hne h1 upd_same (by rw [upd_ne hne]; exact upd_same)
/-- raise C(e): H0 is the heap at the entry -/
def tFly (H0 : Hp) (C : Addr) (f : Str) (W : WX) (te : TE) : TS := fun _ σ H => te σ H fun v H1 => (∀ a, H1 a = none → H0 a = none) ∧ ∀ d H2, XFly H1 H2 d f v → W (.ref C) (some d) σ H2
theorem ps_raiseX (hc : X.calm = true) (hx : X.ex = []) (tk : Takes X W) (T : XCls X.prog X.w X.K X.mg x f C fI fd) (hr : Room 2 X.A) (hg : Gl X x) (he : PE X e te)
    (hm : ∀ σ H (Q Q' : VK), (∀ v H1, Q v H1 → Q' v H1) → te σ H Q → te σ H Q')
    (hdb : (x == ("__debug__" : Str)) = false := by decide) (hs : starEach [e] X.env = (false, eval e X.env) :: starEach [] X.env := by rfl)
    (hpl : (backTo p (starEach [] X.env)).any (·.1) = false := by rfl) : PS X (.Raise (some (.Call (.Name x pos2) [e] [] p)) none pos) (tFly X.H_0 C f W te) := by
  have m := ps_raise (pos := pos) hc tk (pmk_xo hx (pe_xr1 (p := pos2) T hr hg he hm hdb hs hpl))
  refine ⟨fun pins s σ H D I h => m.run pins s σ H D I (hm σ H _ _ (fun v H1 ⟨h0, k⟩ a d H2 ha hne hs2 h1 h2 => ⟨a, C, d, rfl, h1, fr0_none (h0 a ha), raises_own T.o.exC T.o.tyC, k d _ ⟨fun b o hb => ?_, ?_⟩⟩) h)⟩
  · rw [delH_ne (ne_of_none hb ha)]
    exact hs2 b o hb
  · rw [delH_ne hne]
    exact h2
end
end Kx

set_option Elab.async false
set_option maxRecDepth 100000
set_option linter.all false
set_option maxHeartbeats 2000000
/-! KitU: objects made where an exception may fly; a write beside what is new. -/
namespace Kx
open PySem PySem.Spec PyProof.Rows L2 Evl
section
variable {H H1 H2 M M2 : Hp} {p : Addr} {o0 o1 : HO}
theorem new_swap (k : New (upd H1 p o1) H2 M2) (h : H1 p = some o0) : New H1 (upd H2 p o0) M2 ∧ H2 = upd (upd H2 p o0) p o1 := by
  have hp : H2 p = some o1 := k.hh _ _ upd_same
  have mp : M2 p = none := k.fr p o1 upd_same
  refine ⟨⟨fun a u e => ?_, fun a u e => ?_, fun a u e => ?_⟩, ?_⟩
  · by_cases z : a = p
    · rw [z, h] at e
      rw [z, upd_same]
      exact e
    · rw [upd_ne z]
      exact k.hh a u (by rw [upd_ne z]; exact e)
  · have z : a ≠ p := fun z => by rw [z, mp] at e; cases e
    rw [upd_ne z]
    exact k.mh a u e
  · by_cases z : a = p
    · rw [z]; exact mp
    · exact k.fr a u (by rw [upd_ne z]; exact e)
  · funext a
    by_cases z : a = p
    · rw [z, upd_same, hp]
    · rw [upd_ne z, upd_ne z]
theorem new_ofEx (e : Ex H H2) : New H H2 emp := ⟨e, fun a o h => (nomatch h), fun _ _ _ => rfl⟩
end
section
variable {X : Cx} {CX : CXT} {k : Nat} {f C : Addr} {fd : FuncData} {ps : List Str} {sp : Sp} {dvs : List V} {ds : List Value} {E : L2.St → XK} {x : Str} {p pos : Pos} {e : Expr} {es : List Expr} {t : TA}
theorem run_makeS {pins : List (Addr × Obj)} {σ : L2.St} {H : Hp} {s : Shared} {Q : VK} {us : List Value} {vs : List V} (M : Mk X.K C f) (F : FnOk X.prog X.w X.K X.mg X.base CX k f fd ps sp) (hr : Room (k + 1) X.A) (hb : Binds X.K fd ps ds) (hd : Vals dvs ds)
    (hx : PassesAt CX X σ (E σ)) (I : Inv X pins σ H s) (r : Vals vs us)
    (h : ∀ x dx, H x = none → H dx = none → dx ≠ x → sp (.ref x :: (vs ++ dvs)) (upd (upd H dx (.own x)) x (.ins C dx [])) (fun v H2 => v = .non ∧ Q (.ref x) H2) (E σ)) :
    wpAny (model X.prog X.w) X.A (call (.ref C) us) (EP X pins σ Q) X.xe s := by
  have hq := h (s.heap.objs.size + 1) s.heap.objs.size (I.hok.fresh (Nat.le_succ _)) (I.hok.fresh (Nat.le_refl _)) (Nat.ne_of_lt (Nat.lt_succ_self _))
  have I2 := Inv.made (C := C) I
  have r2 : Vals (V.ref (s.heap.objs.size + 1) :: (vs ++ dvs)) (Value.ref (s.heap.objs.size + 1) :: (us ++ ds)) := .cons rfl (r.append hd)
  have hl : (Value.ref (s.heap.objs.size + 1) :: us ++ ds).length = ps.length := by
    have e := r2.length
    rw [F.len _ _ _ _ hq] at e
    exact e.symm
  refine wpAny_call (make_map (f := f) I.kIn M.makes M.init (beq_iff_eq.mp M.fn) (codeAny_mono (F.run _ X.stack _ _ ⟨Value.ref (s.heap.objs.size + 1) :: us, []⟩ (Value.ref (s.heap.objs.size + 1) :: (us ++ ds)) _ _ (E σ) (hr.make C us [])
    (I2.env0.make C us []) (hb _ (Value.ref (s.heap.objs.size + 1) :: us) I2.kIn hl) r2 hq) fun r s' hq' => ?_))
  cases r with
  | error e => exact hx pins _ _ e s' I2 hq'
  | ok fl =>
    cases fl with
    | ret u =>
      obtain ⟨v, H', I3, rv, ev, q3⟩ := I2.after hq'
      subst ev
      exact ⟨rv, ⟨V.ref (s.heap.objs.size + 1), H', I3, rfl, q3⟩⟩
    | next => exact False.elim hq'
    | brk => exact False.elim hq'
    | cont => exact False.elim hq'
def tMakeS (C : Addr) (sp : Sp) (dvs : List V) (E : L2.St → XK) (t : TA) : TE := fun σ H Q => t σ H fun vs H1 => ∀ x dx, H1 x = none → H1 dx = none → dx ≠ x →
  sp (.ref x :: (vs ++ dvs)) (upd (upd H1 dx (.own x)) x (.ins C dx [])) (fun v H2 => v = .non ∧ Q (.ref x) H2) (E σ)
theorem pe_makeS (M : Mk X.K C f) (F : FnOk X.prog X.w X.K X.mg X.base CX k f fd ps sp) (hr : Room (k + 1) X.A) (hg : Gl X x) (hm : X.mg x = some (.ref C)) (hb : Binds X.K fd ps ds) (hd : Vals dvs ds) (hx : ∀ σ, PassesAt CX X σ (E σ))
    (ha : PA X (e :: es) t) (hdb : (x == ("__debug__" : Str)) = false := by decide) (he : starEach (e :: es) X.env = (false, eval e X.env) :: starEach es X.env := by rfl) (hpl : (backTo pos (starEach es X.env)).any (·.1) = false := by rfl) :
    PE X (.Call (.Name x p) (e :: es) [] pos) (tMakeS C sp dvs E t) := by
  refine ⟨fun pins s σ H Q I h => ?_⟩
  refine wpAny_Call_Name_kw (ld_glob I hg hm ?_ hdb)
  refine PySem.W.callWith_K (h₀ := X.base) I.ok.mod.kin M.kp (thn (ha.run pos pins s σ H _ I h) fun us s1 ⟨vs, H1, I1, r, q⟩ => ⟨I1.kIn, ?_⟩) he hpl
  exact run_makeS M F hr hb hd (hx σ) I1 r q
theorem no_passes {P : Program} {w : World} (hP : X.prog = P) (hw : X.w = w) : Passes (L2.CX P w) X fun _ _ _ => False := fun _ _ _ _ _ _ _ ⟨_, _, _, _, _, _, _, _, _, _, _, _, h⟩ => h.elim
end
end Kx

set_option Elab.async false
set_option maxRecDepth 100000
set_option linter.all false
set_option maxHeartbeats 2000000
/-! KitZ: data whose lists are all different ones. -/
namespace Kx
open PySem PySem.Spec PyProof.Rows L2 Evl
mutual
/-- data at a value; as: the lists in it, from the left -/
inductive DqN (K : PySem.W.Frag) (H : Hp) : V → PyData → List Addr → Prop
  | flat {v : V} {d : PyData} : flatD d = true → Dq K H v d → DqN K H v d []
  | lst {a : Addr} {xs : List V} {ds : List PyData} {as : List Addr} : H a = some (.lst xs) → DqNA K H xs ds as → DqN K H (.ref a) (.list ds) (a :: as)
  | tup {a : Addr} {xs : List V} {ds : List PyData} {as : List Addr} : H a = some (.tup xs) → DqNA K H xs ds as → DqN K H (.ref a) (.tuple ds) as
inductive DqNA (K : PySem.W.Frag) (H : Hp) : List V → List PyData → List Addr → Prop
  | nil : DqNA K H [] [] []
  | cons {v : V} {vs : List V} {d : PyData} {ds : List PyData} {as bs : List Addr} : DqN K H v d as → DqNA K H vs ds bs → DqNA K H (v :: vs) (d :: ds) (as ++ bs)
end
section
variable {K : PySem.W.Frag} {H H' : Hp}
mutual
theorem DqN.dq : ∀ {d : PyData} {v : V} {as : List Addr}, DqN K H v d as → Dq K H v d
  | _, _, _, .flat _ h => h
  | _, _, _, .lst h a => .lst h (DqNA.dq a)
  | _, _, _, .tup h a => .tup (.inl (.inl h)) (DqNA.dq a)
theorem DqNA.dq : ∀ {ds : List PyData} {vs : List V} {as : List Addr}, DqNA K H vs ds as → DqA K H vs ds
  | _, _, _, .nil => .nil
  | _, _, _, .cons a b => .cons (DqN.dq a) (DqNA.dq b)
end
mutual
/-- another heap that has the same tuples and these lists -/
theorem DqN.agree (ht : ∀ a xs, H a = some (.tup xs) → H' a = some (.tup xs)) : ∀ {d : PyData} {v : V} {as : List Addr}, DqN K H v d as → (∀ a ∈ as, H' a = H a) → DqN K H' v d as
  | _, _, _, .flat f h, _ => .flat f (flat_dq f h)
  | _, _, _, .lst h a, k => .lst (by rw [k _ (List.mem_cons_self ..)]; exact h) (DqNA.agree ht a fun b hb => k b (List.mem_cons_of_mem _ hb))
  | _, _, _, .tup h a, k => .tup (ht _ _ h) (DqNA.agree ht a k)
theorem DqNA.agree (ht : ∀ a xs, H a = some (.tup xs) → H' a = some (.tup xs)) : ∀ {ds : List PyData} {vs : List V} {as : List Addr}, DqNA K H vs ds as → (∀ a ∈ as, H' a = H a) → DqNA K H' vs ds as
  | _, _, _, .nil, _ => .nil
  | _, _, _, .cons a b, k => .cons (DqN.agree ht a fun c hc => k c (List.mem_append_left _ hc)) (DqNA.agree ht b fun c hc => k c (List.mem_append_right _ hc))
end
mutual
theorem DqN.is : ∀ {d : PyData} {v : V} {as : List Addr}, DqN K H v d as → ∀ a ∈ as, ∃ xs, H a = some (.lst xs)
  | _, _, _, .flat _ _, a, h => nomatch h
  | _, _, _, .lst h b, a, k => (List.mem_cons.mp k).elim (fun e => e ▸ ⟨_, h⟩) (DqNA.is b a)
  | _, _, _, .tup _ b, a, k => DqNA.is b a k
theorem DqNA.is : ∀ {ds : List PyData} {vs : List V} {as : List Addr}, DqNA K H vs ds as → ∀ a ∈ as, ∃ xs, H a = some (.lst xs)
  | _, _, _, .nil, a, h => nomatch h
  | _, _, _, .cons b c, a, k => (List.mem_append.mp k).elim (DqN.is b a) (DqNA.is c a)
end
theorem DqN.mono (e : Ex H H') {d : PyData} {v : V} {as : List Addr} (h : DqN K H v d as) : DqN K H' v d as := h.agree (fun a xs q => e _ _ q) fun a ha => by
  obtain ⟨xs, q⟩ := h.is a ha
  rw [q]
  exact e _ _ q
theorem DqNA.mono (e : Ex H H') {ds : List PyData} {vs : List V} {as : List Addr} (h : DqNA K H vs ds as) : DqNA K H' vs ds as := h.agree (fun a xs q => e _ _ q) fun a ha => by
  obtain ⟨xs, q⟩ := h.is a ha
  rw [q]
  exact e _ _ q
theorem DqNA.app {v : V} {d : PyData} {bs : List Addr} : ∀ {ds : List PyData} {vs : List V} {as : List Addr}, DqNA K H vs ds as → DqN K H v d bs → DqNA K H (vs ++ [v]) (ds ++ [d]) (as ++ bs)
  | _, _, _, .nil, h => by
    have := DqNA.cons h (.nil (K := K) (H := H))
    rw [List.append_nil] at this
    exact this
  | _, _, _, .cons a b, h => by
    rw [List.append_assoc]
    exact .cons a (DqNA.app b h)
theorem strs_n : ∀ xs : List Str, DqNA K H (xs.map V.str) (xs.map PyData.str) []
  | [] => .nil
  | x :: xs => .cons (as := []) (.flat rfl (.str x)) (strs_n xs)
end
/-- data in the new part M, its lists all different and not there at H -/
def FrN (K : PySem.W.Frag) (H M : Hp) (v : V) (d : PyData) : Prop := ∃ as, DqN K M v d as ∧ as.Nodup ∧ ∀ a ∈ as, H a = none
def FrA (K : PySem.W.Frag) (H M : Hp) (vs : List V) (ds : List PyData) : Prop := ∃ as, DqNA K M vs ds as ∧ as.Nodup ∧ ∀ a ∈ as, H a = none
section
variable {K : PySem.W.Frag} {H H' H3 M M' M3 : Hp} {v : V} {d : PyData} {vs : List V} {ds : List PyData}
theorem FrN.dq (h : FrN K H M v d) : Dq K M v d := let ⟨_, a, _⟩ := h; a.dq
theorem FrA.dq (h : FrA K H M vs ds) : DqA K M vs ds := let ⟨_, a, _⟩ := h; a.dq
theorem FrN.mono (e : Ex M M') (h : FrN K H M v d) : FrN K H M' v d := let ⟨as, a, b, c⟩ := h; ⟨as, a.mono e, b, c⟩
theorem FrA.mono (e : Ex M M') (h : FrA K H M vs ds) : FrA K H M' vs ds := let ⟨as, a, b, c⟩ := h; ⟨as, a.mono e, b, c⟩
theorem FrN.back (e : Ex H H') (h : FrN K H' M v d) : FrN K H M v d := let ⟨as, a, b, c⟩ := h; ⟨as, a, b, fun x hx => fresh_back e (c x hx)⟩
theorem FrA.back (e : Ex H H') (h : FrA K H' M vs ds) : FrA K H M vs ds := let ⟨as, a, b, c⟩ := h; ⟨as, a, b, fun x hx => fresh_back e (c x hx)⟩
theorem FrA.nil : FrA K H M [] [] := ⟨[], .nil, List.nodup_nil, fun a h => nomatch h⟩
theorem FrN.flat (f : flatD d = true) (h : Dq K M v d) : FrN K H M v d := ⟨[], .flat f h, List.nodup_nil, fun a h => nomatch h⟩
/-- one more, made behind the others -/
theorem FrA.app (k : New H H' M) (h : FrA K H M vs ds) (e1 : Ex M M') (e3 : Ex M3 M') (h3 : FrN K H' M3 v d) : FrA K H M' (vs ++ [v]) (ds ++ [d]) := by
  obtain ⟨as, a1, a2, a3⟩ := h
  obtain ⟨bs, b1, b2, b3⟩ := h3
  refine ⟨as ++ bs, (a1.mono e1).app (b1.mono e3), List.nodup_append.mpr ⟨a2, b2, fun x hx y hy e => ?_⟩, fun x hx => ?_⟩
  · obtain ⟨xs, q⟩ := a1.is x hx
    have := k.mh _ _ q
    rw [e, b3 y hy] at this
    cases this
  · rcases List.mem_append.mp hx with hx | hx
    · exact a3 x hx
    · exact fresh_back k.hh (b3 x hx)
theorem FrN.tup {p : Addr} (h : FrA K H M vs ds) (e : Ex M M') (hp : M' p = some (.tup vs)) : FrN K H M' (.ref p) (.tuple ds) := let ⟨as, a, b, c⟩ := h; ⟨as, .tup hp (a.mono e), b, c⟩
theorem FrN.lst {p : Addr} (h : FrA K H M vs ds) (mp : M p = none) (np : H p = none) : FrN K H (upd M p (.lst vs)) (.ref p) (.list ds) := by
  obtain ⟨as, a, b, c⟩ := h
  refine ⟨p :: as, .lst upd_same (a.mono (Ex.new mp)), List.nodup_cons.mpr ⟨fun hp => ?_, b⟩, fun x hx => ?_⟩
  · obtain ⟨xs, q⟩ := a.is p hp
    rw [mp] at q
    cases q
  · rcases List.mem_cons.mp hx with rfl | hx
    · exact np
    · exact c x hx
theorem FrN.strs {p : Addr} {ss : List Str} (hp : M p = some (.lst (ss.map V.str))) (np : H p = none) : FrN K H M (.ref p) (strsD ss) := ⟨[p], .lst hp (strs_n ss), List.nodup_cons.mpr ⟨(fun h => nomatch h), List.nodup_nil⟩, fun x hx => by rw [List.mem_singleton.mp hx]; exact np⟩
end
end Kx

set_option Elab.async false
set_option maxRecDepth 100000
set_option linter.all false
set_option maxHeartbeats 4000000
namespace Lx
open PySem PySem.Spec PyProof.Rows L2 Evl Kx
section
variable {P : Program} {w : World} {K : PySem.W.Frag} {mg : Str → Option Value} {base : Heap} {f : Addr} {fd : FuncData}
abbrev sCop : Stmt := top 38
abbrev sCnt : Stmt := top 40
theorem scCop : FnScope ["body", "found", "step", "part"] ["body"] (defScope sCop) := ⟨rfl, rfl, rfl, by decide +kernel, rfl, by decide +kernel, by decide +kernel⟩
theorem scCnt : FnScope ["body", "many", "step", "part"] ["body"] (defScope sCnt) := ⟨rfl, rfl, rfl, by decide +kernel, rfl, by decide +kernel, by decide +kernel⟩
def spCnt (K : PySem.W.Frag) (d : Nat) : Sp := fun vs H Q _ => ∃ (p : Addr) (G : Hp) (b : List Stp), vs = [.ref p] ∧ Ex G H ∧ Dq K G (.ref p) (.list (bodyD b)) ∧ nstB b ≤ d ∧ ∀ H2, Ex H H2 → Q (.int (cntB b)) H2
structure spCop (K : PySem.W.Frag) (d : Nat) (vs : List V) (H : Hp) (Q : VK) (E_ : XK) : Prop where
  mk' ::
  out : ∃ (p : Addr) (G : Hp) (b : List Stp), vs = [.ref p] ∧ Ex G H ∧ Dq K G (.ref p) (.list (bodyD b)) ∧ nstB b ≤ d ∧ cntB b ≤ 4096 ∧ ∀ p2 H2 M, New H H2 M → FrN K H M (.ref p2) (.list (bodyD b)) → Q (.ref p2) H2
def spNo : Sp := fun _ _ _ _ => False
def spCntP (K : PySem.W.Frag) : Nat → Sp
  | 0 => spNo
  | d + 1 => spCnt K d
def spCopP (K : PySem.W.Frag) : Nat → Sp
  | 0 => spNo
  | d + 1 => spCop K d
theorem ok_cnt1 {d : Nat} (F : Fun K "_law_count" "_law_count" sCnt f fd) (FC : FnOk P w K mg base CX0 (d + 1) f fd ["body"] (spCntP K d)) (mC : mg "_law_count" = some (.ref f)) (kC : PySem.W.keepIn K (.ref f) = true) (bC : Binds K fd ["body"] [])
    (mS : mg "sum" = none) (mI : mg "isinstance" = none) (mL : mg "list" = none) : FnOk P w K mg base CX0 (d + 2) f fd ["body"] (spCnt K d) := by
  refine F.ok scCnt (fun vs H Q E h => ?_) (fun cdv A outer s H vs Q E hr h => ?_)
  · obtain ⟨_, _, _, rfl, _⟩ := h
    rfl
  · obtain ⟨p, G, b, rfl, e, hd, hn, q⟩ := h
    refine ⟨_, pss_cons (ps_set (i := 1) scCnt.nd rfl (Or.inl rfl) pe_int)
      (pss_cons (ps_for PassesOwn.never rfl (pi_list (pv 0)) (pg_name (i := 2) scCnt.nd rfl (Or.inl rfl))
        (pss_one (ps_set (i := 1) scCnt.nd rfl (Or.inl rfl) (pe_op op_add (pe_op op_add (pv 1) pe_int) (pe_callB (cr_sum rfl) (by rfl) mS (by decide +kernel) (pa_cons (pe_lc (own := [("part", 3)]) (g := gName 3) rfl scCnt.nd (pi_tup (pv 2))
            (blkOk_by (own := [("part", 3)]) (N := ["body", "many", "step", "part"]) (sc := defScope sCnt) (by decide +kernel))
            (fun _ _ _ _ _ => pg_name (i := 3) scCnt.nd rfl (Or.inl rfl)) (fun _ _ _ _ _ => pts_one (pt_val (pe_callB (isi_S (K := K)) (by rfl) mI PyProof.Rows.boot_isinstance (pa_cons (pv 3) (pa_cons (pe_bltn (v := .ty "list") (by rfl) mL (by decide +kernel) rfl) pa_nil)))))
            (fun _ _ _ _ _ => pe_call FC hr rfl mC kC bC .nil pass0 (pa_cons (pv 3) pa_nil))) pa_nil))))))
      (pss_one (ps_ret (pv 1)))), ?_⟩
    cases hd with
    | @lst _ xs _ hp hx =>
    refine ⟨_, rfl, p, rfl, ⟨_, SqL.of (e _ _ hp)⟩, ?_⟩
    have hlen : xs.length = b.length := by
      have := dqa_len hx
      rw [bodyD_map, List.length_map] at this
      exact this
    refine for_list (K := K) (a := p) (xs := xs) (fun i σ H' => ∃ t : Option V, σ = [some (.ref p), some (.int (cntB (b.take i))), t, none] ∧ Ex H H') ?_ (fun i σ H' _ ⟨_, _, k⟩ => SqL.of (k _ _ (e _ _ hp))) ?_ ?_
    · exact ⟨none, rfl, Ex.refl H⟩
    · rintro i x σ H' hi ⟨t, rfl, k⟩
      obtain ⟨s, hs, hv⟩ := body_get hx hi
      obtain ⟨ta, ys, rfl, hT, hy⟩ := step_at hv
      have eT : SqT K H' ta ys := sqt_ex (same_ex (e.trans k)) hT
      refine ⟨_, rfl, _, _, rfl, rfl, _, rfl, ta, rfl, ⟨_, eT⟩, fun D nD => ?_⟩
      have hst : s ∈ b := List.mem_of_getElem? hs
      refine lc_tup (K := K) (a := ta) (xs := ys) (fun j H'' => Ex H' H'' ∧ H'' D = some (.lst (((((partsP s).take j).filterMap (·.2)).map fun b => (cntB b : Int)).map V.int))) ?_ (fun j H'' _ ⟨z, _⟩ => sqt_ex (same_ex z) eT) ?_ ?_
      · exact ⟨Ex.new nD, upd_same⟩
      · rintro j v H'' hj ⟨z, hD⟩
        obtain ⟨⟨pd, po⟩, hpp, hvd⟩ := part_get hy hj
        have hvd := hvd.mono (same_ex ((e.trans k).trans z))
        have htk : (partsP s).take (j + 1) = (partsP s).take j ++ [(pd, po)] := by
          rw [List.take_succ, hpp]
          rfl
        refine ⟨rfl, _, rfl, isi_l hvd ⟨_, rfl, ?_⟩⟩
        rcases parts_ok (List.mem_of_getElem? hpp) with ⟨h1, h2⟩ | ⟨b', h1, h2, h3, h4⟩
        · refine ite2 (fun h => ?_) (fun _ => ⟨z, ?_⟩)
          · simp only [h1] at h
            cases h
          · rw [htk, List.filterMap_append]
            simp only [h2, List.filterMap_cons_none, List.filterMap_nil, List.append_nil]
            exact hD
        · subst h1 h2
          refine ite2 (fun h => ?_) (fun h => (h rfl).elim)
          have hnd := nst_mem hst
          obtain ⟨d', rfl⟩ : ∃ d', d = d' + 1 := ⟨d - 1, by omega⟩
          obtain ⟨v', rfl⟩ : ∃ v', v = .ref v' := by cases hvd with | lst h _ => exact ⟨_, rfl⟩
          refine ⟨_, rfl, v', H'', b', rfl, Ex.refl _, hvd, by omega, fun H3 z3 => ⟨_, z3 _ _ hD, ?_, ?_, ?_⟩⟩
          · rw [List.length_map, List.length_map]
            have := (List.length_filterMap_le (·.2) ((partsP s).take j))
            have h3 : (partsP s).length ≤ 3 := by cases s <;> simp only [partsP, List.length_cons, List.length_nil] <;> omega
            have e3z : (5 : Nat) < sizeLine := by decide
            rw [List.length_take] at this
            omega
          · intro a o ha
            rw [upd_ne (ne_of_none ha nD)]
            exact z3 _ _ (z _ _ ha)
          · rw [upd_same, htk, List.filterMap_append, List.map_append, List.map_append]
            rfl
      · rintro H'' ⟨z, hD⟩
        have hl : ys.length = (partsP s).length := by
          have := dqa_len hy
          rw [List.length_map] at this
          exact this
        rw [hl, List.take_of_length_le (Nat.le_refl _)] at hD
        have sm : ∀ l : List (List Stp), (l.map fun b => (cntB b : Int)).sum = ((l.map cntB).sum : Nat) := fun l => by
          induction l with
          | nil => rfl
          | cons a r ih => simp only [List.map_cons, List.sum_cons, ih]; omega
        have key : ((cntB (b.take i) : Int) + 1 + (((partsP s).filterMap (·.2)).map fun b => (cntB b : Int)).sum) = (cntB (b.take (i + 1)) : Int) := by
          rw [sm, cntB_take hs, cnt_parts]
          omega
        refine ⟨D, _, rfl, SqL.of hD, _, _, rfl, rfl, some (.ref ta), ?_, k.trans z⟩
        show [some (V.ref p), some (V.int _), some (V.ref ta), none] = _
        rw [key]
    · rintro σ H' ⟨t, rfl, k⟩
      rw [hlen, List.take_of_length_le (Nat.le_refl _)]
      exact ⟨_, rfl, q H' k⟩
theorem ok_cnt0 (F : Fun K "_law_count" "_law_count" sCnt f fd) : FnOk P w K mg base CX0 1 f fd ["body"] spNo :=
  F.ok scCnt (fun vs H Q E h => h.elim) (fun cdv A outer s H vs Q E hr h => h.elim)
theorem ok_cnt (F : Fun K "_law_count" "_law_count" sCnt f fd) (mC : mg "_law_count" = some (.ref f)) (kC : PySem.W.keepIn K (.ref f) = true) (bC : Binds K fd ["body"] [])
    (mS : mg "sum" = none) (mI : mg "isinstance" = none) (mL : mg "list" = none) : ∀ d : Nat, FnOk P w K mg base CX0 (d + 2) f fd ["body"] (spCnt K d)
  | 0 => ok_cnt1 F (ok_cnt0 F) mC kC bC mS mI mL
  | d + 1 => ok_cnt1 F (ok_cnt F mC kC bC mS mI mL d) mC kC bC mS mI mL
theorem ok_cop0 (F : Fun K "_law_copied" "_law_copied" sCop f fd) : FnOk P w K mg base CX0 1 f fd ["body"] spNo :=
  F.ok scCop (fun vs H Q E h => h.elim) (fun cdv A outer s H vs Q E hr h => h.elim)
theorem ok_cop1 {d : Nat} (F : Fun K "_law_copied" "_law_copied" sCop f fd) (FC : FnOk P w K mg base CX0 (d + 1) f fd ["body"] (spCopP K d)) (mC : mg "_law_copied" = some (.ref f)) (kC : PySem.W.keepIn K (.ref f) = true) (bC : Binds K fd ["body"] [])
    (mT : mg "tuple" = none) (mI : mg "isinstance" = none) (mL : mg "list" = none) : FnOk P w K mg base CX0 (d + 2) f fd ["body"] (spCop K d) := by
  refine F.ok scCop (fun vs H Q E h => ?_) (fun cdv A outer s H vs Q E hr h => ?_)
  · obtain ⟨_, _, _, rfl, _⟩ := h
    rfl
  · obtain ⟨p, G, b, rfl, e, hd, hn, hc, q⟩ := h
    refine ⟨_, pss_cons (ps_set (i := 1) scCop.nd rfl (Or.inl rfl) (pe_lst pa_nil))
      (pss_cons (ps_for PassesOwn.never rfl (pi_list (pv 0)) (pg_name (i := 2) scCop.nd rfl (Or.inl rfl))
        (pss_one (ps_expr (pe_bm PySem.F.plainAttrs_list PySem.F.slot_list_append PySem.F.type_list_append mt_append (pv 1) (pa_cons (pe_tupleOf (by rfl) mT (pe_lc (own := [("part", 3)]) (g := gName 3) rfl scCop.nd (pi_tup (pv 2))
            (blkOk_by (own := [("part", 3)]) (N := ["body", "found", "step", "part"]) (sc := defScope sCop) (by decide +kernel))
            (fun _ _ _ _ _ => pg_name (i := 3) scCop.nd rfl (Or.inl rfl)) (fun _ _ _ _ _ => pts_nil)
            (fun _ _ _ _ _ => pe_ifExp (pt_val (pe_callB (isi_S (K := K)) (by rfl) mI PyProof.Rows.boot_isinstance (pa_cons (pv 3) (pa_cons (pe_bltn (v := .ty "list") (by rfl) mL (by decide +kernel) rfl) pa_nil)))) (pe_call FC hr rfl mC kC bC .nil pass0 (pa_cons (pv 3) pa_nil)) (pv 3)))) pa_nil)))))
      (pss_one (ps_ret (pv 1)))), ?_⟩
    cases hd with
    | @lst _ xs _ hp hx =>
    have hlen : xs.length = b.length := by
      have := dqa_len hx
      rw [bodyD_map, List.length_map] at this
      exact this
    refine ⟨by show 0 ≤ sizeLine; decide, fun F nF => ⟨_, rfl, p, rfl, ⟨_, SqL.of (Ex.new nF _ _ (e _ _ hp))⟩, ?_⟩⟩
    refine for_list (K := K) (a := p) (xs := xs) (fun i σ H' => ∃ (t : Option V) (M : Hp) (acc : List V), σ = [some (.ref p), some (.ref F), t, none] ∧ New H H' M ∧ H' F = some (.lst acc) ∧ M F = none ∧ FrA K H M acc (bodyD (b.take i))) ?_ (fun i σ H' _ ⟨_, _, _, _, k, _⟩ => SqL.of (k.hh _ _ (e _ _ hp))) ?_ ?_
    · exact ⟨none, emp, [], rfl, New.refl.own nF, upd_same, rfl, by simp only [List.take_zero, bodyD]; exact FrA.nil⟩
    · rintro i x σ H' hi ⟨t, M, acc, rfl, k, hF, mF, ha⟩
      obtain ⟨s, hs, hv⟩ := body_get hx hi
      obtain ⟨ta, ys, rfl, hT, hy⟩ := step_at hv
      have eT : SqT K H' ta ys := sqt_ex (same_ex (e.trans k.hh)) hT
      have hst : s ∈ b := List.mem_of_getElem? hs
      refine ⟨_, rfl, .inl ⟨rfl, _, SqL.of hF⟩, _, rfl, ta, rfl, ⟨_, eT⟩, fun D nD => ?_⟩
      refine lc_tup (K := K) (a := ta) (xs := ys) (fun j H'' => ∃ (M2 : Hp) (zs : List V), New H' H'' M2 ∧ H'' D = some (.lst zs) ∧ M2 D = none ∧ FrA K H' M2 zs (((partsP s).take j).map (·.1))) ?_ (fun j H'' _ ⟨_, _, z, _⟩ => sqt_ex (same_ex z.hh) eT) ?_ ?_
      · exact ⟨emp, [], New.refl.own nD, upd_same, rfl, FrA.nil⟩
      · rintro j v H'' hj ⟨M2, zs, z, hD, mD, hz⟩
        obtain ⟨⟨pd, po⟩, hpp, hvd⟩ := part_get hy hj
        have hvg := hvd
        have hvd := hvd.mono (same_ex ((e.trans k.hh).trans z.hh))
        have htk : (partsP s).take (j + 1) = (partsP s).take j ++ [(pd, po)] := by
          rw [List.take_succ, hpp]
          rfl
        have h3 : (partsP s).length ≤ 3 := by cases s <;> simp only [partsP, List.length_cons, List.length_nil] <;> omega
        have hzl : zs.length < sizeLine := by
          have := dqa_len hz.dq
          rw [List.length_map, List.length_take] at this
          have e3z : (5 : Nat) < sizeLine := by decide
          omega
        have fin : ∀ (v3 : V) (H3 M3 : Hp), New H'' H3 M3 → FrN K H'' M3 v3 pd → ∃ acc, H3 D = some (.lst acc) ∧ acc.length < sizeLine ∧ ∃ (M2 : Hp) (zs : List V), New H' (upd H3 D (.lst (acc ++ [v3]))) M2 ∧ (upd H3 D (.lst (acc ++ [v3]))) D = some (.lst zs) ∧ M2 D = none ∧ FrA K H' M2 zs (((partsP s).take (j + 1)).map (·.1)) := by
          intro v3 H3 M3 k3 h3
          have hD3 := k3.hh _ _ hD
          have mD3 : join M2 M3 D = none := join_none mD (k3.fr _ _ hD)
          refine ⟨zs, hD3, hzl, join M2 M3, zs ++ [v3], (z.trans k3).wr nD mD3, upd_same, mD3, ?_⟩
          rw [htk, List.map_append]
          exact FrA.app z hz join_l (z.right k3) h3
        refine ⟨rfl, _, rfl, isi_l hvd ⟨_, rfl, ?_⟩⟩
        rcases parts_ok (List.mem_of_getElem? hpp) with ⟨h1, h2⟩ | ⟨b', h1, h2, h3, h4⟩
        · refine ite2 (fun h => ?_) (fun _ => ?_)
          · simp only [h1] at h
            cases h
          · exact ⟨_, rfl, fin v H'' emp New.refl (FrN.flat (parts_flat (List.mem_of_getElem? hpp) h1) (flat_dq (parts_flat (List.mem_of_getElem? hpp) h1) hvg))⟩
        · subst h1 h2
          refine ite2 (fun h => ?_) (fun h => (h rfl).elim)
          have hnd := nst_mem hst
          obtain ⟨d', rfl⟩ : ∃ d', d = d' + 1 := ⟨d - 1, by omega⟩
          obtain ⟨v', rfl⟩ : ∃ v', v = .ref v' := by cases hvd with | lst h _ => exact ⟨_, rfl⟩
          exact ⟨_, rfl, v', H'', b', rfl, Ex.refl _, hvd, by omega, (by have := cnt_mem hst; omega), fun p3 H3 M3 k3 h3 => fin _ H3 M3 k3 h3⟩
      · rintro H'' ⟨M2, zs, z, hD, mD, hz⟩
        have hl : ys.length = (partsP s).length := by
          have := dqa_len hy
          rw [List.length_map] at this
          exact this
        rw [hl, List.take_of_length_le (Nat.le_refl _)] at hz
        refine .inl ⟨D, zs, rfl, SqL.of hD, fun tp ntp => ?_⟩
        have hF2 := z.hh _ _ hF
        have fT : F ≠ tp := ne_of_none hF2 ntp
        have kk := k.trans (z.put (o := .tup zs) ntp)
        have mF2 : join M (upd M2 tp (.tup zs)) F = none := join_none mF (by rw [upd_ne fT]; exact z.fr _ _ hF)
        have hal : acc.length < sizeLine := by
          have := dqa_len ha.dq
          rw [bodyD_map, List.length_map, List.length_take] at this
          have h2 := (List.getElem?_eq_some_iff.mp hi).1
          have h3 := len_cnt b
          have e3z : (5000 : Nat) < sizeLine := by decide
          omega
        refine ⟨F, acc, .ref tp, rfl, rfl, by rw [upd_ne fT]; exact hF2, hal, some (.ref ta), _, acc ++ [.ref tp], rfl, kk.wr nF mF2, upd_same, mF2, ?_⟩
        rw [bodyD_map, List.take_succ, hs, List.map_append, ← bodyD_map]
        refine FrA.app k ha join_l (k.right (z.put (o := .tup zs) ntp)) ?_
        show FrN K _ _ _ (stpD s)
        rw [stpD_parts]
        exact FrN.tup hz (Ex.new (z.none ntp)) upd_same
    · rintro σ H' ⟨t, M, acc, rfl, k, hF, mF, ha⟩
      rw [hlen, List.take_of_length_le (Nat.le_refl _)] at ha
      exact ⟨_, rfl, q F H' _ (k.frz nF hF) (FrN.lst ha mF nF)⟩
theorem ok_cop (F : Fun K "_law_copied" "_law_copied" sCop f fd) (mC : mg "_law_copied" = some (.ref f)) (kC : PySem.W.keepIn K (.ref f) = true) (bC : Binds K fd ["body"] [])
    (mT : mg "tuple" = none) (mI : mg "isinstance" = none) (mL : mg "list" = none) : ∀ d : Nat, FnOk P w K mg base CX0 (d + 2) f fd ["body"] (spCop K d)
  | 0 => ok_cop1 F (ok_cop0 F) mC kC bC mT mI mL
  | d + 1 => ok_cop1 F (ok_cop F mC kC bC mT mI mL d) mC kC bC mT mI mL
end
end Lx

set_option Elab.async false
set_option maxRecDepth 100000
set_option linter.all false
set_option maxHeartbeats 4000000
namespace Lx
open PySem PySem.Spec PyProof.Rows L2 Evl Kx
section
variable {P : Program} {w : World} {K : PySem.W.Frag} {mg : Str → Option Value} {base : Heap} {f : Addr} {fd : FuncData}
abbrev sPrt : Stmt := top 41
theorem scPrt : FnScope ["generator", "many", "most", "rights", "owners", "names", "functions", "name", "body"] ["generator", "many", "most"] (defScope sPrt) := ⟨rfl, rfl, rfl, by decide +kernel, rfl, by decide +kernel, by decide +kernel⟩
structure spPrt (K : PySem.W.Frag) (vs : List V) (H : Hp) (Q : VK) (E_ : XK) : Prop where
  mk' ::
  out : ∃ (g : Addr) (n : Nat) (G : Hp) (many most : Nat), vs = [.ref g, .int many, .int most] ∧ 1 ≤ many ∧ many ≤ 4 ∧ most ≤ 4 ∧ GenAt H g n ∧ n < 2 ^ 39 ∧ Ex G H ∧ G g = none ∧
  ∀ (p : Addr) G2 H2 (pt : Prt), KS g G H G2 H2 (n + 4000) → Dq K G2 (.ref p) (prtD pt) → PrtOk many pt → Q (.ref p) H2
theorem rts_k {g : Addr} {G0 H0 G H : Hp} {n : Nat} {Q : VK} {E : XK} (k : KS g G0 H0 G H n) (hn : n < 2 ^ 49)
    (q : ∀ (p : Addr) G2 H2 (c : Nat), KS g G0 H0 G2 H2 (n + 2) → ExtG g G H G2 H2 → G2 p = some (.lst ((rights3.take (c + 1)).map V.str)) → c < 3 → Q (.ref p) H2) : spRts [.ref g] H Q E :=
  ⟨g, n, G, rfl, k.gen, hn, k.x.gh, k.off, fun p G2 H2 c k2 => q p G2 H2 c (k.then k2) k2.x⟩
theorem ows_k {g pr : Addr} {G0 H0 G H : Hp} {n : Nat} {rs : List Str} {Q : VK} {E : XK} (k : KS g G0 H0 G H n) (hn : n < 2 ^ 49) (hpr : G pr = some (.lst (rs.map V.str))) (hl : rs.length ≤ 3) (hd : rs.Nodup)
    (q : ∀ (p : Addr) G2 H2 (os : List Own), KS g G0 H0 G2 H2 (n + 40) → ExtG g G H G2 H2 → Dq K G2 (.ref p) (.list (os.map ownD)) → OwnsOk rs os → Q (.ref p) H2) : spOws K [.ref g, .ref pr] H Q E :=
  ⟨g, pr, n, G, rs, rfl, k.gen, hn, k.x.gh, k.off, hpr, hl, hd, fun p G2 H2 c k2 => q p G2 H2 c (k.then k2) k2.x⟩
theorem ok_prt {fR fT fO fB fC : Addr} {fdR fdT fdO fdB fdC : FuncData} (F : Fun K "_law_parts" "_law_parts" sPrt f fd)
    (FR : FnOk P w K mg base CX0 2 fR fdR ["generator", "bound"] spRnd) (mR : mg "_law_random" = some (.ref fR)) (kR : PySem.W.keepIn K (.ref fR) = true) (bR : Binds K fdR ["generator", "bound"] [])
    (FT : FnOk P w K mg base CX0 3 fT fdT ["generator"] spRts) (mT : mg "_law_rights_drawn" = some (.ref fT)) (kT : PySem.W.keepIn K (.ref fT) = true) (bT : Binds K fdT ["generator"] [])
    (FO : FnOk P w K mg base CX0 3 fO fdO ["generator", "rights"] (spOws K)) (mO : mg "_law_owners_drawn" = some (.ref fO)) (kO : PySem.W.keepIn K (.ref fO) = true) (bO : Binds K fdO ["generator", "rights"] [])
    (FB : FnOk P w K mg base CX0 8 fB fdB ["generator", "rights", "names", "deep", "marked", "most"] (spBod K 2)) (mB : mg "_law_body_drawn" = some (.ref fB)) (kB' : PySem.W.keepIn K (.ref fB) = true) (bB : Binds K fdB ["generator", "rights", "names", "deep", "marked", "most"] [])
    (FC : FnOk P w K mg base CX0 4 fC fdC ["body"] (spCnt K 2)) (mC : mg "_law_count" = some (.ref fC)) (kC : PySem.W.keepIn K (.ref fC) = true) (bC : Binds K fdC ["body"] [])
    (mL : mg "len" = none) : FnOk P w K mg base CX0 9 f fd ["generator", "many", "most"] (spPrt K) := by
  refine F.ok scPrt (fun vs H Q E h => ?_) (fun cdv A outer s H vs Q E hr h => ?_)
  · obtain ⟨_, _, _, _, _, rfl, _⟩ := h
    rfl
  · obtain ⟨g, n, G, many, most, rfl, hm1, hm4, hmo, hg, hn, e, n0, q⟩ := h
    have r2 := hr.mono (j := 2) (by omega)
    have r3 := hr.mono (j := 3) (by omega)
    have r4 := hr.mono (j := 4) (by omega)
    refine ⟨_, pss_cons (ps_set (i := 3) scPrt.nd rfl (Or.inl rfl) (pe_call FT r3 rfl mT kT bT .nil pass0 (pa_cons (pv 0) pa_nil)))
      (pss_cons (ps_par (i := 4) (j := 5) (by rfl) scPrt.nd rfl rfl (by decide) rfl rfl (pa_cons (pe_call FO r3 rfl mO kO bO .nil pass0 (pa_cons (pv 0) (pa_cons (pv 3) pa_nil)))
          (pa_cons (pe_slice sl_list (pe_lst (pa_cons pe_str (pa_cons pe_str (pa_cons pe_str (pa_cons pe_str pa_nil))))) po_none (po_some (pv 1))) pa_nil)) (by rfl))
      (pss_cons (ps_set (i := 6) scPrt.nd rfl (Or.inl rfl) (pe_lst pa_nil))
      (pss_cons (ps_for PassesOwn.never rfl (pi_list (pv 5)) (pg_name (i := 7) scPrt.nd rfl (Or.inl rfl))
        (pss_cons (ps_set (i := 8) scPrt.nd rfl (Or.inl rfl) (pe_call FB hr rfl mB kB' bB .nil pass0 (pa_cons (pv 0) (pa_cons (pv 3) (pa_cons (pe_op op_cat (pe_slice sl_list (pv 5) (po_some pe_int) po_none) (pe_slice sl_list (pv 5) po_none (po_some pe_int))) (pa_cons pe_int (pa_cons pe_bl (pa_cons (pv 2) pa_nil))))))))
        (pss_cons (ps_while PassesOwn.never (pt_cmpR op_gt (pe_call FC r4 rfl mC kC bC .nil pass0 (pa_cons (pv 8) pa_nil)) pe_int (nomark _)) (pss_one (ps_set (i := 8) scPrt.nd rfl (Or.inl rfl) (pe_slice sl_list (pv 8) po_none (po_some (pe_un un_neg pe_int))))))
        (pss_one (ps_expr (pe_bm PySem.F.plainAttrs_list PySem.F.slot_list_append PySem.F.type_list_append mt_append (pv 6) (pa_cons (pe_tup (pa_cons (pv 7) (pa_cons (pe_ix ix_tup (pe_ix ix_list (pv 4) (pe_call FR r2 rfl mR kR bR .nil pass0 (pa_cons (pv 0) (pa_cons (pe_callB call_len_seq (by rfl) mL PySem.boot_len (pa_cons (pv 4) pa_nil)) pa_nil))) (fun _ _ => rfl)) pe_int (fun _ _ => rfl)) (pa_cons (pv 8) pa_nil)))) pa_nil)))))))
      (pss_one (ps_ret (pe_lst (pa_cons (pv 3) (pa_cons (pv 4) (pa_cons (pv 6) pa_nil)))))))))
      , ?_⟩
    have e39 : (2 : Nat) ^ 39 = 549755813888 := by decide
    have e40 : (2 : Nat) ^ 40 = 1099511627776 := by decide
    have e49 : (2 : Nat) ^ 49 = 562949953421312 := by decide
    have e50 : (2 : Nat) ^ 50 = 1125899906842624 := by decide
    have e3z : (5000 : Nat) < sizeLine := by decide
    have k0 := KS.start e hg n0
    refine ⟨_, rfl, rts_k k0 (by omega) fun pr G1 H1 c k1 x1 h1 hc => ?_⟩
    have rl : (rights3.take (c + 1)).length = c + 1 := by
      rw [List.length_take]
      have : rights3.length = 3 := rfl
      omega
    refine ⟨_, rfl, _, rfl, ows_k k1 (by omega) h1 (by omega) ((List.take_sublist _ _).nodup (by decide)) fun po G2 H2 os k2 x2 ho hos => ?_⟩
    refine ⟨by show 4 ≤ sizeLine; decide, fun p4 np4 => ⟨_, rfl, _, rfl, p4, _, rfl, SqL.of upd_same, fun pn npn => ⟨_, _, rfl, ?_⟩⟩⟩
    have hcut : cutV [V.str "main", V.str "f", V.str "g", V.str "h"] none (some (many : Int)) = (names4.take many).map V.str := by
      match many, hm1, hm4 with
      | 1, _, _ => rfl
      | 2, _, _ => rfl
      | 3, _, _ => rfl
      | 4, _, _ => rfl
    have hc1 : cutV ((names4.take many).map V.str) (some 1) none = ((names4.take many).drop 1).map V.str := by
      match many, hm1, hm4 with
      | 1, _, _ => rfl
      | 2, _, _ => rfl
      | 3, _, _ => rfl
      | 4, _, _ => rfl
    have hc2 : cutV ((names4.take many).map V.str) none (some 1) = ((names4.take many).take 1).map V.str := by
      match many, hm1, hm4 with
      | 1, _, _ => rfl
      | 2, _, _ => rfl
      | 3, _, _ => rfl
      | 4, _, _ => rfl
    have hn4 : ((names4.take many).map V.str).length = many := by
      rw [List.length_map, List.length_take]
      have : names4.length = 4 := rfl
      omega
    have hl2 : ((names4.take many).drop 1 ++ (names4.take many).take 1).length = many := by
      rw [List.length_append, List.length_drop, List.length_take (i := 1)]
      rw [List.length_map] at hn4
      omega
    have rn : RN (rights3.take (c + 1)) ((names4.take many).drop 1 ++ (names4.take many).take 1) :=
      ⟨(fun z => by rw [z] at rl; cases rl), (by omega), (fun z => by rw [z] at hl2; simp only [List.length_nil] at hl2; omega), (by omega)⟩
    have hin : ∀ x ∈ (names4.take many).drop 1 ++ (names4.take many).take 1, x ∈ names4.take many := fun x hx => by
      rcases List.mem_append.mp hx with hx | hx
      · exact List.mem_of_mem_drop hx
      · exact List.mem_of_mem_take hx
    rw [hcut] at *
    have k3 := (k2.own np4).new (o := .lst ((names4.take many).map V.str)) npn
    refine ⟨by show 0 ≤ sizeLine; decide, fun pf npf => ?_⟩
    have fg : pf ≠ g := k3.ne npf
    have k4 := k3.own (o := .lst []) npf
    have gf := k3.gnone npf
    have g3n : (upd G2 pn (.lst ((names4.take many).map V.str))) pn = some (.lst ((names4.take many).map V.str)) := upd_same
    have g3 : Ex G2 (upd G2 pn (.lst ((names4.take many).map V.str))) := Ex.new ((k2.own np4).gnone npn)
    have g3r : (upd G2 pn (.lst ((names4.take many).map V.str))) pr = some (.lst ((rights3.take (c + 1)).map V.str)) := g3 _ _ (x2.gg _ _ h1)
    have g3o : Dq K (upd G2 pn (.lst ((names4.take many).map V.str))) (.ref po) (.list (os.map ownD)) := ho.mono (same_ex g3)
    generalize (upd G2 pn (.lst ((names4.take many).map V.str))) = G3 at *
    have g3o' := g3o
    cases g3o with
    | @lst _ oxs _ hpo hox =>
    have hol : oxs.length = os.length := by
      have := dqa_len hox
      rw [List.length_map] at this
      exact this
    refine ⟨_, rfl, pn, rfl, ⟨_, SqL.of (k4.x.gh _ _ g3n)⟩, ?_⟩
    refine for_list (K := K) (a := pn) (xs := (names4.take many).map V.str) (fun i σ H' => ∃ (vs : List V) (fs : List Fn) (G' : Hp) (a b : Option V), σ = [some (.ref g), some (.int many), some (.int most), some (.ref pr), some (.ref po), some (.ref pn), some (.ref pf), a, b] ∧
        KS g G H G' H' (n + 42 + i * 756) ∧ Ex G3 G' ∧ H' pf = some (.lst vs) ∧ G' pf = none ∧ DqA K G' vs (fs.map fnD) ∧ fs.map (·.1) = (names4.take many).take i ∧ ∀ f ∈ fs, fnOk (rights3.take (c + 1)) os (names4.take many) f) ?_
      (fun i σ H' _ ⟨_, _, _, _, _, _, k, x, _⟩ => SqL.of (k.x.gh _ _ (x _ _ g3n))) ?_ ?_
    · exact ⟨[], [], G3, none, none, rfl, k4, Ex.refl _, upd_same, gf, .nil, rfl, fun f hf => by cases hf⟩
    · rintro i x σ H' hx ⟨vs, fs, G', a, b, rfl, k, x3, hf, gf', hd, hfs, hok⟩
      have hi : i < many := by
        have := (List.getElem?_eq_some_iff.mp hx).1
        omega
      obtain ⟨nm, hnm, rfl⟩ : ∃ nm, (names4.take many)[i]? = some nm ∧ x = .str nm := by
        rw [List.getElem?_map] at hx
        cases hz : (names4.take many)[i]? with
        | none => rw [hz] at hx; cases hx
        | some nm => rw [hz] at hx; exact ⟨nm, rfl, (Option.some.inj hx).symm⟩
      have hi4 : i * 756 ≤ 4 * 756 := Nat.mul_le_mul_right _ (by omega)
      have g4n := x3 _ _ g3n
      refine ⟨_, rfl, _, rfl, _, rfl, _, rfl, pn, _, rfl, SqL.of (k.x.gh _ _ g4n), fun pa npa => ⟨_, rfl, _, rfl, pn, (names4.take many).map V.str, rfl, SqL.of ?_, fun pb npb => ?_⟩⟩
      · rw [upd_ne (ne_of_none (k.x.gh _ _ g4n) npa)]
        exact k.x.gh _ _ g4n
      rw [hc1] at npb
      rw [hc1, hc2]
      refine ⟨pa, pb, _, _, rfl, rfl, by rw [upd_ne (ne_of_none upd_same npb)]; exact upd_same, upd_same, ?_, fun pc npc => ?_⟩
      · rw [List.length_map, List.length_map, ← List.length_append, hl2]
        omega
      rw [← List.map_append]
      have k5 := ((k.own npa).own npb).new (o := .lst (((names4.take many).drop 1 ++ (names4.take many).take 1).map V.str)) npc
      have gc := (((k.own npa).own npb).gnone npc)
      have g5 : Ex G' (upd G' pc (.lst (((names4.take many).drop 1 ++ (names4.take many).take 1).map V.str))) := Ex.new gc
      have hfa : pf ≠ pa := ne_of_none hf npa
      have hfb : pf ≠ pb := ne_of_none (by rw [upd_ne hfa]; exact hf) npb
      have hfc : pf ≠ pc := ne_of_none (by rw [upd_ne hfb, upd_ne hfa]; exact hf) npc
      refine ⟨_, rfl, bod_k (most := most) (d := 2) k5 (by omega) (by decide) (by decide) hmo (g5 _ _ (x3 _ _ g3r)) upd_same rn fun p6 G6 H6 b6 k6 x6 hb ok6 nd6 len6 cnt6 => ?_⟩
      have ck : kB 2 most ≤ 754 := by
        have : most * kS 2 ≤ 4 * kS 2 := Nat.mul_le_mul_right _ hmo
        have e : kS 2 = 188 := rfl
        simp only [kB]
        omega
      have cc : cntB b6 ≤ 84 := by
        have : most * cS 2 ≤ 4 * cS 2 := Nat.mul_le_mul_right _ hmo
        have e : cS 2 = 21 := rfl
        omega
      have hf6 : H6 pf = some (.lst vs) := x6.hh _ _ fg (by rw [upd_ne hfc, upd_ne hfb, upd_ne hfa]; exact hf)
      have gf6 : G6 pf = none := (x6.ag _ _ (show _ = some (HO.lst vs) by rw [upd_ne hfc, upd_ne hfb, upd_ne hfa]; exact hf)).trans (by rw [upd_ne hfc]; exact gf')
      have x46 : Ex G' G6 := g5.trans x6.gg
      refine while_by (fun σ H7 => ∃ (p7 : Addr) (G7 : Hp) (b7 : List Stp), σ = [some (.ref g), some (.int many), some (.int most), some (.ref pr), some (.ref po), some (.ref pn), some (.ref pf), some (.str nm), some (.ref p7)] ∧
          KS g G H G7 H7 (n + 42 + i * 756 + 754) ∧ Ex G' G7 ∧ H7 pf = some (.lst vs) ∧ G7 pf = none ∧ Dq K G7 (.ref p7) (.list (bodyD b7)) ∧ okB (rights3.take (c + 1)) ((names4.take many).drop 1 ++ (names4.take many).take 1) false b7 = true ∧ nstB b7 ≤ 2)
        (fun σ H7 => match σ[8]? with
          | some (some (V.ref p)) => match H7 p with
            | some (HO.lst xs) => xs.length
            | _ => 0
          | _ => 0) ?_ ?_ ?_
      · exact ⟨p6, G6, b6, rfl, k6.le (by omega), x46, hf6, gf6, hb, ok6, nd6⟩
      · rintro σ H7 ⟨p7, G7, b7, rfl, k7, x7, hf7, gf7, hb7, ok7, nd7⟩
        cases hb7 with
        | @lst _ xs7 _ hp7 hx7 =>
        have hxl : xs7.length = b7.length := by
          have := dqa_len hx7
          rw [bodyD_map, List.length_map] at this
          exact this
        refine ⟨_, rfl, p7, G7, b7, rfl, k7.x.gh, .lst hp7 hx7, nd7, fun H8 e8 => ⟨_, _, rfl, rfl, _, rfl, ite2 (fun hgt => ?_) (fun hgt => ?_)⟩⟩
        · refine ⟨_, rfl, _, rfl, _, rfl, p7, xs7, rfl, SqL.of (e8 _ _ (k7.x.gh _ _ hp7)), fun p9 np9 => ?_⟩
          have k8 := k7.step ⟨e8, Ex.refl _, k7.x.gh.trans e8, fun _ _ _ => rfl⟩
          have hn7 : xs7 ≠ [] := fun z => by
            rw [z] at hxl
            have hb0 : b7 = [] := List.eq_nil_of_length_eq_zero hxl.symm
            rw [hb0] at hgt
            simp only [cntB, decide_eq_true_eq] at hgt
            exact absurd hgt (by decide)
          have hp0 := List.length_pos_iff.mpr hn7
          have g9 := k8.gnone np9
          have hcl : cutV xs7 none (some (-1)) = xs7.take (xs7.length - 1) := cut_last xs7
          refine ⟨⟨p9, upd G7 p9 (.lst (cutV xs7 none (some (-1)))), b7.take (xs7.length - 1), rfl, k8.new np9, x7.trans (Ex.new g9), ?_, ?_, ?_, okB_take ok7, Nat.le_trans nstB_take nd7⟩, ?_⟩
          · rw [upd_ne (ne_of_none (e8 _ _ hf7) np9)]
            exact e8 _ _ hf7
          · rw [upd_ne (ne_of_none (e8 _ _ hf7) np9)]
            exact gf7
          · refine .lst upd_same ?_
            rw [hcl, bodyD_map, List.map_take, ← bodyD_map]
            exact dqa_take _ (hx7.mono (same_ex (Ex.new g9)))
          · show (match (upd H8 p9 (.lst (cutV xs7 none (some (-1))))) p9 with | some (.lst xs) => xs.length | _ => 0) < (match H7 p7 with | some (.lst xs) => xs.length | _ => 0)
            rw [upd_same, k7.x.gh _ _ hp7]
            show (cutV xs7 none (some (-1))).length < xs7.length
            rw [hcl, List.length_take]
            omega
        · have hcn : cntB b7 ≤ 12 := by
            have : ¬ ((12 : Int) < (cntB b7 : Int)) := fun z => hgt (decide_eq_true z)
            omega
          have k8 := k7.step ⟨e8, Ex.refl _, k7.x.gh.trans e8, fun _ _ _ => rfl⟩
          have hpo7 := k8.x.gh _ _ (x7 _ _ (x3 _ _ hpo))
          have hos0 : 0 < os.length := List.length_pos_iff.mpr hos.ne
          refine ⟨_, rfl, .inl ⟨rfl, _, SqL.of (e8 _ _ hf7)⟩, _, rfl, _, rfl, _, rfl, _, rfl, po, oxs, rfl, .inl (SqL.of hpo7), rnd_k k8 (by omega) (by have := hos.le; omega) fun ri H9 hri s9 k9 => ?_⟩
          rw [hol] at hri
          obtain ⟨io, hio, rfl⟩ : ∃ z : Nat, z < os.length ∧ ri = (z : Int) := ⟨ri.toNat, by omega, by omega⟩
          obtain ⟨ov, hov⟩ : ∃ ov, oxs[io]? = some ov := ⟨_, List.getElem?_eq_getElem (by omega)⟩
          obtain ⟨od, hod, hovd⟩ := dqa_get hox hov
          rw [List.getElem?_map] at hod
          obtain ⟨ow, how, rfl⟩ : ∃ ow, os[io]? = some ow ∧ od = ownD ow := by
            cases hz : os[io]? with
            | none => rw [hz] at hod; cases hod
            | some ow => rw [hz] at hod; exact ⟨ow, rfl, (Option.some.inj hod).symm⟩
          have x9 : Ex G3 G7 := x3.trans x7
          obtain ⟨ta, ys, rfl, hT, hy⟩ : ∃ ta ys, ov = .ref ta ∧ SqT K G3 ta ys ∧ DqA K G3 ys [.str ow.1, strsD ow.2] := by
            cases hovd with
            | tup h1 h2 => exact ⟨_, _, rfl, h1, h2⟩
          obtain ⟨yr, rfl⟩ : ∃ yr, ys = .str ow.1 :: yr := by
            cases hy with
            | cons h1 h2 =>
              cases h1
              exact ⟨_, rfl⟩
          have hf9 : H9 pf = some (.lst vs) := by
            rw [s9 _ fg]
            exact e8 _ _ hf7
          have hvl : vs.length = i := by
            have e1 := dqa_len hd
            have e2 := congrArg List.length hfs
            rw [List.length_map, List.length_take] at e2
            rw [List.length_map] at e1 hn4
            omega
          refine ⟨po, _, _, .ref ta, rfl, rfl, SqL.of (k9.x.gh _ _ (x9 _ _ hpo)), atI_nat hov, ta, _, 0, .str ow.1, rfl, rfl, sqt_ex (same_ex (x9.trans k9.x.gh)) hT, atI_nat (j := 0) rfl, _, rfl, by show 3 ≤ sizeLine; decide, fun tp ntp => ?_⟩
          have ftp : pf ≠ tp := ne_of_none hf9 ntp
          have gtp := k9.gnone ntp
          have xt : Ex G' (upd G7 tp (.tup [.str nm, .str ow.1, .ref p7])) := x7.trans (Ex.new gtp)
          have gft : (upd G7 tp (.tup [.str nm, .str ow.1, .ref p7])) pf = none := by
            rw [upd_ne ftp]
            exact gf7
          refine ⟨pf, vs, .ref tp, rfl, rfl, by rw [upd_ne ftp]; exact hf9, by omega, vs ++ [.ref tp], fs ++ [(nm, ow.1, b7)], _, _, _, rfl, (((k9.new ntp).put (k3.hnone npf) gft fg).le ?_), x3.trans xt, upd_same, gft, ?_, ?_, ?_⟩
          · have : (i + 1) * 756 = i * 756 + 756 := Nat.succ_mul ..
            omega
          · rw [List.map_append]
            exact dqa_app (hd.mono (same_ex xt)) (.tup (.inl (.inl upd_same)) (.cons (.str _) (.cons (.str _) (.cons (.lst (Ex.new gtp _ _ hp7) (hx7.mono (same_ex (Ex.new gtp)))) .nil))))
          · rw [List.map_append, hfs, List.take_succ, hnm]
            rfl
          · intro f hf
            rcases List.mem_append.mp hf with hf | hf
            · exact hok f hf
            · rw [List.mem_singleton.mp hf]
              exact ⟨List.mem_map.mpr ⟨ow, List.mem_of_getElem? how, rfl⟩, okB_mono (fun _ z => z) hin ok7, nd7, hcn⟩
      · intro σ H8 Q1 Q2 h12 h
        obtain ⟨v, hv, p7, G7, b7, e1, e2, e3, e4, q5⟩ := h
        refine ⟨v, hv, p7, G7, b7, e1, e2, e3, e4, fun H9 e9 => ?_⟩
        obtain ⟨i1, j1, z1, z2, k1, z3, q6⟩ := q5 H9 e9
        exact ⟨i1, j1, z1, z2, k1, z3, h12 _ _ q6⟩
    · rintro σ H' ⟨vs, fs, G', a, b, rfl, k, x3, hf, gf', hd, hfs, hok⟩
      rw [hn4] at k hfs
      rw [List.take_of_length_le (by rw [List.length_map] at hn4; omega)] at hfs
      have kf := k.freeze (k3.hnone npf) gf' fg hf
      have x4 : Ex G3 (upd G' pf (.lst vs)) := x3.trans (Ex.new gf')
      refine ⟨_, rfl, _, rfl, _, rfl, by show 3 ≤ sizeLine; decide, fun p np => ?_⟩
      have xp : Ex (upd G' pf (.lst vs)) (upd (upd G' pf (.lst vs)) p (.lst [.ref pr, .ref po, .ref pf])) := Ex.new (kf.gnone np)
      refine q p _ _ ⟨rights3.take (c + 1), os, fs⟩ ((kf.new np).le (by omega)) (.lst upd_same (.cons (dq_strs (xp _ _ (x4 _ _ g3r))) (.cons (g3o'.mono (same_ex (x4.trans xp))) (.cons (.lst (xp _ _ upd_same) (hd.mono (same_ex ((Ex.new gf').trans xp)))) .nil)))) ⟨⟨c, hc, rfl⟩, hos, hfs, hok⟩
end
end Lx

set_option Elab.async false
set_option maxRecDepth 100000
set_option linter.all false
set_option maxHeartbeats 4000000
namespace Lx
open PySem PySem.Spec PyProof.Rows L2 Evl Kx
section
variable {P : Program} {w : World} {K : PySem.W.Frag} {mg : Str → Option Value} {base : Heap} {f : Addr} {fd : FuncData}
abbrev sNm : Stmt := top 3
abbrev sTp : Stmt := top 4
def letters : Str := "abcdefghijklmnopqrstuvwxyz"
def nameD : PyData → Bool
  | .str z => decide (1 ≤ z.length) && decide (z.length ≤ 8) && z.cps.toList.all fun c => decide (c ∈ letters.cps.toList)
  | _ => false
def strOk (d : PyData) : Prop := ∀ z, d = .str z → z.length ≤ sizeLine
theorem scNm : FnScope ["value", "sign"] ["value"] (defScope sNm) := ⟨rfl, rfl, rfl, by decide +kernel, rfl, by decide +kernel, by decide +kernel⟩
theorem scTp : FnScope ["value", "size"] ["value", "size"] (defScope sTp) := ⟨rfl, rfl, rfl, by decide +kernel, rfl, by decide +kernel, by decide +kernel⟩
/-- what only answers: bd of the data at the first place -/
structure spNm (K : PySem.W.Frag) (vs : List V) (H : Hp) (Q : VK) (E_ : XK) : Prop where
  mk' ::
  out : ∃ v d, vs = [v] ∧ Dq K H v d ∧ strOk d ∧ ∀ H2, Ex H H2 → Q (.bl (nameD d)) H2
theorem ok_nm {tk : Value} (F : Fun K "is_name" "is_name" sNm f fd) (mL : mg "len" = none) (mI : mg "isinstance" = none) (mS : mg "str" = none) (mA : mg "all" = none) (mT : mg "LETTERS" = some tk) (rT : RelV (.str letters) tk) {tn : Value} (mN : mg "LONGEST_NAME" = some tn) (rN : RelV (.int 8) tn) :
    FnOk P w K mg base CX0 1 f fd ["value"] (spNm K) := by
  refine F.ok scNm (fun vs H Q E h => ?_) (fun cdv A outer s H vs Q E hr h => ?_)
  · obtain ⟨_, _, rfl, _⟩ := h
    rfl
  · obtain ⟨v, d, rfl, hd, hz, q⟩ := h
    refine ⟨_, pss_cons (ps_if (PW.pt (pw_or (pt_not (pt_val (pe_callB (isi_S (K := K)) (by rfl) mI PyProof.Rows.boot_isinstance (pa_cons (pv 0) (pa_cons (pe_bltn (v := .ty "str") (by rfl) mS (by decide +kernel) rfl) pa_nil))))) (pw_or1 (pt_not (pt_chain op_le op_le pe_int (pe_callB call_len_str (by rfl) mL PySem.boot_len (pa_cons (pv 0) pa_nil)) (pe_glob (by rfl) mN rN)))))) (pss_one (ps_ret pe_bl)) pss_nil)
      (pss_one (ps_ret (pe_callB (cr_all rfl) (by rfl) mA (by decide +kernel) (pa_cons (pe_lc (own := [("sign", 1)]) (g := gName 1) rfl scNm.nd (pi_str (pv 0))
            (blkOk_by (own := [("sign", 1)]) (N := ["value", "sign"]) (sc := defScope sNm) (by decide +kernel))
            (fun _ _ _ _ _ => pg_name (i := 1) scNm.nd rfl (Or.inl rfl)) (fun _ _ _ _ _ => pts_nil)
            (fun _ _ _ _ _ => pe_cmpR op_in_sign (pv 1) (pe_glob (by rfl) mT rT) (by rfl))) pa_nil)))), ?_⟩
    refine ⟨_, rfl, isi_s hd ⟨_, rfl, ?_⟩⟩
    cases hd with
    | str z =>
      have hz := hz z rfl
      refine ite2 (fun h => Bool.noConfusion h) (fun _ => ⟨_, rfl, z, rfl, hz, _, _, rfl, rfl, _, rfl, ?_⟩)
      have hl : z.length = z.cps.toList.length := (Array.length_toList ..).symm
      refine ite2 (fun h1 => ⟨_, _, rfl, rfl, _, rfl, ?_⟩) (fun h1 => ⟨_, rfl, ?_⟩)
      · refine ite2 (fun h8 => ?_) (fun h8 => ?_)
        · have e : nameD (.str z) = false := by
            have : ¬ z.length ≤ 8 := fun y => by
              have e : decide ((z.length : Int) ≤ 8) = true := decide_eq_true (by omega)
              rw [e] at h8
              cases h8
            simp only [nameD, decide_eq_false this, Bool.and_false, Bool.false_and]
          have := q H (Ex.refl H)
          rw [e] at this
          exact this
        · have h1 : (1 : Int) ≤ z.length := of_decide_eq_true h1
          have h8 : z.length ≤ 8 := by
            have : (decide ((z.length : Int) ≤ 8)) = true := by
              cases y : decide ((z.length : Int) ≤ 8) with
              | true => rfl
              | false => exact (h8 (by rw [y]; rfl)).elim
            have := of_decide_eq_true this
            omega
          refine ⟨_, rfl, z, rfl, fun D nD => ?_⟩
          have e3z : (5000 : Nat) < sizeLine := by decide
          refine lc_text (x := z) (fun i H' => Ex H H' ∧ H' D = some (.lst (((z.cps.toList.take i).map fun c => decide (c ∈ letters.cps.toList)).map V.bl))) ?_ ?_ ?_
          · exact ⟨Ex.new nD, upd_same⟩
          · rintro i c H' hc ⟨x, hD⟩
            have hc' : z.cps.toList[i]? = some c := by
              rw [Array.getElem?_toList]
              exact hc
            refine ⟨rfl, _, rfl, c, letters, rfl, rfl, _, hD, ?_, ?_, ?_⟩
            · rw [List.length_map, List.length_map, List.length_take]
              omega
            · intro a o ha
              rw [upd_ne (ne_of_none ha nD)]
              exact x _ _ ha
            · rw [upd_same, List.take_succ, hc', List.map_append, List.map_append]
              rfl
          · rintro H' ⟨x, hD⟩
            have he : z.cps.toList.take z.cps.size = z.cps.toList := List.take_of_length_le (by rw [Array.length_toList]; exact Nat.le_refl _)
            rw [he] at hD
            refine ⟨D, _, rfl, SqL.of hD, ?_⟩
            have e : nameD (.str z) = ((z.cps.toList.map fun c => decide (c ∈ letters.cps.toList)).all id) := by
              have h1 : 1 ≤ z.length := by omega
              simp only [nameD, decide_eq_true h1, decide_eq_true h8, Bool.true_and, List.all_map]
              rfl
            have := q H' x
            rw [e] at this
            exact this
      · have e : nameD (.str z) = false := by
          have : ¬ 1 ≤ z.length := fun y => h1 (decide_eq_true (by omega))
          simp only [nameD, decide_eq_false this, Bool.false_and]
        have := q H (Ex.refl H)
        rw [e] at this
        exact ite2 (fun _ => this) (fun y => (y rfl).elim)
    | _ => exact ite2 (fun _ => q H (Ex.refl H)) (fun h => (h rfl).elim)
end
end Lx

set_option Elab.async false
set_option maxRecDepth 100000
set_option linter.all false
set_option maxHeartbeats 4000000
/-! KitB2: which data are bodies. -/
namespace Kx
open PySem PySem.Spec PyProof.Rows L2 Evl
def one1 (p : PyData → Bool) : List PyData → Bool
  | [a] => p a
  | _ => false
theorem one1_no {p : PyData → Bool} : ∀ {r : List PyData}, r.length ≠ 1 → one1 p r = false
  | [], _ => rfl
  | [_], h => absurd rfl h
  | _ :: _ :: _, _ => rfl
section
variable (ns rs : List Str)
mutual
def bodyF (mk : Bool) : PyData → Bool
  | .list xs => stepsF mk xs
  | _ => false
def stepsF (mk : Bool) : List PyData → Bool
  | [] => true
  | d :: r => stepF mk d && stepsF mk r
def stepF (mk : Bool) : PyData → Bool
  | .tuple xs => tupF mk xs
  | _ => false
def tupF (mk : Bool) : List PyData → Bool
  | [] => false
  | w :: r => if eqS w "call" then one1 (fun a => ns.any (eqS a)) r else if eqS w "tail" then one1 (fun a => ns.any (eqS a) && !mk) r else if eqS w "check" then one1 (fun a => rs.any (eqS a)) r
    else if eqS w "back" then r.isEmpty else nestF mk w r
def nestF (mk : Bool) (w : PyData) : List PyData → Bool
  | [a] => if eqS w "loop" then bodyF mk a else false
  | [a, b] => if eqS w "either" then bodyF mk a && bodyF mk b else if eqS w "block" then (match a with
      | .bool m => bodyF (mk || m) b
      | _ => false) else false
  | _ => false
end
end
theorem depth_mem {x : PyData} : ∀ {r : List PyData}, x ∈ r → x.depth ≤ PyData.depthAll r
  | y :: r, h => by
    simp only [PyData.depthAll]
    rcases List.mem_cons.mp h with rfl | h
    · omega
    · have := depth_mem h
      omega
theorem eqS_ne {w : PyData} {a b : Str} (h : eqS w a = true) (n : (a == b) = false) : eqS w b = false := by
  cases w with
  | str y =>
    have e : y = a := eq_of_beq h
    rw [e]
    exact n
  | _ => rfl
end Kx
namespace Kx
open PySem PySem.Spec PyProof.Rows L2 Evl
def onceF (ds : List PyData) : PyData → Bool
  | .str z => decide (ds.countP (fun d => eqS d z) = 1)
  | _ => false
def choiceF (rs : List Str) : PyData → Bool
  | .list ds => decide (ds.length ≤ rs.length) && ds.all fun x => rs.any (eqS x) && onceF ds x
  | _ => false
theorem any_str {rs : List Str} {d : PyData} (h : rs.any (eqS d) = true) : ∃ z, d = .str z ∧ z ∈ rs := by
  obtain ⟨w, hw, he⟩ := List.any_eq_true.mp h
  cases d with
  | str y =>
    have : y = w := eq_of_beq he
    exact ⟨y, rfl, this ▸ hw⟩
  | _ => cases he
end Kx
namespace Kx
open PySem PySem.Spec PyProof.Rows L2 Evl
section
variable {X : Cx} {K : PySem.W.Frag} {A : Around}
theorem op_inTsK (hu : A.units + 1 < cLine) (hA : X.A = A := by rfl) (h : X.K = K := by rfl) : OpR X (compareOp .In) (rInS K false) := h ▸ op_inTs (by rw [hA]; exact hu)
theorem op_eqSK (hu : A.units < cLine) (hA : X.A = A := by rfl) (h : X.K = K := by rfl) : OpR X (compareOp .Eq) (rEqS K) := h ▸ op_eqS (by rw [hA]; exact hu)
theorem mt_countSK (hu : A.units + 1 < cLine) (hA : X.A = A := by rfl) (h : X.K = K := by rfl) : MtR X "list.count" (rCntS K) := h ▸ mt_countS (by rw [hA]; exact hu)
theorem pe_bmK {o e : Expr} {es : List Expr} {to : TE} {t : TA} {name : Str} {apos cpos : Pos} {T id : String} {r : V → List V → Hp → VK → Prop} (pa : PlainAttrs T) (slot : Slot T name id) (hty : typeOf (.builtin id) = pure (.type "method_descriptor")) (hm : MtR X id r) (ho : PE X o to) (ha : PA X (e :: es) t) (h : X.K = K := by rfl)
    (hbase : attributeBase o name X.env (eval o X.env) = eval o X.env := by rfl)
    (hfew : ((backTo cpos (starEach (e :: es) X.env)).all (fun x => !x.1) && (backToKw cpos (keywordEach [] X.env)).all (fun x => x.1.isSome)
      && decide ((e :: es).length + ([] : List Keyword).length + (if ([] : List Keyword).isEmpty then 0 else 1) < 30)) = true := by rfl)
    (hline : (apos.endLine == cpos.line) = true := by rfl) (hs : starEach (e :: es) X.env = (false, eval e X.env) :: starEach es X.env := by rfl) (hplain : (backTo cpos (starEach es X.env)).any (·.1) = false := by rfl) :
    PE X (.Call (.Attribute o name apos) (e :: es) [] cpos) (tBM K T r to t) := h ▸ pe_bm pa slot hty hm ho ha hbase hfew hline hs hplain
end
end Kx
namespace Kx
open PySem PySem.Spec PyProof.Rows L2 Evl
section
variable {X : Cx} {K : PySem.W.Frag}
theorem pg_tupK {es : List Expr} {k : Nat} {t : TGs} {n : Nat} {pos : Pos} (hc : X.calm = true) (h : PGs X es t) (hK : X.K = K := by rfl) (hn : (assignEach es X.env).length = n := by rfl) (hst : (assignEach es X.env).findIdx? (·.1) = none := by rfl) : PG X (.Tuple es k pos) (gTup K n t) := hK ▸ pg_tup hc h hn hst
theorem call_listK (h : X.K = K := by rfl) : CallR X (.type "list") (rListS K) := h ▸ call_list_of
end
end Kx

set_option Elab.async false
set_option maxRecDepth 100000
set_option linter.all false
set_option maxHeartbeats 4000000
namespace Lx
open PySem PySem.Spec PyProof.Rows L2 Evl Kx
section
variable {P : Program} {w : World} {K : PySem.W.Frag} {mg : Str → Option Value} {base : Heap} {f : Addr} {fd : FuncData}
abbrev sBd : Stmt := top 5
abbrev sSt : Stmt := top 6
abbrev sNs : Stmt := top 7
theorem scBd : FnScope ["value", "names", "rights", "marked", "step"] ["value", "names", "rights", "marked"] (defScope sBd) := ⟨rfl, rfl, rfl, by decide +kernel, rfl, by decide +kernel, by decide +kernel⟩
theorem scSt : FnScope ["value", "names", "rights", "marked", "word"] ["value", "names", "rights", "marked"] (defScope sSt) := ⟨rfl, rfl, rfl, by decide +kernel, rfl, by decide +kernel, by decide +kernel⟩
theorem scNs : FnScope ["value", "names", "rights", "marked", "word", "fits", "part"] ["value", "names", "rights", "marked"] (defScope sNs) := ⟨rfl, rfl, rfl, by decide +kernel, rfl, by decide +kernel, by decide +kernel⟩
def tupN (n : Nat) : PyData → Bool
  | .tuple xs => decide (xs.length = n)
  | _ => false
structure spTp (K : PySem.W.Frag) (vs : List V) (H : Hp) (Q : VK) (E_ : XK) : Prop where
  mk' ::
  out : ∃ v d n, vs = [v, .int (n : Nat)] ∧ Dq K H v d ∧ Q (.bl (tupN n d)) H
theorem ok_tp (F : Fun K "is_tuple_of" "is_tuple_of" sTp f fd) (mL : mg "len" = none) (mI : mg "isinstance" = none) (mT : mg "tuple" = none) : FnOk P w K mg base CX0 1 f fd ["value", "size"] (spTp K) := by
  refine F.ok scTp (fun vs H Q E h => ?_) (fun cdv A outer s H vs Q E hr h => ?_)
  · obtain ⟨_, _, _, rfl, _⟩ := h
    rfl
  · obtain ⟨v, d, n, rfl, hd, q⟩ := h
    refine ⟨_, pss_one (ps_ret (pe_and (pe_callB (isi_S (K := K)) (by rfl) mI PyProof.Rows.boot_isinstance (pa_cons (pv 0) (pa_cons (pe_bltn (v := .ty "tuple") (by rfl) mT (by decide +kernel) rfl) pa_nil)))
      (pe_one (pe_cmpR op_eq (pe_callB call_len_seq (by rfl) mL PySem.boot_len (pa_cons (pv 0) pa_nil)) (pv 1) (nomark _))))), ?_⟩
    refine ⟨_, rfl, isi_t hd ⟨_, rfl, ?_⟩⟩
    cases hd with
    | @tup a xs ds hT hx =>
      refine ite2 (fun _ => ⟨_, rfl, a, xs, rfl, .inr hT, _, rfl, rfl, ?_⟩) (fun h => (h rfl).elim)
      have e : tupN n (.tuple ds) = decide (V.int xs.length = V.int n) := by
        rw [dqa_len hx]
        simp only [tupN, V.int.injEq]
        rw [Bool.eq_iff_iff, decide_eq_true_eq, decide_eq_true_eq]
        omega
      rw [e] at q
      exact q
    | _ => exact ite2 (fun h => Bool.noConfusion h) (fun _ => q)
/-- bodies, steps and nests: n bounds how deep the data is -/
structure spV (K : PySem.W.Frag) (g : List Str → List Str → Bool → PyData → Bool) (pre : PyData → Prop) (n : Nat) (vs : List V) (H : Hp) (Q : VK) (E_ : XK) : Prop where
  mk' ::
  out : ∃ v d pn pr ns rs mk, vs = [v, .ref pn, .ref pr, .bl mk] ∧ Dq K H v d ∧ d.depth ≤ n ∧ pre d ∧ H pn = some (.lst (ns.map V.str)) ∧ H pr = some (.lst (rs.map V.str)) ∧ ∀ H2, Ex H H2 → Q (.bl (g ns rs mk d)) H2
theorem one_of {H : Hp} {v0 : V} {vr : List V} {r : List PyData} (h : decide (V.int ((v0 :: vr).length : Nat) = V.int 2) = true) (h2 : DqA K H vr r) : ∃ a1 u1, r = [a1] ∧ vr = [u1] ∧ Dq K H u1 a1 := by
  have h := of_decide_eq_true h
  simp only [V.int.injEq, List.length_cons] at h
  cases h2 with
  | nil => simp only [List.length_nil] at h; omega
  | cons x y =>
    cases y with
    | nil => exact ⟨_, _, rfl, rfl, x⟩
    | cons x' y' => simp only [List.length_cons] at h; omega
theorem not_one {H : Hp} {v0 : V} {vr : List V} {r : List PyData} (h : ¬ decide (V.int ((v0 :: vr).length : Nat) = V.int 2) = true) (h2 : DqA K H vr r) : r.length ≠ 1 := fun z => h (decide_eq_true (by
  have := dqa_len h2
  simp only [V.int.injEq, List.length_cons]
  omega))
def preN (d : PyData) : Prop := ∃ w r, d = .tuple (w :: r)
def nestG (ns rs : List Str) (mk : Bool) : PyData → Bool
  | .tuple (w :: r) => nestF ns rs mk w r
  | _ => false
theorem ok_st {n : Nat} {fN : Addr} {fdN : FuncData} (F : Fun K "is_step" "is_step" sSt f fd) (FN : FnOk P w K mg base CX0 (3 * n + 2) fN fdN ["value", "names", "rights", "marked"] (spV K nestG preN n)) (mN : mg "is_nest" = some (.ref fN)) (kN : PySem.W.keepIn K (.ref fN) = true) (bN : Binds K fdN ["value", "names", "rights", "marked"] [])
    (mL : mg "len" = none) (mI : mg "isinstance" = none) (mT : mg "tuple" = none) : FnOk P w K mg base CX0 (3 * n + 3) f fd ["value", "names", "rights", "marked"] (spV K (fun ns rs => stepF ns rs) (fun _ => True) n) := by
  refine F.ok scSt (fun vs H Q E h => ?_) (fun cdv A outer s H vs Q E hr h => ?_)
  · obtain ⟨_, _, _, _, _, _, _, rfl, _⟩ := h
    rfl
  · obtain ⟨v, d, pn, pr, ns, rs, mk, rfl, hd, hn, _, hpn, hpr, q⟩ := h
    have hu := hr.units0
    have hu1 : _ + 1 < cLine := Nat.lt_of_le_of_lt (Nat.add_le_add_left (by decide : 1 ≤ 64) _) hr.units
    refine ⟨_, pss_cons (ps_if (PW.pt (pw_or (pt_not (pt_val (pe_callB (isi_S (K := K)) (by rfl) mI PyProof.Rows.boot_isinstance (pa_cons (pv 0) (pa_cons (pe_bltn (v := .ty "tuple") (by rfl) mT (by decide +kernel) rfl) pa_nil))))) (pw_or1 (pt_cmpR op_eq (pe_callB call_len_seq (by rfl) mL PySem.boot_len (pa_cons (pv 0) pa_nil)) pe_int (nomark _))))) (pss_one (ps_ret pe_bl)) pss_nil)
      (pss_cons (ps_set (i := 4) scSt.nd rfl (Or.inl rfl) (pe_ix ix_tup (pv 0) pe_int (fun _ _ => rfl)))
      (pss_cons (ps_if (pt_cmpR (op_eqS hu) (pv 4) pe_str (nomark _)) (pss_one (ps_ret (pe_and (pe_cmpR op_eq (pe_callB call_len_seq (by rfl) mL PySem.boot_len (pa_cons (pv 0) pa_nil)) pe_int (nomark _)) (pe_one (pe_cmpR (op_inTs hu1) (pe_ix ix_tup (pv 0) pe_int (fun _ _ => rfl)) (pv 1) (by rfl)))))) pss_nil)
      (pss_cons (ps_if (pt_cmpR (op_eqS hu) (pv 4) pe_str (nomark _)) (pss_one (ps_ret (pe_and (pe_cmpR op_eq (pe_callB call_len_seq (by rfl) mL PySem.boot_len (pa_cons (pv 0) pa_nil)) pe_int (nomark _)) (pe_and (pe_cmpR (op_inTs hu1) (pe_ix ix_tup (pv 0) pe_int (fun _ _ => rfl)) (pv 1) (by rfl)) (pe_one (pe_not (pv 3))))))) pss_nil)
      (pss_cons (ps_if (pt_cmpR (op_eqS hu) (pv 4) pe_str (nomark _)) (pss_one (ps_ret (pe_and (pe_cmpR op_eq (pe_callB call_len_seq (by rfl) mL PySem.boot_len (pa_cons (pv 0) pa_nil)) pe_int (nomark _)) (pe_one (pe_cmpR (op_inTs hu1) (pe_ix ix_tup (pv 0) pe_int (fun _ _ => rfl)) (pv 2) (by rfl)))))) pss_nil)
      (pss_cons (ps_if (pt_cmpR (op_eqS hu) (pv 4) pe_str (nomark _)) (pss_one (ps_ret (pe_cmpR op_eq (pe_callB call_len_seq (by rfl) mL PySem.boot_len (pa_cons (pv 0) pa_nil)) pe_int (nomark _)))) pss_nil)
      (pss_one (ps_ret (pe_call FN hr rfl mN kN bN .nil pass0 (pa_cons (pv 0) (pa_cons (pv 1) (pa_cons (pv 2) (pa_cons (pv 3) pa_nil)))))))))))), ?_⟩
    refine ⟨_, rfl, isi_t hd ⟨_, rfl, ?_⟩⟩
    cases hd with
    | @tup a xs ds hT hx =>
      have hl := dqa_len hx
      refine ite2 (fun h => Bool.noConfusion h) (fun _ => ⟨_, rfl, a, xs, rfl, .inr hT, rfl, _, rfl, ite2 (fun h0 => ?_) (fun h0 => ?_)⟩)
      · have : ds = [] := List.eq_nil_of_length_eq_zero (by
          have := of_decide_eq_true h0
          simp only [V.int.injEq] at this
          omega)
        subst this
        have := q H (Ex.refl H)
        simp only [stepF, tupF] at this
        exact this
      · cases hx with
        | nil => exact (h0 rfl).elim
        | @cons v0 vr w r h1 h2 =>
          have hl2 := dqa_len h2
          refine ⟨_, rfl, a, _, 0, v0, rfl, rfl, hT, atI_nat (j := 0) rfl, ?_⟩
          refine ⟨_, rfl, w, _, h1, rfl, _, rfl, ite2 (fun hc => ?_) (fun hc => ?_)⟩
          · have E : stepF ns rs mk (.tuple (w :: r)) = one1 (fun a => ns.any (eqS a)) r := by simp only [stepF, tupF, hc, if_true]
            simp only [E] at q
            refine ⟨_, rfl, a, _, rfl, .inr hT, rfl, _, rfl, ite2 (fun hn2 => ?_) (fun hn2 => ?_)⟩
            · obtain ⟨a1, u1, rfl, rfl, ha1⟩ := one_of hn2 h2
              exact ⟨_, rfl, a, _, 1, u1, rfl, rfl, hT, atI_nat (j := 1) rfl, _, rfl, a1, ns, pn, ha1, rfl, SqL.of hpn, q H (Ex.refl H)⟩
            · have := q H (Ex.refl H)
              rw [one1_no (not_one hn2 h2)] at this
              exact this
          refine ⟨_, rfl, w, _, h1, rfl, _, rfl, ite2 (fun ht => ?_) (fun ht => ?_)⟩
          · have E : stepF ns rs mk (.tuple (w :: r)) = one1 (fun a => ns.any (eqS a) && !mk) r := by simp only [stepF, tupF, hc, ht, if_true]; rfl
            simp only [E] at q
            refine ⟨_, rfl, a, _, rfl, .inr hT, rfl, _, rfl, ite2 (fun hn2 => ?_) (fun hn2 => ?_)⟩
            · obtain ⟨a1, u1, rfl, rfl, ha1⟩ := one_of hn2 h2
              have q := q H (Ex.refl H)
              simp only [one1] at q
              refine ⟨_, rfl, a, _, 1, u1, rfl, rfl, hT, atI_nat (j := 1) rfl, _, rfl, a1, ns, pn, ha1, rfl, SqL.of hpn, _, rfl, ite2 (fun hi => ⟨_, rfl, _, rfl, ?_⟩) (fun hi => ?_)⟩
              · have hi : ns.any (eqS a1) = true := by simpa using hi
                rw [hi] at q
                exact q
              · have hi : ns.any (eqS a1) = false := by simpa using hi
                rw [hi] at q
                exact q
            · have := q H (Ex.refl H)
              rw [one1_no (not_one hn2 h2)] at this
              exact this
          refine ⟨_, rfl, w, _, h1, rfl, _, rfl, ite2 (fun hk => ?_) (fun hk => ?_)⟩
          · have E : stepF ns rs mk (.tuple (w :: r)) = one1 (fun a => rs.any (eqS a)) r := by simp only [stepF, tupF, hc, ht, hk, if_true]; rfl
            simp only [E] at q
            refine ⟨_, rfl, a, _, rfl, .inr hT, rfl, _, rfl, ite2 (fun hn2 => ?_) (fun hn2 => ?_)⟩
            · obtain ⟨a1, u1, rfl, rfl, ha1⟩ := one_of hn2 h2
              exact ⟨_, rfl, a, _, 1, u1, rfl, rfl, hT, atI_nat (j := 1) rfl, _, rfl, a1, rs, pr, ha1, rfl, SqL.of hpr, q H (Ex.refl H)⟩
            · have := q H (Ex.refl H)
              rw [one1_no (not_one hn2 h2)] at this
              exact this
          refine ⟨_, rfl, w, _, h1, rfl, _, rfl, ite2 (fun hb => ?_) (fun hb => ?_)⟩
          · have E : stepF ns rs mk (.tuple (w :: r)) = r.isEmpty := by simp only [stepF, tupF, hc, ht, hk, hb, if_true]; rfl
            simp only [E] at q
            refine ⟨_, rfl, a, _, rfl, .inr hT, rfl, ?_⟩
            have e : r.isEmpty = decide (V.int ((v0 :: vr).length : Nat) = V.int 1) := by
              rw [Bool.eq_iff_iff, decide_eq_true_eq, List.isEmpty_iff_length_eq_zero, V.int.injEq]
              simp only [List.length_cons]
              omega
            rw [e] at q
            exact q H (Ex.refl H)
          · have E : stepF ns rs mk (.tuple (w :: r)) = nestG ns rs mk (.tuple (w :: r)) := by simp only [stepF, tupF, nestG, hc, ht, hk, hb]; rfl
            simp only [E] at q
            exact ⟨_, rfl, _, rfl, _, rfl, _, rfl, _, _, pn, pr, ns, rs, mk, rfl, .tup hT (.cons h1 h2), hn, ⟨w, r, rfl⟩, hpn, hpr, q⟩
    | _ =>
      have := q H (Ex.refl H)
      simp only [stepF] at this
      exact ite2 (fun _ => this) (fun h => (h rfl).elim)
theorem two_of {H : Hp} {v0 : V} {vr : List V} {r : List PyData} (h : decide (V.int ((v0 :: vr).length : Nat) = V.int 3) = true) (h2 : DqA K H vr r) : ∃ a1 a2 u1 u2, r = [a1, a2] ∧ vr = [u1, u2] ∧ Dq K H u1 a1 ∧ Dq K H u2 a2 := by
  have h := of_decide_eq_true h
  simp only [V.int.injEq, List.length_cons] at h
  cases h2 with
  | nil => simp only [List.length_nil] at h; omega
  | cons x y =>
    cases y with
    | nil => simp only [List.length_cons, List.length_nil] at h; omega
    | cons x' y' =>
      cases y' with
      | nil => exact ⟨_, _, _, _, rfl, rfl, x, x'⟩
      | cons _ _ => simp only [List.length_cons] at h; omega
theorem not_two {H : Hp} {v0 : V} {vr : List V} {r : List PyData} (h : ¬ decide (V.int ((v0 :: vr).length : Nat) = V.int 3) = true) (h2 : DqA K H vr r) : r.length ≠ 2 := fun z => h (decide_eq_true (by
  have := dqa_len h2
  simp only [V.int.injEq, List.length_cons]
  omega))
def bodG (ns rs : List Str) (mk : Bool) (d : PyData) : Bool := bodyF ns rs mk d
def spVP (K : PySem.W.Frag) : Nat → Sp
  | 0 => spNo
  | n + 1 => spV K bodG (fun _ => True) n
theorem ok_ns {n : Nat} {fB : Addr} {fdB : FuncData} {ds : List Value} (F : Fun K "is_nest" "is_nest" sNs f fd) (FB : FnOk P w K mg base CX0 (3 * n + 1) fB fdB ["value", "names", "rights", "marked"] (spVP K n)) (mB : mg "is_body" = some (.ref fB)) (kB : PySem.W.keepIn K (.ref fB) = true) (bB : Binds K fdB ["value", "names", "rights", "marked"] [])
    (mL : mg "len" = none) (mI : mg "isinstance" = none) (mBo : mg "bool" = none) (mA : mg "all" = none) : FnOk P w K mg base CX0 (3 * n + 2) f fd ["value", "names", "rights", "marked"] (spV K nestG preN n) := by
  refine F.ok scNs (fun vs H Q E h => ?_) (fun cdv A outer s H vs Q E hr h => ?_)
  · obtain ⟨_, _, _, _, _, _, _, rfl, _⟩ := h
    rfl
  · obtain ⟨v, d, pn, pr, ns, rs, mk, rfl, hd, hn, ⟨w, r, rfl⟩, hpn, hpr, q⟩ := h
    have hu := hr.units0
    refine ⟨_, pss_cons (ps_set (i := 4) scNs.nd rfl (Or.inl rfl) (pe_ix ix_tup (pv 0) pe_int (fun _ _ => rfl)))
      (pss_cons (ps_if (pt_cmpR (op_eqS hu) (pv 4) pe_str (nomark _)) (pss_one (ps_ret (pe_and (pe_cmpR op_eq (pe_callB call_len_seq (by rfl) mL PySem.boot_len (pa_cons (pv 0) pa_nil)) pe_int (nomark _)) (pe_one (pe_callB (cr_all rfl) (by rfl) mA (by decide +kernel) (pa_cons (pe_lc (own := [("part", 6)]) (g := gName 6) rfl scNs.nd (pi_tup (pe_slice sl_tup (pv 0) (po_some pe_int) po_none))
            (blkOk_by (own := [("part", 6)]) (N := ["value", "names", "rights", "marked", "word", "fits", "part"]) (sc := defScope sNs) (by decide +kernel))
            (fun _ _ _ _ _ => pg_name (i := 6) scNs.nd rfl (Or.inl rfl)) (fun _ _ _ _ _ => pts_nil)
            (fun _ _ _ _ _ => pe_call FB hr rfl mB kB bB .nil pass0 (pa_cons (pv 6) (pa_cons (pv 1) (pa_cons (pv 2) (pa_cons (pv 3) pa_nil)))))) pa_nil)))))) pss_nil)
      (pss_cons (ps_if (pt_cmpR (op_eqS hu) (pv 4) pe_str (nomark _)) (pss_one (ps_ret (pe_and (pe_cmpR op_eq (pe_callB call_len_seq (by rfl) mL PySem.boot_len (pa_cons (pv 0) pa_nil)) pe_int (nomark _)) (pe_one (pe_call FB hr rfl mB kB bB .nil pass0 (pa_cons (pe_ix ix_tup (pv 0) pe_int (fun _ _ => rfl)) (pa_cons (pv 1) (pa_cons (pv 2) (pa_cons (pv 3) pa_nil))))))))) pss_nil)
      (pss_cons (ps_if (pt_cmpR (op_eqS hu) (pv 4) pe_str (nomark _))
        (pss_cons (ps_set (i := 5) scNs.nd rfl (Or.inl rfl) (pe_and (pe_cmpR op_eq (pe_callB call_len_seq (by rfl) mL PySem.boot_len (pa_cons (pv 0) pa_nil)) pe_int (nomark _)) (pe_one (pe_callB (isi_S (K := K)) (by rfl) mI PyProof.Rows.boot_isinstance (pa_cons (pe_ix ix_tup (pv 0) pe_int (fun _ _ => rfl)) (pa_cons (pe_bltn (v := .ty "bool") (by rfl) mBo (by decide +kernel) rfl) pa_nil))))))
        (pss_one (ps_ret (pe_and (pv 5) (pe_one (pe_call FB hr rfl mB kB bB .nil pass0 (pa_cons (pe_ix ix_tup (pv 0) pe_int (fun _ _ => rfl)) (pa_cons (pv 1) (pa_cons (pv 2) (pa_cons (pe_or (pv 3) (pe_one (pe_ix ix_tup (pv 0) pe_int (fun _ _ => rfl)))) pa_nil))))))))))  pss_nil)
      (pss_one (ps_ret pe_bl))))), ?_⟩
    cases hd with
    | @tup a xs _ hT hx =>
    cases hx with
    | @cons v0 vr _ _ h1 h2 =>
    have hn1 : ∀ x ∈ r, x.depth + 1 ≤ n := fun x hx => by
      have := depth_mem hx
      simp only [PyData.depth, PyData.depthAll] at hn
      omega
    refine ⟨_, rfl, a, _, 0, v0, rfl, rfl, hT, atI_nat (j := 0) rfl, ?_⟩
    refine ⟨_, rfl, w, _, h1, rfl, _, rfl, ite2 (fun he => ?_) (fun he => ?_)⟩
    · have nl := eqS_ne (b := "loop") he (by decide)
      refine ⟨_, rfl, a, _, rfl, .inr hT, rfl, _, rfl, ite2 (fun h3 => ?_) (fun h3 => ?_)⟩
      · obtain ⟨d1, d2, u1, u2, rfl, rfl, g1, g2⟩ := two_of h3 h2
        obtain ⟨m, rfl⟩ : ∃ m, n = m + 1 := ⟨n - 1, by have := hn1 d1 (List.mem_cons_self ..); omega⟩
        have E : nestG ns rs mk (.tuple [w, d1, d2]) = (bodyF ns rs mk d1 && bodyF ns rs mk d2) := by simp only [nestG, nestF, he, if_true]
        rw [E] at q
        refine ⟨_, rfl, _, rfl, a, _, rfl, hT, (fun z => absurd z.1 (by show ¬ (1 : Nat) = 0; decide)), fun tp ntp => ⟨tp, rfl, ⟨_, SqT.of upd_same⟩, fun D nD => ?_⟩⟩
        have hcut : cutV [v0, u1, u2] (some 1) none = [u1, u2] := rfl
        rw [hcut] at nD ⊢
        have e1 : Ex H (upd H tp (.tup [u1, u2])) := Ex.new ntp
        refine lc_tup (K := K) (a := tp) (xs := [u1, u2]) (fun i H' => Ex (upd H tp (.tup [u1, u2])) H' ∧ H' D = some (.lst ((([d1, d2].take i).map fun x => bodyF ns rs mk x).map V.bl))) ?_ (fun i H' _ ⟨x, _⟩ => SqT.of (x _ _ upd_same)) ?_ ?_
        · exact ⟨Ex.new nD, upd_same⟩
        · rintro i x H' hx ⟨ex, hD⟩
          obtain ⟨dx, hdx, gx⟩ := dqa_get (.cons g1 (.cons g2 .nil)) hx
          have := hn1 dx (List.mem_of_getElem? hdx)
          refine ⟨rfl, _, rfl, _, rfl, _, rfl, _, rfl, x, dx, pn, pr, ns, rs, mk, rfl, gx.mono (same_ex (e1.trans ex)), by omega, trivial, ex _ _ (e1 _ _ hpn), ex _ _ (e1 _ _ hpr), fun H3 e3 => ⟨_, e3 _ _ hD, ?_, ?_, ?_⟩⟩
          · have e3z : (5000 : Nat) < sizeLine := by decide
            rw [List.length_map, List.length_map, List.length_take]
            simp only [List.length_cons, List.length_nil]
            omega
          · intro b o hb
            rw [upd_ne (ne_of_none hb nD)]
            exact e3 _ _ (ex _ _ hb)
          · rw [upd_same, List.take_succ, hdx, List.map_append, List.map_append]
            rfl
        · rintro H' ⟨ex, hD⟩
          refine ⟨D, _, rfl, SqL.of hD, ?_⟩
          have := q H' (e1.trans ex)
          have e : (([d1, d2].take [u1, u2].length).map fun x => bodyF ns rs mk x).all id = (bodyF ns rs mk d1 && bodyF ns rs mk d2) := by
            show ((bodyF ns rs mk d1) && ((bodyF ns rs mk d2) && true)) = _
            rw [Bool.and_true]
          rw [e]
          exact this
      · have E : nestG ns rs mk (.tuple (w :: r)) = false := by
          match r, not_two h3 h2 with
          | [], _ => rfl
          | [x], _ => simp only [nestG, nestF, nl]; rfl
          | [x, y], h => exact absurd rfl h
          | _ :: _ :: _ :: _, _ => rfl
        rw [E] at q
        exact q H (Ex.refl H)
    refine ⟨_, rfl, w, _, h1, rfl, _, rfl, ite2 (fun hl => ?_) (fun hl => ?_)⟩
    · have nb := eqS_ne (b := "block") hl (by decide)
      refine ⟨_, rfl, a, _, rfl, .inr hT, rfl, _, rfl, ite2 (fun h3 => ?_) (fun h3 => ?_)⟩
      · obtain ⟨d1, u1, rfl, rfl, g1⟩ := one_of h3 h2
        obtain ⟨m, rfl⟩ : ∃ m, n = m + 1 := ⟨n - 1, by have := hn1 d1 (List.mem_cons_self ..); omega⟩
        have := hn1 d1 (List.mem_cons_self ..)
        have E : nestG ns rs mk (.tuple [w, d1]) = bodyF ns rs mk d1 := by simp only [nestG, nestF, hl, if_true]
        rw [E] at q
        exact ⟨_, rfl, a, _, 1, u1, rfl, rfl, hT, atI_nat (j := 1) rfl, _, rfl, _, rfl, _, rfl, u1, d1, pn, pr, ns, rs, mk, rfl, g1, by omega, trivial, hpn, hpr, q⟩
      · have E : nestG ns rs mk (.tuple (w :: r)) = false := by
          match r, not_one h3 h2 with
          | [], _ => rfl
          | [x], h => exact absurd rfl h
          | [x, y], _ => simp only [nestG, nestF, he, nb]; rfl
          | _ :: _ :: _ :: _, _ => rfl
        rw [E] at q
        exact q H (Ex.refl H)
    refine ⟨_, rfl, w, _, h1, rfl, _, rfl, ite2 (fun hb => ?_) (fun hb => ?_)⟩
    · refine ⟨_, rfl, a, _, rfl, .inr hT, rfl, _, rfl, ite2 (fun h3 => ?_) (fun h3 => ?_)⟩
      · obtain ⟨d1, d2, u1, u2, rfl, rfl, g1, g2⟩ := two_of h3 h2
        obtain ⟨m, rfl⟩ : ∃ m, n = m + 1 := ⟨n - 1, by have := hn1 d1 (List.mem_cons_self ..); omega⟩
        have := hn1 d2 (List.mem_cons_of_mem _ (List.mem_cons_self ..))
        refine ⟨_, rfl, a, _, 1, u1, rfl, rfl, hT, atI_nat (j := 1) rfl, isi_b g1 ⟨_, rfl, _, rfl, ?_⟩⟩
        cases g1 with
        | bl mb =>
          have E : nestG ns rs mk (.tuple [w, .bool mb, d2]) = bodyF ns rs (mk || mb) d2 := by
            simp only [nestG, nestF, he, hb, if_true]
            rfl
          rw [E] at q
          refine ite2 (fun _ => ?_) (fun h => (h rfl).elim)
          refine ⟨_, rfl, a, _, 2, u2, rfl, rfl, hT, atI_nat (j := 2) rfl, _, rfl, _, rfl, _, rfl, mk, rfl, ?_⟩
          have fin : bodG ns rs (mk || mb) d2 = bodyF ns rs (mk || mb) d2 := rfl
          cases mk with
          | true => exact ite2 (fun _ => ⟨u2, d2, pn, pr, ns, rs, true, rfl, g2, by omega, trivial, hpn, hpr, q⟩) (fun h => (h rfl).elim)
          | false => exact ite2 (fun h => Bool.noConfusion h) (fun _ => ⟨_, rfl, a, _, 1, .bl mb, rfl, rfl, hT, atI_nat (j := 1) rfl, u2, d2, pn, pr, ns, rs, mb, rfl, g2, by omega, trivial, hpn, hpr, q⟩)
        | _ =>
          refine ite2 (fun h => Bool.noConfusion h) (fun _ => ?_)
          have := q H (Ex.refl H)
          simp only [nestG, nestF, he, hb, if_true] at this
          exact this
      · refine ⟨_, rfl, _, rfl, ite2 (fun h => Bool.noConfusion h) (fun _ => ?_)⟩
        have E : nestG ns rs mk (.tuple (w :: r)) = false := by
          match r, not_two h3 h2 with
          | [], _ => rfl
          | [x], _ => simp only [nestG, nestF, hl]; rfl
          | [x, y], h => exact absurd rfl h
          | _ :: _ :: _ :: _, _ => rfl
        rw [E] at q
        exact q H (Ex.refl H)
    · have E : nestG ns rs mk (.tuple (w :: r)) = false := by
        match r with
        | [] => rfl
        | [x] => simp only [nestG, nestF, hl]; rfl
        | [x, y] => simp only [nestG, nestF, he, hb]; rfl
        | _ :: _ :: _ :: _ => rfl
      rw [E] at q
      exact q H (Ex.refl H)
theorem steps_all {ns rs : List Str} {mk : Bool} : ∀ {ds : List PyData}, stepsF ns rs mk ds = ds.all fun d => stepF ns rs mk d
  | [] => by simp only [stepsF, List.all_nil]
  | d :: r => by simp only [stepsF, List.all_cons, steps_all (ds := r)]
/-- is_body: a def with a default -/
def FunB (K : PySem.W.Frag) (f : Addr) (fd : FuncData) : Prop := FunD K "is_body" "is_body" (defArgs sBd) (defBody sBd) (defScope sBd) [.bl false] [] f fd
theorem FunB.ok {N ps : List Str} {k : Nat} {sp : Sp} (F : FunB K f fd) (S : FnScope N ps (defScope sBd)) (len : ∀ vs H Q E, sp vs H Q E → vs.length = ps.length)
    (hbody : ∀ (cdv : Value) (A : Around) (outer : List Env) (s : Shared) (H : Hp) (vs : List V) (Q : VK) (E : XK), Room k (A.deeper (envOfC "is_body" (defScope sBd) s.heap.objs.size f cdv)) → sp vs H Q E →
      ∃ t, PSs (cxOf CX0 P w K mg base N "is_body" (defScope sBd) f cdv A outer s H E).nox (defBody sBd) t ∧ t { nx := fun _ H' => Q .non H', rt := Q } (start N vs) H) : FnOk P w K mg base CX0 (k + 1) f fd ps sp :=
  FunD.ok F S len fun cdv A outer s H vs Q E hr hsp => by
    obtain ⟨t, h, q⟩ := hbody cdv A outer s H vs Q E hr hsp
    exact ⟨t, h.nox, q⟩
theorem ok_bd {n : Nat} {fS : Addr} {fdS : FuncData} (F : FunB K f fd) (FS : FnOk P w K mg base CX0 (3 * n + 3) fS fdS ["value", "names", "rights", "marked"] (spV K (fun ns rs => stepF ns rs) (fun _ => True) n)) (mS : mg "is_step" = some (.ref fS)) (kS : PySem.W.keepIn K (.ref fS) = true) (bS : Binds K fdS ["value", "names", "rights", "marked"] [])
    (mI : mg "isinstance" = none) (mLi : mg "list" = none) : FnOk P w K mg base CX0 (3 * n + 4) f fd ["value", "names", "rights", "marked"] (spV K bodG (fun _ => True) n) := by
  refine F.ok scBd (fun vs H Q E h => ?_) (fun cdv A outer s H vs Q E hr h => ?_)
  · obtain ⟨_, _, _, _, _, _, _, rfl, _⟩ := h
    rfl
  · obtain ⟨v, d, pn, pr, ns, rs, mk, rfl, hd, hn, _, hpn, hpr, q⟩ := h
    refine ⟨_, pss_cons (ps_if (pt_not (pt_val (pe_callB (isi_S (K := K)) (by rfl) mI PyProof.Rows.boot_isinstance (pa_cons (pv 0) (pa_cons (pe_bltn (v := .ty "list") (by rfl) mLi (by decide +kernel) rfl) pa_nil))))) (pss_one (ps_ret pe_bl)) pss_nil)
      (pss_cons (ps_for PassesOwn.never rfl (pi_list (pv 0)) (pg_name (i := 4) scBd.nd rfl (Or.inl rfl))
        (pss_one (ps_if (pt_not (pt_val (pe_call FS hr rfl mS kS bS .nil pass0 (pa_cons (pv 4) (pa_cons (pv 1) (pa_cons (pv 2) (pa_cons (pv 3) pa_nil))))))) (pss_one (ps_ret pe_bl)) pss_nil)))
      (pss_one (ps_ret pe_bl))), ?_⟩
    refine ⟨_, rfl, isi_l hd ⟨_, rfl, ?_⟩⟩
    cases hd with
    | @lst a xs ds ha hx =>
      refine ite2 (fun h => Bool.noConfusion h) (fun _ => ⟨_, rfl, a, rfl, ⟨_, SqL.of ha⟩, ?_⟩)
      have E : bodG ns rs mk (.list ds) = ds.all fun d => stepF ns rs mk d := by
        unfold bodG
        simp only [bodyF]
        exact steps_all
      rw [E] at q
      have hl := dqa_len hx
      refine for_list (K := K) (a := a) (xs := xs) (fun i σ H' => ∃ t : Option V, σ = [some (.ref a), some (.ref pn), some (.ref pr), some (.bl mk), t] ∧ Ex H H' ∧ ((ds.take i).all fun d => stepF ns rs mk d) = true) ?_ (fun i σ H' _ ⟨_, _, x, _⟩ => SqL.of (x _ _ ha)) ?_ ?_
      · exact ⟨none, rfl, Ex.refl H, rfl⟩
      · rintro i x σ H' hi ⟨t, rfl, ex, hal⟩
        obtain ⟨dx, hdx, gx⟩ := dqa_get hx hi
        have := depth_mem (List.mem_of_getElem? hdx)
        simp only [PyData.depth] at hn
        refine ⟨_, rfl, _, rfl, _, rfl, _, rfl, x, dx, pn, pr, ns, rs, mk, rfl, gx.mono (same_ex ex), by omega, trivial, ex _ _ hpn, ex _ _ hpr, fun H3 e3 => ⟨_, rfl, ?_⟩⟩
        have tk : ds.take (i + 1) = ds.take i ++ [dx] := by
          rw [List.take_succ, hdx]
          rfl
        cases hst : stepF ns rs mk dx with
        | true =>
          refine ite2 (fun h => ?_) (fun _ => ⟨_, rfl, ex.trans e3, ?_⟩)
          · cases h
          rw [tk, List.all_append, hal]
          simp only [List.all_cons, List.all_nil, hst]
          rfl
        | false =>
          refine ite2 (fun _ => ?_) (fun h => (h rfl).elim)
          have hf : (ds.all fun d => stepF ns rs mk d) = false := by
            rw [Bool.eq_false_iff]
            intro z
            have := List.all_eq_true.mp z dx (List.mem_of_getElem? hdx)
            rw [hst] at this
            cases this
          rw [hf] at q
          exact q H3 (ex.trans e3)
      · rintro σ H' ⟨t, rfl, ex, hal⟩
        rw [hl, List.take_of_length_le (Nat.le_refl _)] at hal
        rw [hal] at q
        exact q H' ex
    | _ => exact ite2 (fun _ => q H (Ex.refl H)) (fun h => (h rfl).elim)
theorem ok_bd0 (F : FunB K f fd) : FnOk P w K mg base CX0 1 f fd ["value", "names", "rights", "marked"] spNo :=
  F.ok scBd (fun vs H Q E h => h.elim) (fun cdv A outer s H vs Q E hr h => h.elim)
theorem ok_bodies {fB fS fN : Addr} {fdB fdS fdN : FuncData} (FB : FunB K fB fdB) (FS : Fun K "is_step" "is_step" sSt fS fdS) (FN : Fun K "is_nest" "is_nest" sNs fN fdN)
    (mB : mg "is_body" = some (.ref fB)) (kB : PySem.W.keepIn K (.ref fB) = true) (bB : Binds K fdB ["value", "names", "rights", "marked"] [])
    (mS : mg "is_step" = some (.ref fS)) (kS : PySem.W.keepIn K (.ref fS) = true) (bS : Binds K fdS ["value", "names", "rights", "marked"] [])
    (mN : mg "is_nest" = some (.ref fN)) (kN : PySem.W.keepIn K (.ref fN) = true) (bN : Binds K fdN ["value", "names", "rights", "marked"] [])
    (mL : mg "len" = none) (mI : mg "isinstance" = none) (mBo : mg "bool" = none) (mA : mg "all" = none) (mT : mg "tuple" = none) (mLi : mg "list" = none) :
    ∀ n : Nat, FnOk P w K mg base CX0 (3 * n + 4) fB fdB ["value", "names", "rights", "marked"] (spV K bodG (fun _ => True) n)
  | 0 => ok_bd FB (ok_st FS (ok_ns (ds := []) FN (ok_bd0 FB) mB kB bB mL mI mBo mA) mN kN bN mL mI mT) mS kS bS mI mLi
  | n + 1 => ok_bd FB (ok_st FS (ok_ns (ds := []) FN (ok_bodies FB FS FN mB kB bB mS kS bS mN kN bN mL mI mBo mA mT mLi n) mB kB bB mL mI mBo mA) mN kN bN mL mI mT) mS kS bS mI mLi
end
end Lx

set_option Elab.async false
set_option maxRecDepth 100000
set_option linter.all false
set_option maxHeartbeats 4000000
/-! KitN2: a comprehension in a comprehension's block. -/
namespace Kx
open PySem PySem.Spec PyProof.Rows L2
theorem lookup_map {y : Str} {f : Str × NameKind → Str × NameKind} (h1 : ∀ x, (f x).1 = x.1) : ∀ {l : List (Str × NameKind)} {k : NameKind}, List.lookup y l = some k → List.lookup y (l.map f) = some (f (y, k)).2
  | [], k, h => nomatch h
  | (n, k1) :: l, k, h => by
    rw [List.map_cons, show f (n, k1) = ((f (n, k1)).1, (f (n, k1)).2) from rfl, List.lookup_cons, h1]
    rw [List.lookup_cons] at h
    cases e : (y == n) with
    | true =>
      rw [e] at h
      have e2 : y = n := of_decide_eq_true (by simpa using e)
      subst e2
      cases h
      rfl
    | false =>
      rw [e] at h
      exact lookup_map h1 h
theorem blk_re {N : List Str} {sc scope : Scope} {env : Env} {own : List (Str × Nat)} (h : BlkOk N sc scope own) : BlkOk N (relabel sc env) scope own := by
  refine ⟨h.kind, h.uniq, h.ix, fun y hy e => ?_, h.own⟩
  rcases h.free y hy e with z | z
  · refine .inl ?_
    unfold relabel
    rw [lookup_map (fun x => by dsimp only; split <;> rfl) z]
    dsimp only
    split <;> rfl
  · unfold relabel
    rw [lookup_map (fun x => by dsimp only; split <;> rfl) z]
    dsimp only
    split
    · exact .inl rfl
    · exact .inr rfl
theorem pi_listK {X : Cx} {K : PySem.W.Frag} {tg l : Expr} {tl : TE} (hp : PE X l tl) (h : X.K = K := by rfl) : PI X tg l (iList K tl) := h ▸ pi_list hp
theorem pi_tupK {X : Cx} {K : PySem.W.Frag} {tg l : Expr} {tl : TE} (hp : PE X l tl) (h : X.K = K := by rfl) : PI X tg l (iTup K tl) := h ▸ pi_tup hp
end Kx

set_option Elab.async false
set_option maxRecDepth 100000
set_option linter.all false
set_option maxHeartbeats 4000000
namespace Lx
open PySem PySem.Spec PyProof.Rows L2 Evl Kx
section
variable {P : Program} {w : World} {K : PySem.W.Frag} {mg : Str → Option Value} {base : Heap} {f : Addr} {fd : FuncData}
abbrev sCb : Stmt := top 8
abbrev sCs : Stmt := top 9
abbrev sWi : Stmt := top 10
theorem scCb : FnScope ["body", "step"] ["body"] (defScope sCb) := ⟨rfl, rfl, rfl, by decide +kernel, rfl, by decide +kernel, by decide +kernel⟩
theorem scCs : FnScope ["step"] ["step"] (defScope sCs) := ⟨rfl, rfl, rfl, by decide +kernel, rfl, by decide +kernel, by decide +kernel⟩
theorem scWi : FnScope ["step", "change", "part", "inner"] ["step", "change"] (defScope sWi) := ⟨rfl, rfl, rfl, by decide +kernel, rfl, by decide +kernel, by decide +kernel⟩
def spCs (K : PySem.W.Frag) (d : Nat) : Sp := fun vs H Q _ => ∃ (p : Addr) (s : Stp), vs = [.ref p] ∧ Dq K H (.ref p) (stpD s) ∧ nstS s ≤ d ∧ cntS s ≤ 4096 ∧ ∀ p2 H2 M, New H H2 M → FrN K H M (.ref p2) (stpD s) → Q (.ref p2) H2
def spCb (K : PySem.W.Frag) (d : Nat) : Sp := fun vs H Q _ => ∃ (p : Addr) (b : List Stp), vs = [.ref p] ∧ Dq K H (.ref p) (.list (bodyD b)) ∧ nstB b ≤ d ∧ cntB b ≤ 4096 ∧ ∀ p2 H2 M, New H H2 M → FrN K H M (.ref p2) (.list (bodyD b)) → Q (.ref p2) H2
def spCsP (K : PySem.W.Frag) : Nat → Sp
  | 0 => spNo
  | d + 1 => spCs K d
def spWi (K : PySem.W.Frag) (fS : Addr) (d : Nat) : Sp := fun vs H Q _ => ∃ (p : Addr) (s : Stp), vs = [.ref p, .ref fS] ∧ Dq K H (.ref p) (stpD s) ∧ nstS s ≤ d ∧ cntS s ≤ 4096 ∧ ∀ p2 H2 M, New H H2 M → FrN K H M (.ref p2) (stpD s) → Q (.ref p2) H2
theorem ok_wi {d : Nat} {fS : Addr} {fdS : FuncData} (F : Fun K "with_inner" "with_inner" sWi f fd) (FS : FnOk P w K mg base CX0 (2 * d) fS fdS ["step"] (spCsP K d)) (kS : PySem.W.keepIn K (.ref fS) = true) (bS : Binds K fdS ["step"] [])
    (mT : mg "tuple" = none) (mI : mg "isinstance" = none) (mL : mg "list" = none) : FnOk P w K mg base CX0 (2 * d + 1) f fd ["step", "change"] (spWi K fS d) := by
  refine F.ok scWi (fun vs H Q E h => ?_) (fun cdv A outer s H vs Q E hr h => ?_)
  · obtain ⟨_, _, rfl, _⟩ := h
    rfl
  · obtain ⟨p, s, rfl, hv, hn, hc, q⟩ := h
    refine ⟨_, pss_one (ps_ret (pe_tupleOf (by rfl) mT (pe_lc (own := [("part", 2)]) (g := gName 2) rfl scWi.nd (pi_tup (pv 0))
            (blkOk_by (own := [("part", 2)]) (N := ["step", "change", "part", "inner"]) (sc := defScope sWi) (by decide +kernel))
            (fun _ _ _ _ _ => pg_name (i := 2) scWi.nd rfl (Or.inl rfl)) (fun _ _ _ _ _ => pts_nil)
            (fun _ _ _ _ _ => pe_ifExp (pt_val (pe_callB (isi_S (K := K)) (by rfl) mI PyProof.Rows.boot_isinstance (pa_cons (pv 2) (pa_cons (pe_bltn (v := .ty "list") (by rfl) mL (by decide +kernel) rfl) pa_nil))))
              (pe_lc (own := [("inner", 3)]) (g := gName 3) rfl scWi.nd (pi_listK (K := K) (pv 2))
                (blk_re (blkOk_by (own := [("inner", 3)]) (N := ["step", "change", "part", "inner"]) (by decide +kernel)))
                (fun _ _ _ _ _ => pg_name (i := 3) scWi.nd rfl (Or.inl rfl)) (fun _ _ _ _ _ => pts_nil)
                (fun _ _ _ _ _ => pe_callL (i := 1) FS hr rfl (Or.inr (Or.inl rfl)) kS bS .nil pass0 (pa_cons (pv 3) pa_nil))) (pv 2))))), ?_⟩
    obtain ⟨ta, ys, ep, eT, hy⟩ := step_at hv
    cases ep
    have h3 : (partsP s).length ≤ 3 := by cases s <;> simp only [partsP, List.length_cons, List.length_nil] <;> omega
    refine ⟨_, rfl, p, rfl, ⟨_, eT⟩, fun D nD => ?_⟩
    refine lc_tup (K := K) (a := p) (xs := ys) (fun j H'' => ∃ (M2 : Hp) (zs : List V), New H H'' M2 ∧ H'' D = some (.lst zs) ∧ M2 D = none ∧ FrA K H M2 zs (((partsP s).take j).map (·.1))) ?_ (fun j H'' _ ⟨_, _, z, _⟩ => sqt_ex (same_ex z.hh) eT) ?_ ?_
    · exact ⟨emp, [], New.refl.own nD, upd_same, rfl, FrA.nil⟩
    · rintro j v H'' hj ⟨M2, zs, z, hD, mD, hz⟩
      obtain ⟨⟨pd, po⟩, hpp, hvd⟩ := part_get hy hj
      have hvg := hvd
      have hvd := hvd.mono (same_ex z.hh)
      have htk : (partsP s).take (j + 1) = (partsP s).take j ++ [(pd, po)] := by
        rw [List.take_succ, hpp]
        rfl
      have hzl : zs.length < sizeLine := by
        have := dqa_len hz.dq
        rw [List.length_map, List.length_take] at this
        have e3z : (5 : Nat) < sizeLine := by decide
        omega
      have fin : ∀ (v3 : V) (H3 M3 : Hp), New H'' H3 M3 → FrN K H'' M3 v3 pd → ∃ acc, H3 D = some (.lst acc) ∧ acc.length < sizeLine ∧ ∃ (M2 : Hp) (zs : List V), New H (upd H3 D (.lst (acc ++ [v3]))) M2 ∧ (upd H3 D (.lst (acc ++ [v3]))) D = some (.lst zs) ∧ M2 D = none ∧ FrA K H M2 zs (((partsP s).take (j + 1)).map (·.1)) := by
        intro v3 H3 M3 k3 h3
        have hD3 := k3.hh _ _ hD
        have mD3 : join M2 M3 D = none := join_none mD (k3.fr _ _ hD)
        refine ⟨zs, hD3, hzl, join M2 M3, zs ++ [v3], (z.trans k3).wr nD mD3, upd_same, mD3, ?_⟩
        rw [htk, List.map_append]
        exact FrA.app z hz join_l (z.right k3) h3
      refine ⟨rfl, _, rfl, isi_l hvd ⟨_, rfl, ?_⟩⟩
      rcases parts_ok (List.mem_of_getElem? hpp) with ⟨h1, h2⟩ | ⟨b', h1, h2, h3, h4⟩
      · refine ite2 (fun h => ?_) (fun _ => ?_)
        · simp only [h1] at h
          cases h
        · exact ⟨_, rfl, fin v H'' emp New.refl (FrN.flat (parts_flat (List.mem_of_getElem? hpp) h1) (flat_dq (parts_flat (List.mem_of_getElem? hpp) h1) hvg))⟩
      · subst h1 h2
        refine ite2 (fun h => ?_) (fun h => (h rfl).elim)
        obtain ⟨d', rfl⟩ : ∃ d', d = d' + 1 := ⟨d - 1, by omega⟩
        cases hvd with
        | @lst pa xs2 _ hp2 hx2 =>
        have hlen : xs2.length = b'.length := by
          have := dqa_len hx2
          rw [bodyD_map, List.length_map] at this
          exact this
        refine ⟨_, rfl, pa, rfl, ⟨_, SqL.of hp2⟩, fun D2 nD2 => ?_⟩
        refine lc_list (K := K) (a := pa) (xs := xs2) (fun i H' => ∃ (M : Hp) (acc : List V), New H'' H' M ∧ H' D2 = some (.lst acc) ∧ M D2 = none ∧ FrA K H'' M acc (bodyD (b'.take i))) ?_ (fun i H' _ ⟨_, _, k, _⟩ => SqL.of (k.hh _ _ hp2)) ?_ ?_
        · exact ⟨emp, [], New.refl.own nD2, upd_same, rfl, by simp only [List.take_zero, bodyD]; exact FrA.nil⟩
        · rintro i x H' hi ⟨M, acc, k, hD2, mD2, ha⟩
          obtain ⟨s', hs, hv'⟩ := body_get hx2 hi
          obtain ⟨ta, ys', rfl, hT, hy'⟩ := step_at hv'
          have hst : s' ∈ b' := List.mem_of_getElem? hs
          refine ⟨rfl, rfl, _, rfl, ta, s', rfl, hv'.mono (same_ex k.hh), (by have := nst_mem hst; omega), (by have := cnt_mem hst; omega), fun p3 H3 M3 k3 h3 => ?_⟩
          have hD3 := k3.hh _ _ hD2
          have mD3 : join M M3 D2 = none := join_none mD2 (k3.fr _ _ hD2)
          refine ⟨acc, hD3, ?_, join M M3, acc ++ [.ref p3], (k.trans k3).wr nD2 mD3, upd_same, mD3, ?_⟩
          · have := dqa_len ha.dq
            rw [bodyD_map, List.length_map, List.length_take] at this
            have h2 := (List.getElem?_eq_some_iff.mp hi).1
            have h3 := len_cnt b'
            have e3z : (5000 : Nat) < sizeLine := by decide
            omega
          · rw [bodyD_map, List.take_succ, hs, List.map_append, ← bodyD_map]
            exact FrA.app k ha join_l (k.right k3) h3
        · rintro H' ⟨M, acc, k, hD2, mD2, ha⟩
          rw [hlen, List.take_of_length_le (Nat.le_refl _)] at ha
          exact fin (.ref D2) H' _ (k.frz nD2 hD2) (FrN.lst ha mD2 nD2)
    · rintro H'' ⟨M2, zs, z, hD, mD, hz⟩
      have hl : ys.length = (partsP s).length := by
        have := dqa_len hy
        rw [List.length_map] at this
        exact this
      rw [hl, List.take_of_length_le (Nat.le_refl _)] at hz
      refine .inl ⟨D, zs, rfl, SqL.of hD, fun tp ntp => q tp _ _ (z.put (o := .tup zs) ntp) ?_⟩
      rw [stpD_parts]
      exact FrN.tup hz (Ex.new (z.none ntp)) upd_same
theorem ok_cs {d : Nat} {fW : Addr} {fdW : FuncData} (F : Fun K "copy_step" "copy_step" sCs f fd) (FW : FnOk P w K mg base CX0 (2 * d + 1) fW fdW ["step", "change"] (spWi K f d)) (mW : mg "with_inner" = some (.ref fW)) (kW : PySem.W.keepIn K (.ref fW) = true) (bW : Binds K fdW ["step", "change"] [])
    (mS : mg "copy_step" = some (.ref f)) : FnOk P w K mg base CX0 (2 * d + 2) f fd ["step"] (spCs K d) := by
  refine F.ok scCs (fun vs H Q E h => ?_) (fun cdv A outer s H vs Q E hr h => ?_)
  · obtain ⟨_, _, rfl, _⟩ := h
    rfl
  · obtain ⟨p, s, rfl, hv, hn, hc, q⟩ := h
    refine ⟨_, pss_one (ps_ret (pe_call FW hr rfl mW kW bW .nil pass0 (pa_cons (pv 0) (pa_cons (pe_glob (v := .ref f) (by rfl) mS rfl) pa_nil)))), ?_⟩
    exact ⟨_, rfl, p, s, rfl, hv, hn, hc, q⟩
theorem ok_cb {d : Nat} {fS : Addr} {fdS : FuncData} (F : Fun K "copy_body" "copy_body" sCb f fd) (FS : FnOk P w K mg base CX0 (2 * d + 2) fS fdS ["step"] (spCs K d)) (mS : mg "copy_step" = some (.ref fS)) (kS : PySem.W.keepIn K (.ref fS) = true) (bS : Binds K fdS ["step"] []) :
    FnOk P w K mg base CX0 (2 * d + 3) f fd ["body"] (spCb K d) := by
  refine F.ok scCb (fun vs H Q E h => ?_) (fun cdv A outer s H vs Q E hr h => ?_)
  · obtain ⟨_, _, rfl, _⟩ := h
    rfl
  · obtain ⟨p, b, rfl, hd, hn, hc, q⟩ := h
    refine ⟨_, pss_one (ps_ret (pe_lc (own := [("step", 1)]) (g := gName 1) rfl scCb.nd (pi_list (pv 0))
            (blkOk_by (own := [("step", 1)]) (N := ["body", "step"]) (sc := defScope sCb) (by decide +kernel))
            (fun _ _ _ _ _ => pg_name (i := 1) scCb.nd rfl (Or.inl rfl)) (fun _ _ _ _ _ => pts_nil)
            (fun _ _ _ _ _ => pe_call FS hr rfl mS kS bS .nil pass0 (pa_cons (pv 1) pa_nil)))), ?_⟩
    cases hd with
    | @lst _ xs _ hp hx =>
    have hlen : xs.length = b.length := by
      have := dqa_len hx
      rw [bodyD_map, List.length_map] at this
      exact this
    refine ⟨_, rfl, p, rfl, ⟨_, SqL.of hp⟩, fun D nD => ?_⟩
    refine lc_list (K := K) (a := p) (xs := xs) (fun i H' => ∃ (M : Hp) (acc : List V), New H H' M ∧ H' D = some (.lst acc) ∧ M D = none ∧ FrA K H M acc (bodyD (b.take i))) ?_ (fun i H' _ ⟨_, _, k, _⟩ => SqL.of (k.hh _ _ hp)) ?_ ?_
    · exact ⟨emp, [], New.refl.own nD, upd_same, rfl, by simp only [List.take_zero, bodyD]; exact FrA.nil⟩
    · rintro i x H' hi ⟨M, acc, k, hD, mD, ha⟩
      obtain ⟨s, hs, hv⟩ := body_get hx hi
      obtain ⟨ta, ys, rfl, hT, hy⟩ := step_at hv
      have hst : s ∈ b := List.mem_of_getElem? hs
      refine ⟨rfl, _, rfl, ta, s, rfl, hv.mono (same_ex k.hh), (by have := nst_mem hst; omega), (by have := cnt_mem hst; omega), fun p3 H3 M3 k3 h3 => ?_⟩
      have hD3 := k3.hh _ _ hD
      have mD3 : join M M3 D = none := join_none mD (k3.fr _ _ hD)
      refine ⟨acc, hD3, ?_, join M M3, acc ++ [.ref p3], (k.trans k3).wr nD mD3, upd_same, mD3, ?_⟩
      · have := dqa_len ha.dq
        rw [bodyD_map, List.length_map, List.length_take] at this
        have h2 := (List.getElem?_eq_some_iff.mp hi).1
        have h3 := len_cnt b
        have e3z : (5000 : Nat) < sizeLine := by decide
        omega
      · rw [bodyD_map, List.take_succ, hs, List.map_append, ← bodyD_map]
        exact FrA.app k ha join_l (k.right k3) h3
    · rintro H' ⟨M, acc, k, hD, mD, ha⟩
      rw [hlen, List.take_of_length_le (Nat.le_refl _)] at ha
      exact q D H' _ (k.frz nD hD) (FrN.lst ha mD nD)
theorem no_ok {fd : FuncData} {ps : List Str} : FnOk P w K mg base CX0 0 f fd ps spNo :=
  ⟨fun _ _ _ _ h => h.elim, fun _ _ _ _ _ _ _ _ _ _ _ _ _ h => h.elim⟩
theorem ok_css {fW fS : Addr} {fdW fdS : FuncData} (FW : Fun K "with_inner" "with_inner" sWi fW fdW) (FS : Fun K "copy_step" "copy_step" sCs fS fdS)
    (mW : mg "with_inner" = some (.ref fW)) (kW : PySem.W.keepIn K (.ref fW) = true) (bW : Binds K fdW ["step", "change"] [])
    (mS : mg "copy_step" = some (.ref fS)) (kS : PySem.W.keepIn K (.ref fS) = true) (bS : Binds K fdS ["step"] [])
    (mT : mg "tuple" = none) (mI : mg "isinstance" = none) (mL : mg "list" = none) : ∀ d : Nat, FnOk P w K mg base CX0 (2 * d + 2) fS fdS ["step"] (spCs K d)
  | 0 => ok_cs FS (ok_wi (d := 0) FW no_ok kS bS mT mI mL) mW kW bW mS
  | d + 1 => ok_cs FS (ok_wi (d := d + 1) FW (ok_css FW FS mW kW bW mS kS bS mT mI mL d) kS bS mT mI mL) mW kW bW mS
theorem ok_copies {fB fS fW : Addr} {fdB fdS fdW : FuncData} (FB : Fun K "copy_body" "copy_body" sCb fB fdB) (FS : Fun K "copy_step" "copy_step" sCs fS fdS) (FW : Fun K "with_inner" "with_inner" sWi fW fdW)
    (mS : mg "copy_step" = some (.ref fS)) (kS : PySem.W.keepIn K (.ref fS) = true) (bS : Binds K fdS ["step"] []) (mW : mg "with_inner" = some (.ref fW)) (kW : PySem.W.keepIn K (.ref fW) = true) (bW : Binds K fdW ["step", "change"] [])
    (mT : mg "tuple" = none) (mI : mg "isinstance" = none) (mL : mg "list" = none) (d : Nat) : FnOk P w K mg base CX0 (2 * d + 3) fB fdB ["body"] (spCb K d) :=
  ok_cb FB (ok_css FW FS mW kW bW mS kS bS mT mI mL d) mS kS bS
end
end Lx

set_option Elab.async false
set_option maxRecDepth 100000
set_option linter.all false
set_option maxHeartbeats 4000000
namespace Lx
open PySem PySem.Spec PyProof.Rows L2 Evl Kx
def ownerF (rs : List Str) : PyData → Bool
  | .tuple [a, b] => nameD a && choiceF rs b
  | _ => false
def functionF (os ns rs : List Str) : PyData → Bool
  | .tuple [a, b, c] => nameD a && os.any (eqS b) && bodyF ns rs false c
  | _ => false
section
variable {P : Program} {w : World} {K : PySem.W.Frag} {mg : Str → Option Value} {base : Heap} {f : Addr} {fd : FuncData}
abbrev sOwn : Stmt := top 24
abbrev sCho : Stmt := top 25
abbrev sFun : Stmt := top 26
theorem scOwn : FnScope ["value", "rights"] ["value", "rights"] (defScope sOwn) := ⟨rfl, rfl, rfl, by decide +kernel, rfl, by decide +kernel, by decide +kernel⟩
theorem scCho : FnScope ["value", "rights", "right"] ["value", "rights"] (defScope sCho) := ⟨rfl, rfl, rfl, by decide +kernel, rfl, by decide +kernel, by decide +kernel⟩
theorem scFun : FnScope ["value", "owner_names", "names", "rights"] ["value", "owner_names", "names", "rights"] (defScope sFun) := ⟨rfl, rfl, rfl, by decide +kernel, rfl, by decide +kernel, by decide +kernel⟩
structure spCho (K : PySem.W.Frag) (vs : List V) (H : Hp) (Q : VK) (E_ : XK) : Prop where
  mk' ::
  out : ∃ v d pr rs, vs = [v, .ref pr] ∧ Dq K H v d ∧ H pr = some (.lst (rs.map V.str)) ∧ rs.length ≤ 4096 ∧ ∀ H2, Ex H H2 → Q (.bl (choiceF rs d)) H2
theorem ok_cho (F : Fun K "is_choice" "is_choice" sCho f fd) (mL : mg "len" = none) (mI : mg "isinstance" = none) (mLi : mg "list" = none) (mA : mg "all" = none) : FnOk P w K mg base CX0 1 f fd ["value", "rights"] (spCho K) := by
  refine F.ok scCho (fun vs H Q E h => ?_) (fun cdv A outer s H vs Q E hr h => ?_)
  · obtain ⟨_, _, _, _, rfl, _⟩ := h
    rfl
  · obtain ⟨v, d, pr, rs, rfl, hd, hpr, hrl, q⟩ := h
    have hu := hr.units0
    have hu1 : (A.deeper (envOfC "is_choice" (defScope sCho) s.heap.objs.size f cdv)).units + 1 < cLine := Nat.lt_of_le_of_lt (Nat.add_le_add_left (by decide : 1 ≤ 64) _) hr.units
    refine ⟨_, pss_cons (ps_if (PW.pt (pw_or (pt_not (pt_val (pe_callB (isi_S (K := K)) (by rfl) mI PyProof.Rows.boot_isinstance (pa_cons (pv 0) (pa_cons (pe_bltn (v := .ty "list") (by rfl) mLi (by decide +kernel) rfl) pa_nil))))) (pw_or1 (pt_cmpR op_gt (pe_callB call_len_seq (by rfl) mL PySem.boot_len (pa_cons (pv 0) pa_nil)) (pe_callB call_len_seq (by rfl) mL PySem.boot_len (pa_cons (pv 1) pa_nil)) (nomark _))))) (pss_one (ps_ret pe_bl)) pss_nil)
      (pss_one (ps_ret (pe_callB (cr_all rfl) (by rfl) mA (by decide +kernel) (pa_cons (pe_lc (own := [("right", 2)]) (g := gName 2) rfl scCho.nd (pi_list (pv 0))
            (blkOk_by (own := [("right", 2)]) (N := ["value", "rights", "right"]) (sc := defScope sCho) (by decide +kernel))
            (fun _ _ _ _ _ => pg_name (i := 2) scCho.nd rfl (Or.inl rfl)) (fun _ _ _ _ _ => pts_nil)
            (fun _ _ _ _ _ => pe_and (pe_cmpR (op_inTsK (K := K) hu1) (pv 2) (pv 1) (by rfl)) (pe_one (pe_cmpR op_eq (pe_bmK (K := K) PySem.F.plainAttrs_list PySem.F.slot_list_count PySem.F.type_list_count (mt_countSK (K := K) hu1) (pv 0) (pa_cons (pv 2) pa_nil)) pe_int (nomark _))))) pa_nil)))), ?_⟩
    refine ⟨_, rfl, isi_l hd ⟨_, rfl, ?_⟩⟩
    cases hd with
    | @lst a xs ds ha hx =>
      have hl := dqa_len hx
      have hrl2 : (rs.map V.str).length = rs.length := List.length_map ..
      refine ite2 (fun h => Bool.noConfusion h) (fun _ => ⟨_, rfl, a, xs, rfl, .inl (SqL.of ha), _, rfl, pr, _, rfl, .inl (SqL.of hpr), _, _, rfl, rfl, _, rfl, ite2 (fun hg => ?_) (fun hg => ?_)⟩)
      · have hg := of_decide_eq_true hg
        have : ¬ ds.length ≤ rs.length := by omega
        have := q H (Ex.refl H)
        simp only [choiceF, decide_eq_false ‹¬ ds.length ≤ rs.length›, Bool.false_and] at this
        exact this
      · have hg : ds.length ≤ rs.length := by
          have : ¬ ((rs.map V.str).length : Int) < (xs.length : Int) := fun z => hg (decide_eq_true z)
          omega
        simp only [choiceF, decide_eq_true hg, Bool.true_and] at q
        refine ⟨_, rfl, a, rfl, ⟨_, SqL.of ha⟩, fun D nD => ?_⟩
        refine lc_list (K := K) (a := a) (xs := xs) (fun i H' => Ex H H' ∧ H' D = some (.lst (((ds.take i).map fun x => rs.any (eqS x) && onceF ds x).map V.bl))) ?_ (fun i H' _ ⟨x, _⟩ => SqL.of (x _ _ ha)) ?_ ?_
        · exact ⟨Ex.new nD, upd_same⟩
        · rintro i x H' hx' ⟨ex, hD⟩
          obtain ⟨dx, hdx, gx⟩ := dqa_get hx hx'
          have fin : ∀ b : Bool, b = (rs.any (eqS dx) && onceF ds dx) → ∃ acc, H' D = some (.lst acc) ∧ acc.length < sizeLine ∧ Ex H (upd H' D (.lst (acc ++ [.bl b]))) ∧ (upd H' D (.lst (acc ++ [.bl b]))) D = some (.lst (((ds.take (i + 1)).map fun x => rs.any (eqS x) && onceF ds x).map V.bl)) := by
            rintro b rfl
            refine ⟨_, hD, ?_, ?_, ?_⟩
            · rw [List.length_map, List.length_map, List.length_take]
              have e3z : (5000 : Nat) < sizeLine := by decide
              omega
            · intro b o hb
              rw [upd_ne (ne_of_none hb nD)]
              exact ex _ _ hb
            · rw [upd_same, List.take_succ, hdx, List.map_append, List.map_append]
              rfl
          refine ⟨rfl, _, rfl, _, rfl, dx, rs, pr, gx.mono (same_ex ex), rfl, SqL.of (ex _ _ hpr), _, rfl, ite2 (fun hin => ?_) (fun hin => ?_)⟩
          · obtain ⟨z, rfl, hz⟩ := any_str (by simpa using hin)
            cases gx
            refine ⟨_, rfl, .inl ⟨rfl, _, SqL.of (ex _ _ ha)⟩, _, rfl, a, xs, ds, z, rfl, rfl, SqL.of (ex _ _ ha), hx.mono (same_ex ex), rfl, fin _ ?_⟩
            have hin : rs.any (eqS (.str z)) = true := by simpa using hin
            rw [hin]
            simp only [Bool.true_and, onceF, V.int.injEq]
            rw [Bool.eq_iff_iff, decide_eq_true_eq, decide_eq_true_eq]
            omega
          · refine fin _ ?_
            have hin : rs.any (eqS dx) = false := by simpa using hin
            rw [hin]
            rfl
        · rintro H' ⟨ex, hD⟩
          rw [hl, List.take_of_length_le (Nat.le_refl _)] at hD
          refine ⟨D, _, rfl, SqL.of hD, ?_⟩
          have := q H' ex
          rw [List.all_map]
          exact this
    | _ => exact ite2 (fun _ => q H (Ex.refl H)) (fun h => (h rfl).elim)
/-- the first place of a tuple is no endless text -/
def headOk (d : PyData) : Prop := ∀ x r, d = .tuple (x :: r) → strOk x
structure spOwn (K : PySem.W.Frag) (vs : List V) (H : Hp) (Q : VK) (E_ : XK) : Prop where
  mk' ::
  out : ∃ v d pr rs, vs = [v, .ref pr] ∧ Dq K H v d ∧ headOk d ∧ H pr = some (.lst (rs.map V.str)) ∧ rs.length ≤ 4096 ∧ ∀ H2, Ex H H2 → Q (.bl (ownerF rs d)) H2
theorem tp_k {v : V} {d : PyData} {n : Nat} {H : Hp} {Q : VK} {E : XK} (h : Dq K H v d) (q : Q (.bl (tupN n d)) H) : spTp K [v, .int n] H Q E := by

  exact ⟨v, d, n, rfl, h, q⟩
theorem nm_k {v : V} {d : PyData} {H : Hp} {Q : VK} {E : XK} (h : Dq K H v d) (z : strOk d) (q : ∀ H2, Ex H H2 → Q (.bl (nameD d)) H2) : spNm K [v] H Q E := by

  exact ⟨v, d, rfl, h, z, q⟩
theorem cho_k {v : V} {d : PyData} {pr : Addr} {rs : List Str} {H : Hp} {Q : VK} {E : XK} (h : Dq K H v d) (hpr : H pr = some (.lst (rs.map V.str))) (hl : rs.length ≤ 4096) (q : ∀ H2, Ex H H2 → Q (.bl (choiceF rs d)) H2) : spCho K [v, .ref pr] H Q E := by

  exact ⟨v, d, pr, rs, rfl, h, hpr, hl, q⟩
theorem ok_own {fT fN fC : Addr} {fdT fdN fdC : FuncData} (F : Fun K "is_owner" "is_owner" sOwn f fd)
    (FT : FnOk P w K mg base CX0 1 fT fdT ["value", "size"] (spTp K)) (mT : mg "is_tuple_of" = some (.ref fT)) (kT : PySem.W.keepIn K (.ref fT) = true) (bT : Binds K fdT ["value", "size"] [])
    (FN : FnOk P w K mg base CX0 1 fN fdN ["value"] (spNm K)) (mN : mg "is_name" = some (.ref fN)) (kN : PySem.W.keepIn K (.ref fN) = true) (bN : Binds K fdN ["value"] [])
    (FC : FnOk P w K mg base CX0 1 fC fdC ["value", "rights"] (spCho K)) (mC : mg "is_choice" = some (.ref fC)) (kC : PySem.W.keepIn K (.ref fC) = true) (bC : Binds K fdC ["value", "rights"] []) :
    FnOk P w K mg base CX0 2 f fd ["value", "rights"] (spOwn K) := by
  refine F.ok scOwn (fun vs H Q E h => ?_) (fun cdv A outer s H vs Q E hr h => ?_)
  · obtain ⟨_, _, _, _, rfl, _⟩ := h
    rfl
  · obtain ⟨v, d, pr, rs, rfl, hd, hz, hpr, hrl, q⟩ := h
    refine ⟨_, pss_one (ps_ret (pe_and (pe_call FT hr rfl mT kT bT .nil pass0 (pa_cons (pv 0) (pa_cons pe_int pa_nil)))
      (pe_and (pe_call FN hr rfl mN kN bN .nil pass0 (pa_cons (pe_ix ix_tup (pv 0) pe_int (fun _ _ => rfl)) pa_nil))
      (pe_one (pe_call FC hr rfl mC kC bC .nil pass0 (pa_cons (pe_ix ix_tup (pv 0) pe_int (fun _ _ => rfl)) (pa_cons (pv 1) pa_nil))))))), ?_⟩
    refine ⟨_, rfl, tp_k (n := 2) hd ⟨_, rfl, ite2 (fun h2 => ?_) (fun h2 => ?_)⟩⟩
    · obtain ⟨a, b, rfl⟩ : ∃ a b, d = .tuple [a, b] := by
        match d, h2 with
        | .tuple [a, b], _ => exact ⟨a, b, rfl⟩
        | .tuple [], h => cases h
        | .tuple [_], h => cases h
        | .tuple (_ :: _ :: _ :: _), h => simp [tupN] at h
      cases hd with
      | @tup ad xs _ hT hx =>
      cases hx with
      | @cons v0 _ _ _ g0 hx =>
      cases hx with
      | @cons v1 _ _ _ g1 hx =>
      cases hx
      refine ⟨_, rfl, ad, _, 0, v0, rfl, rfl, hT, atI_nat (j := 0) rfl, nm_k g0 (hz _ _ rfl) fun H2 e2 => ⟨_, rfl, ite2 (fun hn => ?_) (fun hn => ?_)⟩⟩
      · refine ⟨_, rfl, ad, _, 1, v1, rfl, rfl, sqt_ex (same_ex e2) hT, atI_nat (j := 1) rfl, _, rfl, cho_k (g1.mono (same_ex e2)) (e2 _ _ hpr) hrl fun H3 e3 => ?_⟩
        have := q H3 (e2.trans e3)
        simp only [ownerF, hn, Bool.true_and] at this
        exact this
      · have := q H2 e2
        have hn : nameD a = false := by simpa using hn
        simp only [ownerF, hn, Bool.false_and] at this
        exact this
    · have := q H (Ex.refl H)
      have e : ownerF rs d = false := by
        match d, h2 with
        | .tuple [a, b], h => exact absurd rfl h
        | .tuple [], _ => rfl
        | .tuple [_], _ => rfl
        | .tuple (_ :: _ :: _ :: _), _ => rfl
        | .none, _ => rfl
        | .bool _, _ => rfl
        | .int _, _ => rfl
        | .str _, _ => rfl
        | .list _, _ => rfl
        | .dict _, _ => rfl
      rw [e] at this
      exact this
structure spFun (K : PySem.W.Frag) (n : Nat) (vs : List V) (H : Hp) (Q : VK) (E_ : XK) : Prop where
  mk' ::
  out : ∃ v d po pn pr os ns rs, vs = [v, .ref po, .ref pn, .ref pr] ∧ Dq K H v d ∧ headOk d ∧ d.depth ≤ n + 1 ∧ H po = some (.lst (os.map V.str)) ∧ H pn = some (.lst (ns.map V.str)) ∧ H pr = some (.lst (rs.map V.str)) ∧ ∀ H2, Ex H H2 → Q (.bl (functionF os ns rs d)) H2
theorem bd_k {v : V} {d : PyData} {pn pr : Addr} {ns rs : List Str} {mk : Bool} {n : Nat} {H : Hp} {Q : VK} {E : XK} (h : Dq K H v d) (hn : d.depth ≤ n) (hpn : H pn = some (.lst (ns.map V.str))) (hpr : H pr = some (.lst (rs.map V.str))) (q : ∀ H2, Ex H H2 → Q (.bl (bodyF ns rs mk d)) H2) :
    spV K bodG (fun _ => True) n [v, .ref pn, .ref pr, .bl mk] H Q E := by

  exact ⟨v, d, pn, pr, ns, rs, mk, rfl, h, hn, trivial, hpn, hpr, q⟩
theorem ok_fun {n : Nat} {fT fN fB : Addr} {fdT fdN fdB : FuncData} (F : Fun K "is_function" "is_function" sFun f fd)
    (FT : FnOk P w K mg base CX0 1 fT fdT ["value", "size"] (spTp K)) (mT : mg "is_tuple_of" = some (.ref fT)) (kT : PySem.W.keepIn K (.ref fT) = true) (bT : Binds K fdT ["value", "size"] [])
    (FN : FnOk P w K mg base CX0 1 fN fdN ["value"] (spNm K)) (mN : mg "is_name" = some (.ref fN)) (kN : PySem.W.keepIn K (.ref fN) = true) (bN : Binds K fdN ["value"] [])
    (FB : FnOk P w K mg base CX0 (3 * n + 4) fB fdB ["value", "names", "rights", "marked"] (spV K bodG (fun _ => True) n)) (mB : mg "is_body" = some (.ref fB)) (kB : PySem.W.keepIn K (.ref fB) = true) (bB : Binds K fdB ["value", "names", "rights", "marked"] [.bool false]) :
    FnOk P w K mg base CX0 (3 * n + 5) f fd ["value", "owner_names", "names", "rights"] (spFun K n) := by
  refine F.ok scFun (fun vs H Q E h => ?_) (fun cdv A outer s H vs Q E hr h => ?_)
  · obtain ⟨_, _, _, _, _, _, _, _, rfl, _⟩ := h
    rfl
  · obtain ⟨v, d, po, pn, pr, os, ns, rs, rfl, hd, hz, hn, hpo, hpn, hpr, q⟩ := h
    have r1 := hr.mono (j := 1) (by omega)
    have hu1 : (A.deeper (envOfC "is_function" (defScope sFun) s.heap.objs.size f cdv)).units + 1 < cLine := Nat.lt_of_le_of_lt (Nat.add_le_add_left (by decide : 1 ≤ 64) _) hr.units
    refine ⟨_, pss_cons (ps_if (PW.pt (pw_or (pt_not (pt_val (pe_call FT r1 rfl mT kT bT .nil pass0 (pa_cons (pv 0) (pa_cons pe_int pa_nil))))) (pw_or (pt_not (pt_val (pe_call FN r1 rfl mN kN bN .nil pass0 (pa_cons (pe_ix ix_tup (pv 0) pe_int (fun _ _ => rfl)) pa_nil)))) (pw_or1 (pt_cmpR (op_notInTs hu1) (pe_ix ix_tup (pv 0) pe_int (fun _ _ => rfl)) (pv 1) (by rfl)))))) (pss_one (ps_ret pe_bl)) pss_nil)
      (pss_one (ps_ret (pe_call (dvs := [.bl false]) FB hr rfl mB kB bB (.cons rfl .nil) pass0 (pa_cons (pe_ix ix_tup (pv 0) pe_int (fun _ _ => rfl)) (pa_cons (pv 2) (pa_cons (pv 3) pa_nil)))))), ?_⟩
    refine ⟨_, rfl, tp_k (n := 3) hd ⟨_, rfl, ite2 (fun h2 => ?_) (fun h2 => ?_)⟩⟩
    · have h2 : tupN 3 d = false := by simpa using h2
      have e : functionF os ns rs d = false := by
        match d, h2 with
        | .tuple [a, b, c], h => cases h
        | .tuple [], _ => rfl
        | .tuple [_], _ => rfl
        | .tuple [_, _], _ => rfl
        | .tuple (_ :: _ :: _ :: _ :: _), _ => rfl
        | .none, _ => rfl
        | .bool _, _ => rfl
        | .int _, _ => rfl
        | .str _, _ => rfl
        | .list _, _ => rfl
        | .dict _, _ => rfl
      have := q H (Ex.refl H)
      rw [e] at this
      exact this
    · have h2 : tupN 3 d = true := by simpa using h2
      obtain ⟨a, b, c, rfl⟩ : ∃ a b c, d = .tuple [a, b, c] := by
        match d, h2 with
        | .tuple [a, b, c], _ => exact ⟨a, b, c, rfl⟩
        | .tuple [], h => cases h
        | .tuple [_], h => cases h
        | .tuple [_, _], h => cases h
        | .tuple (_ :: _ :: _ :: _ :: _), h => simp [tupN] at h
      have hc : c.depth ≤ n := by
        simp only [PyData.depth, PyData.depthAll] at hn
        omega
      cases hd with
      | @tup ad xs _ hT hx =>
      cases hx with
      | @cons v0 _ _ _ g0 hx =>
      cases hx with
      | @cons v1 _ _ _ g1 hx =>
      cases hx with
      | @cons v2 _ _ _ g2 hx =>
      cases hx
      refine ⟨_, rfl, ad, _, 0, v0, rfl, rfl, hT, atI_nat (j := 0) rfl, nm_k g0 (hz _ _ rfl) fun H2 e2 => ⟨_, rfl, ite2 (fun hn => ?_) (fun hn => ?_)⟩⟩
      · have hn : nameD a = false := by simpa using hn
        have := q H2 e2
        simp only [functionF, hn, Bool.false_and] at this
        exact this
      · have hn : nameD a = true := by simpa using hn
        refine ⟨_, rfl, ad, _, 1, v1, rfl, rfl, sqt_ex (same_ex e2) hT, atI_nat (j := 1) rfl, _, rfl, b, os, po, g1.mono (same_ex e2), rfl, SqL.of (e2 _ _ hpo), _, rfl, ite2 (fun hi => ?_) (fun hi => ?_)⟩
        · have hi : os.any (eqS b) = false := by simpa using hi
          have := q H2 e2
          simp only [functionF, hn, hi, Bool.true_and, Bool.false_and] at this
          exact this
        · have hi : os.any (eqS b) = true := by simpa using hi
          refine ⟨_, rfl, ad, _, 2, v2, rfl, rfl, sqt_ex (same_ex e2) hT, atI_nat (j := 2) rfl, _, rfl, _, rfl, bd_k (g2.mono (same_ex e2)) hc (e2 _ _ hpn) (e2 _ _ hpr) fun H3 e3 => ?_⟩
          have := q H3 (e2.trans e3)
          simp only [functionF, hn, hi, Bool.true_and] at this
          exact this
end
end Lx

set_option Elab.async false
set_option maxRecDepth 100000
set_option linter.all false
set_option maxHeartbeats 4000000
namespace Lx
open PySem PySem.Spec PyProof.Rows L2 Evl Kx
section
variable {P : Program} {w : World} {K : PySem.W.Frag} {mg : Str → Option Value} {base : Heap} {f : Addr} {fd : FuncData}
abbrev sSz : Stmt := top 20
abbrev sCkR : Stmt := top 21
theorem scSz : FnScope ["value", "most"] ["value", "most"] (defScope sSz) := ⟨rfl, rfl, rfl, by decide +kernel, rfl, by decide +kernel, by decide +kernel⟩
theorem scCkR : FnScope ["rights", "known", "item"] ["rights"] (defScope sCkR) := ⟨rfl, rfl, rfl, by decide +kernel, rfl, by decide +kernel, by decide +kernel⟩
def sizeF (m : Nat) : PyData → Bool
  | .list ds => decide (1 ≤ ds.length) && decide (ds.length ≤ m)
  | _ => false
/-- refused: C with v -/
def Refuse (H : Hp) (E : XK) (C : Addr) (v : V) : Prop := ∀ H1, Ex H H1 → ∀ d H2, XFly H1 H2 d "value" v → E (.ref C) (some d) H2
structure spSz (K : PySem.W.Frag) (CL : Addr) (vs : List V) (H : Hp) (Q : VK) (E : XK) : Prop where
  mk' ::
  out : ∃ v d m, vs = [v, .int (m : Nat)] ∧ Dq K H v d ∧ (sizeF m d = true → Q .non H) ∧ (sizeF m d = false → Refuse H E CL v)
theorem ok_sz {CL fI : Addr} {fdI : FuncData} (F : Fun K "check_size" "check_size" sSz f fd) (T : XCls P w K mg "InvalidList" "value" CL fI fdI) (mL : mg "len" = none) (mI : mg "isinstance" = none) (mLi : mg "list" = none) :
    FnOk P w K mg base (L2.CX P w) 3 f fd ["value", "most"] (spSz K CL) := by
  refine F.okX scSz (fun vs H Q E h => ?_) (fun cdv A outer s H vs Q E hr h => ?_)
  · obtain ⟨_, _, _, rfl, _⟩ := h
    rfl
  · obtain ⟨v, d, m, rfl, hd, q1, q2⟩ := h
    refine ⟨_, pss_one (ps_if (PW.pt (pw_or (pt_not (pt_val (pe_callB (isi_S (K := K)) (by rfl) mI PyProof.Rows.boot_isinstance (pa_cons (pv 0) (pa_cons (pe_bltn (v := .ty "list") (by rfl) mLi (by decide +kernel) rfl) pa_nil))))) (pw_or1 (pt_not (pt_chain op_le op_le pe_int (pe_callB call_len_seq (by rfl) mL PySem.boot_len (pa_cons (pv 0) pa_nil)) (pv 1))))))
      (pss_one (ps_raiseX rfl rfl (takes_of rfl rfl rfl rfl) T hr (by rfl) (pv 0) (fun σ H Q Q' k ⟨v, h1, h2⟩ => ⟨v, h1, k _ _ h2⟩))) pss_nil), ?_⟩
    have bad : sizeF m d = false → ∀ H1, Ex H H1 → (∀ a, H1 a = none → H a = none) ∧ ∀ d H2, XFly H1 H2 d "value" v → E (.ref CL) (some d) H2 := fun z H1 x => ⟨fun a ha => fresh_back x ha, q2 z H1 x⟩
    refine ⟨_, rfl, isi_l hd ⟨_, rfl, ?_⟩⟩
    cases hd with
    | @lst a xs ds ha hx =>
      have hl := dqa_len hx
      refine ite2 (fun h => Bool.noConfusion h) (fun _ => ⟨_, rfl, a, xs, rfl, .inl (SqL.of ha), _, _, rfl, rfl, _, rfl, ?_⟩)
      refine ite2 (fun h1 => ⟨_, rfl, _, _, rfl, rfl, _, rfl, ite2 (fun h2 => ?_) (fun h2 => ?_)⟩) (fun h1 => ⟨_, rfl, ?_⟩)
      · refine ⟨_, rfl, bad ?_ H (Ex.refl H)⟩
        have h2 : ¬ (ds.length ≤ m) := fun z => by
          have : decide ((xs.length : Int) ≤ (m : Int)) = true := decide_eq_true (by omega)
          rw [this] at h2
          cases h2
        simp only [sizeF, decide_eq_false h2, Bool.and_false]
      · have h1 := of_decide_eq_true h1
        have h2 : ds.length ≤ m := by
          cases y : decide ((xs.length : Int) ≤ (m : Int)) with
          | false => exact (h2 (by rw [y]; rfl)).elim
          | true =>
            have := of_decide_eq_true y
            omega
        have h3 : 1 ≤ ds.length := by omega
        exact q1 (by simp only [sizeF, decide_eq_true h2, decide_eq_true h3, Bool.and_self])
      · refine ite2 (fun _ => ⟨_, rfl, bad ?_ H (Ex.refl H)⟩) (fun z => (z rfl).elim)
        have h1 : ¬ 1 ≤ ds.length := fun z => h1 (decide_eq_true (by omega))
        simp only [sizeF, decide_eq_false h1, Bool.false_and]
    | _ => exact ite2 (fun _ => ⟨_, rfl, bad rfl H (Ex.refl H)⟩) (fun h => (h rfl).elim)
/-- the first right that is refused, behind those that are known -/
def rBad : List Str → List PyData → Option Nat
  | _, [] => none
  | kn, d :: r => if !nameD d || kn.any (eqS d) then some 0 else match d with
    | .str z => (rBad (kn ++ [z]) r).map (· + 1)
    | _ => some 0
theorem name_str {d : PyData} (h : nameD d = true) : ∃ z, d = .str z := by
  cases d with
  | str z => exact ⟨z, rfl⟩
  | _ => cases h
structure spCkR (K : PySem.W.Frag) (CL CI : Addr) (vs : List V) (H : Hp) (Q : VK) (E : XK) : Prop where
  mk' ::
  out : ∃ v d, vs = [v] ∧ Dq K H v d ∧ (∀ ds, d = .list ds → ∀ x ∈ ds, strOk x) ∧ (sizeF 5 d = false → Refuse H E CL v) ∧
  (∀ a xs ds, v = .ref a → H a = some (.lst xs) → d = .list ds → sizeF 5 d = true → (rBad [] ds = none → ∀ H2, Ex H H2 → Q .non H2) ∧ (∀ i x, rBad [] ds = some i → xs[i]? = some x → Refuse H E CI x))
theorem sz_k {v : V} {d : PyData} {m : Nat} {CL : Addr} {H : Hp} {Q : VK} {E : XK} (h : Dq K H v d) (q1 : sizeF m d = true → Q .non H) (q2 : sizeF m d = false → Refuse H E CL v) : spSz K CL [v, .int m] H Q E := by

  exact ⟨v, d, m, rfl, h, q1, q2⟩
theorem ok_ckR {CL CI fI fI2 fS fN : Addr} {fdI fdI2 fdS fdN : FuncData} (F : Fun K "check_rights" "check_rights" sCkR f fd) (TI : XCls P w K mg "InvalidItem" "value" CI fI2 fdI2)
    (FS : FnOk P w K mg base (L2.CX P w) 3 fS fdS ["value", "most"] (spSz K CL)) (mS : mg "check_size" = some (.ref fS)) (kS : PySem.W.keepIn K (.ref fS) = true) (bS : Binds K fdS ["value", "most"] [])
    (FN : FnOk P w K mg base CX0 1 fN fdN ["value"] (spNm K)) (mN : mg "is_name" = some (.ref fN)) (kN : PySem.W.keepIn K (.ref fN) = true) (bN : Binds K fdN ["value"] [])
    {tn : Value} (mM : mg "MOST_RIGHTS" = some tn) (rM : RelV (.int 5) tn) :
    FnOk P w K mg base (L2.CX P w) 4 f fd ["rights"] (spCkR K CL CI) := by
  refine F.okX scCkR (fun vs H Q E h => ?_) (fun cdv A outer s H vs Q E hr h => ?_)
  · obtain ⟨_, _, rfl, _⟩ := h
    rfl
  · obtain ⟨v, d, rfl, hd, hz, q1, q2⟩ := h
    have r1 := hr.mono (j := 1) (by decide)
    have r2 := hr.mono (j := 2) (by decide)
    have hu1 : (A.deeper (envOfC "check_rights" (defScope sCkR) s.heap.objs.size f cdv)).units + 1 < cLine := Nat.lt_of_le_of_lt (Nat.add_le_add_left (by decide : 1 ≤ 64) _) hr.units
    refine ⟨_, pss_cons (ps_expr (pe_callS FS hr (by rfl) mS kS bS (fun σ => passAt (takes_of rfl rfl rfl rfl) σ) (pa_cons (pv 0) (pa_cons (pe_glob (by rfl) mM rM) pa_nil))))
      (pss_cons (ps_set (i := 1) scCkR.nd rfl (Or.inl rfl) (pe_lst pa_nil))
      (pss_one (ps_for (passes_of rfl) rfl (pi_list (pv 0)) (pg_name (i := 2) scCkR.nd rfl (Or.inl rfl))
        (pss_cons (ps_if (PW.pt (pw_or (pt_not (pt_val (pe_call FN r1 rfl mN kN bN .nil pass0 (pa_cons (pv 2) pa_nil)))) (pw_or1 (pt_cmpR (op_inTs hu1) (pv 2) (pv 1) (by rfl)))))
          (pss_one (ps_raiseX rfl rfl (takes_of rfl rfl rfl rfl) TI r2 (by rfl) (pv 2) (fun σ H Q Q' k ⟨v, h1, h2⟩ => ⟨v, h1, k _ _ h2⟩))) pss_nil)
        (pss_one (ps_expr (pe_bm PySem.F.plainAttrs_list PySem.F.slot_list_append PySem.F.type_list_append mt_append (pv 1) (pa_cons (pv 2) pa_nil)))))))), ?_⟩
    refine ⟨_, rfl, sz_k (m := 5) hd (fun hs => ?_) q1⟩
    cases hd with
    | @lst a xs ds ha hx =>
      obtain ⟨qo, qb⟩ := q2 a xs ds rfl ha rfl hs
      have hz := hz ds rfl
      have h5 : ds.length ≤ 5 := by
        simp only [sizeF, Bool.and_eq_true, decide_eq_true_eq] at hs
        exact hs.2
      have hl := dqa_len hx
      refine ⟨by show 0 ≤ sizeLine; decide, fun pk npk => ?_⟩
      have e0 : Ex H (upd H pk (.lst [])) := Ex.new npk
      refine ⟨_, rfl, a, rfl, ⟨_, SqL.of (e0 _ _ ha)⟩, ?_⟩
      refine for_list (K := K) (a := a) (xs := xs) (fun i σ H' => ∃ (t : Option V) (kn : List Str), σ = [some (.ref a), some (.ref pk), t] ∧ Ex H H' ∧ H' pk = some (.lst (kn.map V.str)) ∧ kn.length = i ∧ rBad [] ds = (rBad kn (ds.drop i)).map (· + i)) ?_ (fun i σ H' _ ⟨_, _, _, x, _⟩ => SqL.of (x _ _ ha)) ?_ ?_
      · exact ⟨none, [], rfl, e0, upd_same, rfl, by rw [List.drop_zero]; cases rBad [] ds <;> rfl⟩
      · rintro i x σ H' hi ⟨t, kn, rfl, ex, hk, hkl, hb⟩
        obtain ⟨dx, hdx, gx⟩ := dqa_get hx hi
        have hil := (List.getElem?_eq_some_iff.mp hdx).1
        have hdr : ds.drop i = dx :: ds.drop (i + 1) := by
          rw [List.drop_eq_getElem_cons hil]
          congr 1
          exact (List.getElem?_eq_some_iff.mp hdx).2
        rw [hdr] at hb
        have bad : (!nameD dx || kn.any (eqS dx)) = true → ∀ H1, Ex H' H1 → (∀ b, H1 b = none → H b = none) ∧ ∀ d H2, XFly H1 H2 d "value" x → E (.ref CI) (some d) H2 := fun z H1 x1 => by
          simp only [rBad, z, if_true, Option.map_some, Nat.zero_add] at hb
          exact ⟨fun b hb' => fresh_back (ex.trans x1) hb', qb i x hb hi H1 (ex.trans x1)⟩
        refine ⟨_, rfl, nm_k (gx.mono (same_ex ex)) (hz dx (List.mem_of_getElem? hdx)) fun H2 e2 => ⟨_, rfl, ite2 (fun hn => ?_) (fun hn => ?_)⟩⟩
        · exact ⟨_, rfl, bad (by rw [hn]; rfl) H2 e2⟩
        · have hn : nameD dx = true := by simpa using hn
          refine ⟨_, rfl, _, rfl, dx, kn, pk, gx.mono (same_ex (ex.trans e2)), rfl, SqL.of (e2 _ _ hk), _, rfl, ite2 (fun hin => ?_) (fun hin => ?_)⟩
          · have hin : kn.any (eqS dx) = true := by simpa using hin
            exact ⟨_, rfl, bad (by rw [hin, Bool.or_true]) H2 e2⟩
          · have hin : kn.any (eqS dx) = false := by simpa using hin
            obtain ⟨z, rfl⟩ := name_str hn
            cases gx
            have e3z : (5000 : Nat) < sizeLine := by decide
            refine ⟨_, rfl, .inl ⟨rfl, _, SqL.of (e2 _ _ hk)⟩, _, rfl, pk, _, .str z, rfl, rfl, e2 _ _ hk, by rw [List.length_map]; omega, _, kn ++ [z], rfl, ?_, ?_, ?_, ?_⟩
            · intro b o hb'
              rw [upd_ne (ne_of_none hb' npk)]
              exact e2 _ _ (ex _ _ hb')
            · rw [upd_same, List.map_append]
              rfl
            · rw [List.length_append, hkl]
              rfl
            · rw [hb]
              have : rBad kn (.str z :: ds.drop (i + 1)) = (rBad (kn ++ [z]) (ds.drop (i + 1))).map (· + 1) := by
                simp only [rBad, hn, hin, Bool.not_true, Bool.or_self, Bool.false_eq_true, if_false]
              rw [this, Option.map_map]
              congr 1
              funext k
              show k + 1 + i = k + (i + 1)
              omega
      · rintro σ H' ⟨t, kn, rfl, ex, hk, hkl, hb⟩
        rw [hl, List.drop_of_length_le (Nat.le_refl _)] at hb
        exact qo (by rw [hb]; rfl) H' ex
    | _ => cases hs
end
end Lx

set_option Elab.async false
set_option maxRecDepth 100000
set_option linter.all false
set_option maxHeartbeats 4000000
namespace Lx
open PySem PySem.Spec PyProof.Rows L2 Evl Kx
section
variable {P : Program} {w : World} {K : PySem.W.Frag} {mg : Str → Option Value} {base : Heap} {f : Addr} {fd : FuncData}
abbrev sCkO : Stmt := top 22
theorem scCkO : FnScope ["owners", "rights", "known", "item"] ["owners", "rights"] (defScope sCkO) := ⟨rfl, rfl, rfl, by decide +kernel, rfl, by decide +kernel, by decide +kernel⟩
/-- the text at the first place of a tuple -/
def headS : PyData → Str
  | .tuple (.str z :: _) => z
  | _ => ""
/-- the first owner that is refused, behind those that are known -/
def oBad (rs : List Str) : List Str → List PyData → Option Nat
  | _, [] => none
  | kn, d :: r => if !ownerF rs d || kn.any (eqS (.str (headS d))) then some 0 else (oBad rs (kn ++ [headS d]) r).map (· + 1)
theorem owner_head {rs : List Str} {d : PyData} (h : ownerF rs d = true) : ∃ z b, d = .tuple [.str z, b] := by
  match d, h with
  | .tuple [.str z, b], _ => exact ⟨z, b, rfl⟩
  | .tuple [], h => cases h
  | .tuple [_], h => cases h
  | .tuple (_ :: _ :: _ :: _), h => simp [ownerF] at h
structure spCkO (K : PySem.W.Frag) (CL CI : Addr) (vs : List V) (H : Hp) (Q : VK) (E : XK) : Prop where
  mk' ::
  out : ∃ v d pr rs, vs = [v, .ref pr] ∧ Dq K H v d ∧ H pr = some (.lst (rs.map V.str)) ∧ rs.length ≤ 4096 ∧ (∀ ds, d = .list ds → ∀ x ∈ ds, headOk x) ∧ (sizeF 5 d = false → Refuse H E CL v) ∧
  (∀ a xs ds, v = .ref a → H a = some (.lst xs) → d = .list ds → sizeF 5 d = true → (oBad rs [] ds = none → ∀ H2, Ex H H2 → Q .non H2) ∧ (∀ i x, oBad rs [] ds = some i → xs[i]? = some x → Refuse H E CI x))
theorem own_k {v : V} {d : PyData} {pr : Addr} {rs : List Str} {H : Hp} {Q : VK} {E : XK} (h : Dq K H v d) (hz : headOk d) (hpr : H pr = some (.lst (rs.map V.str))) (hl : rs.length ≤ 4096) (q : ∀ H2, Ex H H2 → Q (.bl (ownerF rs d)) H2) : spOwn K [v, .ref pr] H Q E := by

  exact ⟨v, d, pr, rs, rfl, h, hz, hpr, hl, q⟩
theorem ok_ckO {CL CI fI2 fS fO : Addr} {fdI2 fdS fdO : FuncData} (F : Fun K "check_owners" "check_owners" sCkO f fd) (TI : XCls P w K mg "InvalidItem" "value" CI fI2 fdI2)
    (FS : FnOk P w K mg base (L2.CX P w) 3 fS fdS ["value", "most"] (spSz K CL)) (mS : mg "check_size" = some (.ref fS)) (kS : PySem.W.keepIn K (.ref fS) = true) (bS : Binds K fdS ["value", "most"] [])
    (FO : FnOk P w K mg base CX0 2 fO fdO ["value", "rights"] (spOwn K)) (mO : mg "is_owner" = some (.ref fO)) (kO : PySem.W.keepIn K (.ref fO) = true) (bO : Binds K fdO ["value", "rights"] [])
    {tn : Value} (mM : mg "MOST_OWNERS" = some tn) (rM : RelV (.int 5) tn) :
    FnOk P w K mg base (L2.CX P w) 4 f fd ["owners", "rights"] (spCkO K CL CI) := by
  refine F.okX scCkO (fun vs H Q E h => ?_) (fun cdv A outer s H vs Q E hr h => ?_)
  · obtain ⟨_, _, _, _, rfl, _⟩ := h
    rfl
  · obtain ⟨v, d, pr, rs, rfl, hd, hpr, hrl, hz, q1, q2⟩ := h
    have r2 := hr.mono (j := 2) (by decide)
    have hu1 : (A.deeper (envOfC "check_owners" (defScope sCkO) s.heap.objs.size f cdv)).units + 1 < cLine := Nat.lt_of_le_of_lt (Nat.add_le_add_left (by decide : 1 ≤ 64) _) hr.units
    refine ⟨_, pss_cons (ps_expr (pe_callS FS hr (by rfl) mS kS bS (fun σ => passAt (takes_of rfl rfl rfl rfl) σ) (pa_cons (pv 0) (pa_cons (pe_glob (by rfl) mM rM) pa_nil))))
      (pss_cons (ps_set (i := 2) scCkO.nd rfl (Or.inl rfl) (pe_lst pa_nil))
      (pss_one (ps_for (passes_of rfl) rfl (pi_list (pv 0)) (pg_name (i := 3) scCkO.nd rfl (Or.inl rfl))
        (pss_cons (ps_if (PW.pt (pw_or (pt_not (pt_val (pe_call FO r2 rfl mO kO bO .nil pass0 (pa_cons (pv 3) (pa_cons (pv 1) pa_nil))))) (pw_or1 (pt_cmpR (op_inTs hu1) (pe_ix ix_tup (pv 3) pe_int (fun _ _ => rfl)) (pv 2) (by rfl)))))
          (pss_one (ps_raiseX rfl rfl (takes_of rfl rfl rfl rfl) TI r2 (by rfl) (pv 3) (fun σ H Q Q' k ⟨v, h1, h2⟩ => ⟨v, h1, k _ _ h2⟩))) pss_nil)
        (pss_one (ps_expr (pe_bm PySem.F.plainAttrs_list PySem.F.slot_list_append PySem.F.type_list_append mt_append (pv 2) (pa_cons (pe_ix ix_tup (pv 3) pe_int (fun _ _ => rfl)) pa_nil)))))))), ?_⟩
    refine ⟨_, rfl, sz_k (m := 5) hd (fun hs => ?_) q1⟩
    cases hd with
    | @lst a xs ds ha hx =>
      obtain ⟨qo, qb⟩ := q2 a xs ds rfl ha rfl hs
      have hz := hz ds rfl
      have h5 : ds.length ≤ 5 := by
        simp only [sizeF, Bool.and_eq_true, decide_eq_true_eq] at hs
        exact hs.2
      have hl := dqa_len hx
      refine ⟨by show 0 ≤ sizeLine; decide, fun pk npk => ?_⟩
      have e0 : Ex H (upd H pk (.lst [])) := Ex.new npk
      refine ⟨_, rfl, a, rfl, ⟨_, SqL.of (e0 _ _ ha)⟩, ?_⟩
      refine for_list (K := K) (a := a) (xs := xs) (fun i σ H' => ∃ (t : Option V) (kn : List Str), σ = [some (.ref a), some (.ref pr), some (.ref pk), t] ∧ Ex H H' ∧ H' pk = some (.lst (kn.map V.str)) ∧ kn.length = i ∧ oBad rs [] ds = (oBad rs kn (ds.drop i)).map (· + i)) ?_ (fun i σ H' _ ⟨_, _, _, x, _⟩ => SqL.of (x _ _ ha)) ?_ ?_
      · exact ⟨none, [], rfl, e0, upd_same, rfl, by rw [List.drop_zero]; cases oBad rs [] ds <;> rfl⟩
      · rintro i x σ H' hi ⟨t, kn, rfl, ex, hk, hkl, hb⟩
        obtain ⟨dx, hdx, gx⟩ := dqa_get hx hi
        have hil := (List.getElem?_eq_some_iff.mp hdx).1
        have hdr : ds.drop i = dx :: ds.drop (i + 1) := by
          rw [List.drop_eq_getElem_cons hil]
          congr 1
          exact (List.getElem?_eq_some_iff.mp hdx).2
        rw [hdr] at hb
        have bad : (!ownerF rs dx || kn.any (eqS (.str (headS dx)))) = true → ∀ H1, Ex H' H1 → (∀ b, H1 b = none → H b = none) ∧ ∀ d H2, XFly H1 H2 d "value" x → E (.ref CI) (some d) H2 := fun z H1 x1 => by
          simp only [oBad, z, if_true, Option.map_some, Nat.zero_add] at hb
          exact ⟨fun b hb' => fresh_back (ex.trans x1) hb', qb i x hb hi H1 (ex.trans x1)⟩
        refine ⟨_, rfl, _, rfl, own_k (gx.mono (same_ex ex)) (hz dx (List.mem_of_getElem? hdx)) (ex _ _ hpr) hrl fun H2 e2 => ⟨_, rfl, ite2 (fun hn => ?_) (fun hn => ?_)⟩⟩
        · exact ⟨_, rfl, bad (by rw [hn]; rfl) H2 e2⟩
        · have hn : ownerF rs dx = true := by simpa using hn
          obtain ⟨z, b2, rfl⟩ := owner_head hn
          have gx2 := gx
          cases gx with
          | @tup ad ys _ hT hy =>
          cases hy with
          | @cons v0 _ _ _ g0 hy =>
          cases g0
          have hT2 := sqt_ex (same_ex (ex.trans e2)) hT
          refine ⟨_, rfl, ad, _, 0, .str z, rfl, rfl, hT2, atI_nat (j := 0) rfl, _, rfl, .str z, kn, pk, .str z, rfl, SqL.of (e2 _ _ hk), _, rfl, ite2 (fun hin => ?_) (fun hin => ?_)⟩
          · have hin : kn.any (eqS (.str z)) = true := by simpa using hin
            exact ⟨_, rfl, bad (by show (_ || kn.any (eqS (.str z))) = true; rw [hin, Bool.or_true]) H2 e2⟩
          · have hin : kn.any (eqS (.str z)) = false := by simpa using hin
            have e3z : (5000 : Nat) < sizeLine := by decide
            refine ⟨_, rfl, .inl ⟨rfl, _, SqL.of (e2 _ _ hk)⟩, _, rfl, ad, _, 0, .str z, rfl, rfl, hT2, atI_nat (j := 0) rfl, pk, _, .str z, rfl, rfl, e2 _ _ hk, by rw [List.length_map]; omega, _, kn ++ [z], rfl, ?_, ?_, ?_, ?_⟩
            · intro b o hb'
              rw [upd_ne (ne_of_none hb' npk)]
              exact e2 _ _ (ex _ _ hb')
            · rw [upd_same, List.map_append]
              rfl
            · rw [List.length_append, hkl]
              rfl
            · rw [hb]
              have : oBad rs kn (.tuple [.str z, b2] :: ds.drop (i + 1)) = (oBad rs (kn ++ [z]) (ds.drop (i + 1))).map (· + 1) := by
                simp only [oBad, headS, hn, hin, Bool.not_true, Bool.or_self, Bool.false_eq_true, if_false]
              rw [this, Option.map_map]
              congr 1
              funext k
              show k + 1 + i = k + (i + 1)
              omega
      · rintro σ H' ⟨t, kn, rfl, ex, hk, hkl, hb⟩
        rw [hl, List.drop_of_length_le (Nat.le_refl _)] at hb
        exact qo (by rw [hb]; rfl) H' ex
    | _ => cases hs
end
end Lx

set_option Elab.async false
set_option maxRecDepth 100000
set_option linter.all false
set_option maxHeartbeats 4000000
namespace Lx
open PySem PySem.Spec PyProof.Rows L2 Evl Kx
section
variable {P : Program} {w : World} {K : PySem.W.Frag} {mg : Str → Option Value} {base : Heap} {f : Addr} {fd : FuncData}
abbrev sCkF : Stmt := top 23
theorem scCkF : FnScope ["functions", "owners", "rights", "names", "owner_names", "known", "item", "owner"] ["functions", "owners", "rights"] (defScope sCkF) := ⟨rfl, rfl, rfl, by decide +kernel, rfl, by decide +kernel, by decide +kernel⟩
def nmd (d : PyData) : Bool := tupN 3 d && (match d with
  | .tuple (x :: _) => nameD x
  | _ => false)
def namesF (ds : List PyData) : List Str := (ds.filter nmd).map headS
def fBad (os ns rs : List Str) : List Str → List PyData → Option Nat
  | _, [] => none
  | kn, d :: r => if !functionF os ns rs d || kn.any (eqS (.str (headS d))) then some 0 else (fBad os ns rs (kn ++ [headS d]) r).map (· + 1)
theorem function_head {os ns rs : List Str} {d : PyData} (h : functionF os ns rs d = true) : ∃ z b c, d = .tuple [.str z, b, c] := by
  match d, h with
  | .tuple [.str z, b, c], _ => exact ⟨z, b, c, rfl⟩
  | .tuple [], h => cases h
  | .tuple [_], h => cases h
  | .tuple [_, _], h => cases h
  | .tuple (_ :: _ :: _ :: _ :: _), h => simp [functionF] at h
structure spCkF (K : PySem.W.Frag) (n : Nat) (CL CI : Addr) (vs : List V) (H : Hp) (Q : VK) (E : XK) : Prop where
  mk' ::
  out : ∃ (v : V) (d : PyData) (po pr : Addr) (os : List Own) (rs : List Str), vs = [v, .ref po, .ref pr] ∧ Dq K H v d ∧ Dq K H (.ref po) (.list (os.map ownD)) ∧ os.length ≤ 4096 ∧ H pr = some (.lst (rs.map V.str)) ∧ (∀ ds, d = .list ds → ∀ x ∈ ds, headOk x ∧ x.depth ≤ n + 1) ∧ (sizeF 6 d = false → Refuse H E CL v) ∧
  (∀ a xs ds, v = .ref a → H a = some (.lst xs) → d = .list ds → sizeF 6 d = true → (fBad (os.map (·.1)) (namesF ds) rs [] ds = none → ∀ H2, Ex H H2 → Q .non H2) ∧ (∀ i x, fBad (os.map (·.1)) (namesF ds) rs [] ds = some i → xs[i]? = some x → Refuse H E CI x))
theorem fun_k {v : V} {d : PyData} {po pn pr : Addr} {os ns rs : List Str} {n : Nat} {H : Hp} {Q : VK} {E : XK} (h : Dq K H v d) (hz : headOk d) (hn : d.depth ≤ n + 1) (hpo : H po = some (.lst (os.map V.str))) (hpn : H pn = some (.lst (ns.map V.str))) (hpr : H pr = some (.lst (rs.map V.str)))
    (q : ∀ H2, Ex H H2 → Q (.bl (functionF os ns rs d)) H2) : spFun K n [v, .ref po, .ref pn, .ref pr] H Q E := by

  exact ⟨v, d, po, pn, pr, os, ns, rs, rfl, h, hz, hn, hpo, hpn, hpr, q⟩
theorem ok_ckF {n : Nat} {CL CI fI2 fS fF fT fN : Addr} {fdI2 fdS fdF fdT fdN : FuncData} (F : Fun K "check_functions" "check_functions" sCkF f fd) (TI : XCls P w K mg "InvalidItem" "value" CI fI2 fdI2)
    (FS : FnOk P w K mg base (L2.CX P w) 3 fS fdS ["value", "most"] (spSz K CL)) (mS : mg "check_size" = some (.ref fS)) (kS : PySem.W.keepIn K (.ref fS) = true) (bS : Binds K fdS ["value", "most"] [])
    (FF : FnOk P w K mg base CX0 (3 * n + 5) fF fdF ["value", "owner_names", "names", "rights"] (spFun K n)) (mF : mg "is_function" = some (.ref fF)) (kF : PySem.W.keepIn K (.ref fF) = true) (bF : Binds K fdF ["value", "owner_names", "names", "rights"] [])
    (FT : FnOk P w K mg base CX0 1 fT fdT ["value", "size"] (spTp K)) (mT : mg "is_tuple_of" = some (.ref fT)) (kT : PySem.W.keepIn K (.ref fT) = true) (bT : Binds K fdT ["value", "size"] [])
    (FN : FnOk P w K mg base CX0 1 fN fdN ["value"] (spNm K)) (mN : mg "is_name" = some (.ref fN)) (kN : PySem.W.keepIn K (.ref fN) = true) (bN : Binds K fdN ["value"] [])
    {tn : Value} (mM : mg "MOST_FUNCTIONS" = some tn) (rM : RelV (.int 6) tn) :
    FnOk P w K mg base (L2.CX P w) (3 * n + 6) f fd ["functions", "owners", "rights"] (spCkF K n CL CI) := by
  refine F.okX scCkF (fun vs H Q E h => ?_) (fun cdv A outer s H vs Q E hr h => ?_)
  · obtain ⟨_, _, _, _, _, _, rfl, _⟩ := h
    rfl
  · obtain ⟨v, d, po, pr, os, rs, rfl, hd, ho, hol, hpr, hz, q1, q2⟩ := h
    have r3 := hr.mono (j := 3) (by omega)
    have r2 := hr.mono (j := 2) (by omega)
    have r1 := hr.mono (j := 1) (by omega)
    have hu1 : (A.deeper (envOfC "check_functions" (defScope sCkF) s.heap.objs.size f cdv)).units + 1 < cLine := Nat.lt_of_le_of_lt (Nat.add_le_add_left (by decide : 1 ≤ 64) _) hr.units
    refine ⟨_, pss_cons (ps_expr (pe_callS FS r3 (by rfl) mS kS bS (fun σ => passAt (takes_of rfl rfl rfl rfl) σ) (pa_cons (pv 0) (pa_cons (pe_glob (by rfl) mM rM) pa_nil))))
      (pss_cons (ps_setLc (i := 3) (own := [("item", 6)]) (g := gName 6) rfl scCkF.nd rfl rfl (sw_true rfl rfl rfl (by decide +kernel)) (pi_list (pv 0))
            (blkOk_by (own := [("item", 6)]) (N := ["functions", "owners", "rights", "names", "owner_names", "known", "item", "owner"]) (sc := defScope sCkF) (by decide +kernel))
            (fun _ _ _ _ _ => pg_name (i := 6) scCkF.nd rfl (Or.inl rfl)) (fun _ _ _ _ _ => pts_one (PW.pt (pw_and (pt_val (pe_call FT r1 rfl mT kT bT .nil pass0 (pa_cons (pv 6) (pa_cons pe_int pa_nil)))) (pw_and1 (pt_val (pe_call FN r1 rfl mN kN bN .nil pass0 (pa_cons (pe_ix (ixT_K (K := K)) (pv 6) pe_int (fun _ _ => rfl)) pa_nil)))))))
            (fun _ _ _ _ _ => pe_ix (ixT_K (K := K)) (pv 6) pe_int (fun _ _ => rfl)))
      (pss_cons (ps_setLc (i := 4) (own := [("owner", 7)]) (g := gName 7) rfl scCkF.nd rfl rfl (sw_true rfl rfl rfl (by decide +kernel)) (pi_list (pv 1))
            (blkOk_by (own := [("owner", 7)]) (N := ["functions", "owners", "rights", "names", "owner_names", "known", "item", "owner"]) (sc := defScope sCkF) (by decide +kernel))
            (fun _ _ _ _ _ => pg_name (i := 7) scCkF.nd rfl (Or.inl rfl)) (fun _ _ _ _ _ => pts_nil)
            (fun _ _ _ _ _ => pe_ix (ixT_K (K := K)) (pv 7) pe_int (fun _ _ => rfl)))
      (pss_cons (ps_set (i := 5) scCkF.nd rfl (Or.inl rfl) (pe_lst pa_nil))
      (pss_one (ps_for (passes_of rfl) rfl (pi_list (pv 0)) (pg_name (i := 6) scCkF.nd rfl (Or.inl rfl))
        (pss_cons (ps_if (PW.pt (pw_or (pt_not (pt_val (pe_call FF hr rfl mF kF bF .nil pass0 (pa_cons (pv 6) (pa_cons (pv 4) (pa_cons (pv 3) (pa_cons (pv 2) pa_nil))))))) (pw_or1 (pt_cmpR (op_inTs hu1) (pe_ix ix_tup (pv 6) pe_int (fun _ _ => rfl)) (pv 5) (by rfl)))))
          (pss_one (ps_raiseX rfl rfl (takes_of rfl rfl rfl rfl) TI r2 (by rfl) (pv 6) (fun σ H Q Q' k ⟨v, h1, h2⟩ => ⟨v, h1, k _ _ h2⟩))) pss_nil)
        (pss_one (ps_expr (pe_bm PySem.F.plainAttrs_list PySem.F.slot_list_append PySem.F.type_list_append mt_append (pv 5) (pa_cons (pe_ix ix_tup (pv 6) pe_int (fun _ _ => rfl)) pa_nil)))))))))), ?_⟩
    refine ⟨_, rfl, sz_k (m := 6) hd (fun hs => ?_) q1⟩
    cases hd with
    | @lst a xs ds ha hx =>
      obtain ⟨qo, qb⟩ := q2 a xs ds rfl ha rfl hs
      have hz := hz ds rfl
      have h5 : ds.length ≤ 6 := by
        simp only [sizeF, Bool.and_eq_true, decide_eq_true_eq] at hs
        exact hs.2
      have hl := dqa_len hx
      have e3z : (5000 : Nat) < sizeLine := by decide
      refine ⟨_, rfl, a, rfl, ⟨_, SqL.of ha⟩, fun pn npn => ?_⟩
      refine lc_list (K := K) (a := a) (xs := xs) (fun i H' => Ex H H' ∧ H' pn = some (.lst ((namesF (ds.take i)).map V.str))) ?_ (fun i H' _ ⟨x, _⟩ => SqL.of (x _ _ ha)) ?_ ?_
      · exact ⟨Ex.new npn, upd_same⟩
      · rintro i x H' hi ⟨ex, hD⟩
        obtain ⟨dx, hdx, gx⟩ := dqa_get hx hi
        have tk : ds.take (i + 1) = ds.take i ++ [dx] := by
          rw [List.take_succ, hdx]
          rfl
        have hlen : ((namesF (ds.take i)).map V.str).length < sizeLine := by
          rw [List.length_map, namesF, List.length_map]
          have := List.length_filter_le nmd (ds.take i)
          rw [List.length_take] at this
          omega
        refine ⟨rfl, _, rfl, tp_k (n := 3) (gx.mono (same_ex ex)) ⟨_, rfl, ite2 (fun h3 => ?_) (fun h3 => ?_)⟩⟩
        · obtain ⟨a', b', c', rfl⟩ : ∃ a b c, dx = .tuple [a, b, c] := by
            match dx, h3 with
            | .tuple [a, b, c], _ => exact ⟨a, b, c, rfl⟩
            | .tuple [], h => cases h
            | .tuple [_], h => cases h
            | .tuple [_, _], h => cases h
            | .tuple (_ :: _ :: _ :: _ :: _), h => simp [tupN] at h
          have hz1 := (hz _ (List.mem_of_getElem? hdx)).1
          cases gx with
          | @tup ad ys _ hT hy =>
          cases hy with
          | @cons v0 _ _ _ g0 hy =>
          have hT2 := sqt_ex (same_ex ex) hT
          refine ⟨_, rfl, ad, _, 0, v0, rfl, rfl, hT2, atI_nat (j := 0) rfl, nm_k (g0.mono (same_ex ex)) (hz1 _ _ rfl) fun H2 e2 => ⟨_, rfl, ite2 (fun hn => ?_) (fun hn => ?_)⟩⟩
          · obtain ⟨z, rfl⟩ := name_str hn
            cases g0
            refine ⟨_, rfl, ad, _, 0, .str z, rfl, rfl, sqt_ex (same_ex e2) hT2, atI_nat (j := 0) rfl, _, e2 _ _ hD, hlen, ?_, ?_⟩
            · intro b o hb
              rw [upd_ne (ne_of_none hb npn)]
              exact e2 _ _ (ex _ _ hb)
            · have : namesF (ds.take i ++ [.tuple [.str z, b', c']]) = namesF (ds.take i) ++ [z] := by
                simp only [namesF, List.filter_append, List.map_append]
                congr 1
                have : nmd (.tuple [.str z, b', c']) = true := hn
                rw [List.filter_cons_of_pos this]
                rfl
              rw [upd_same, tk, this, List.map_append]
              rfl
          · have hn : nameD a' = false := by simpa using hn
            have : namesF (ds.take i ++ [.tuple [a', b', c']]) = namesF (ds.take i) := by
              simp only [namesF, List.filter_append, List.map_append]
              have : nmd (.tuple [a', b', c']) = false := hn
              rw [List.filter_cons_of_neg (by rw [this]; exact Bool.false_ne_true)]
              simp only [List.filter_nil, List.map_nil, List.append_nil]
            rw [tk, this]
            exact ⟨ex.trans e2, e2 _ _ hD⟩
        · have h3 : tupN 3 dx = false := by simpa using h3
          have : namesF (ds.take i ++ [dx]) = namesF (ds.take i) := by
            simp only [namesF, List.filter_append, List.map_append]
            have : nmd dx = false := by unfold nmd; rw [h3, Bool.false_and]
            rw [List.filter_cons_of_neg (by rw [this]; exact Bool.false_ne_true)]
            simp only [List.filter_nil, List.map_nil, List.append_nil]
          rw [tk, this]
          exact ite2 (fun h => Bool.noConfusion h) (fun _ => ⟨ex, hD⟩)
      · rintro H1 ⟨e1, hpn⟩
        rw [hl, List.take_of_length_le (Nat.le_refl _)] at hpn
        have ho1 := ho.mono (same_ex e1)
        cases ho with
        | @lst _ oxs _ hpo hox =>
        refine ⟨_, rfl, po, rfl, ⟨_, SqL.of (e1 _ _ hpo)⟩, fun pw npw => ?_⟩
        refine lc_list (K := K) (a := po) (xs := oxs) (fun i H' => Ex H1 H' ∧ H' pw = some (.lst (((os.map (·.1)).take i).map V.str))) ?_ (fun i H' _ ⟨x, _⟩ => SqL.of (x _ _ (e1 _ _ hpo))) ?_ ?_
        · exact ⟨Ex.new npw, upd_same⟩
        · rintro i x H' hi ⟨ex, hD⟩
          obtain ⟨od, hod, gx⟩ := dqa_get hox hi
          rw [List.getElem?_map] at hod
          obtain ⟨ow, how, rfl⟩ : ∃ ow, os[i]? = some ow ∧ od = ownD ow := by
            cases hy : os[i]? with
            | none => rw [hy] at hod; cases hod
            | some ow => rw [hy] at hod; exact ⟨ow, rfl, (Option.some.inj hod).symm⟩
          have hw1 : (os.map (·.1))[i]? = some ow.1 := by rw [List.getElem?_map, how]; rfl
          cases gx with
          | @tup ad ys _ hT hy =>
          cases hy with
          | @cons v0 _ _ _ g0 hy =>
          cases g0
          refine ⟨rfl, _, rfl, ad, _, 0, .str ow.1, rfl, rfl, sqt_ex (same_ex (e1.trans ex)) hT, atI_nat (j := 0) rfl, _, hD, ?_, ?_, ?_⟩
          · rw [List.length_map, List.length_take, List.length_map]
            omega
          · intro b o hb
            rw [upd_ne (ne_of_none hb npw)]
            exact ex _ _ hb
          · rw [upd_same, List.take_succ, hw1, List.map_append]
            rfl
        · rintro H2 ⟨e2, hpw⟩
          have hlo : oxs.length = (os.map (·.1)).length := by
            have := dqa_len hox
            rw [List.length_map] at this ⊢
            exact this
          rw [hlo, List.take_of_length_le (Nat.le_refl _)] at hpw
          refine ⟨by show 0 ≤ sizeLine; decide, fun pk npk => ?_⟩
          have e02 := e1.trans e2
          have e0 : Ex H (upd H2 pk (.lst [])) := e02.trans (Ex.new npk)
          have e0' : Ex H2 (upd H2 pk (.lst [])) := Ex.new npk
          have npk0 := fresh_back e02 npk
          refine ⟨_, rfl, a, rfl, ⟨_, SqL.of (e0 _ _ ha)⟩, ?_⟩
          refine for_list (K := K) (a := a) (xs := xs) (fun i σ H' => ∃ (t : Option V) (kn : List Str), σ = [some (.ref a), some (.ref po), some (.ref pr), some (.ref pn), some (.ref pw), some (.ref pk), t, none] ∧ Ex H2 H' ∧ H' pk = some (.lst (kn.map V.str)) ∧ kn.length = i ∧
            fBad (os.map (·.1)) (namesF ds) rs [] ds = (fBad (os.map (·.1)) (namesF ds) rs kn (ds.drop i)).map (· + i)) ?_ (fun i σ H' _ ⟨_, _, _, x, _⟩ => SqL.of (x _ _ (e02 _ _ ha))) ?_ ?_
          · exact ⟨none, [], rfl, e0', upd_same, rfl, by rw [List.drop_zero]; cases fBad (os.map (·.1)) (namesF ds) rs [] ds <;> rfl⟩
          · rintro i x σ H' hi ⟨t, kn, rfl, ex, hk, hkl, hb⟩
            have exh := e02.trans ex
            obtain ⟨dx, hdx, gx⟩ := dqa_get hx hi
            have hil := (List.getElem?_eq_some_iff.mp hdx).1
            have hdr : ds.drop i = dx :: ds.drop (i + 1) := by
              rw [List.drop_eq_getElem_cons hil]
              congr 1
              exact (List.getElem?_eq_some_iff.mp hdx).2
            rw [hdr] at hb
            have bad : (!functionF (os.map (·.1)) (namesF ds) rs dx || kn.any (eqS (.str (headS dx)))) = true → ∀ H3, Ex H' H3 → (∀ b, H3 b = none → H b = none) ∧ ∀ d H4, XFly H3 H4 d "value" x → E (.ref CI) (some d) H4 := fun z H3 x3 => by
              simp only [fBad, z, if_true, Option.map_some, Nat.zero_add] at hb
              exact ⟨fun b hb' => fresh_back (exh.trans x3) hb', qb i x hb hi H3 (exh.trans x3)⟩
            obtain ⟨hz1, hz2⟩ := hz dx (List.mem_of_getElem? hdx)
            refine ⟨_, rfl, _, rfl, _, rfl, _, rfl, fun_k (gx.mono (same_ex exh)) hz1 hz2 (ex _ _ hpw) (ex _ _ (e2 _ _ hpn)) (exh _ _ hpr) fun H3 e3 => ⟨_, rfl, ite2 (fun hn => ?_) (fun hn => ?_)⟩⟩
            · exact ⟨_, rfl, bad (by rw [hn]; rfl) H3 e3⟩
            · have hn : functionF (os.map (·.1)) (namesF ds) rs dx = true := by simpa using hn
              obtain ⟨z, b2, c2, rfl⟩ := function_head hn
              cases gx with
              | @tup ad ys _ hT hy =>
              cases hy with
              | @cons v0 _ _ _ g0 hy =>
              cases g0
              have hT2 := sqt_ex (same_ex (exh.trans e3)) hT
              refine ⟨_, rfl, ad, _, 0, .str z, rfl, rfl, hT2, atI_nat (j := 0) rfl, _, rfl, .str z, kn, pk, .str z, rfl, SqL.of (e3 _ _ hk), _, rfl, ite2 (fun hin => ?_) (fun hin => ?_)⟩
              · have hin : kn.any (eqS (.str z)) = true := by simpa using hin
                exact ⟨_, rfl, bad (by show (_ || kn.any (eqS (.str z))) = true; rw [hin, Bool.or_true]) H3 e3⟩
              · have hin : kn.any (eqS (.str z)) = false := by simpa using hin
                refine ⟨_, rfl, .inl ⟨rfl, _, SqL.of (e3 _ _ hk)⟩, _, rfl, ad, _, 0, .str z, rfl, rfl, hT2, atI_nat (j := 0) rfl, pk, _, .str z, rfl, rfl, e3 _ _ hk, by rw [List.length_map]; omega, _, kn ++ [z], rfl, ?_, ?_, ?_, ?_⟩
                · intro b o hb'
                  rw [upd_ne (ne_of_none hb' npk)]
                  exact e3 _ _ (ex _ _ hb')
                · rw [upd_same, List.map_append]
                  rfl
                · rw [List.length_append, hkl]
                  rfl
                · rw [hb]
                  have : fBad (os.map (·.1)) (namesF ds) rs kn (.tuple [.str z, b2, c2] :: ds.drop (i + 1)) = (fBad (os.map (·.1)) (namesF ds) rs (kn ++ [z]) (ds.drop (i + 1))).map (· + 1) := by
                    simp only [fBad, headS, hn, hin, Bool.not_true, Bool.or_self, Bool.false_eq_true, if_false]
                  rw [this, Option.map_map]
                  congr 1
                  funext k
                  show k + 1 + i = k + (i + 1)
                  omega
          · rintro σ H' ⟨t, kn, rfl, ex, hk, hkl, hb⟩
            rw [hl, List.drop_of_length_le (Nat.le_refl _)] at hb
            exact qo (by rw [hb]; rfl) H' (e02.trans ex)
    | _ => cases hs
end
end Lx

set_option Elab.async false
set_option maxRecDepth 100000
set_option linter.all false
set_option maxHeartbeats 4000000
namespace Lx
open PySem PySem.Spec PyProof.Rows L2 Evl Kx
section
variable {P : Program} {w : World} {K : PySem.W.Frag} {mg : Str → Option Value} {base : Heap} {f : Addr} {fd : FuncData}
abbrev sCpO : Stmt := top 27
abbrev sCpF : Stmt := top 28
theorem scCpO : FnScope ["owners", "name", "rights"] ["owners"] (defScope sCpO) := ⟨rfl, rfl, rfl, by decide +kernel, rfl, by decide +kernel, by decide +kernel⟩
theorem scCpF : FnScope ["functions", "name", "owner", "body"] ["functions"] (defScope sCpF) := ⟨rfl, rfl, rfl, by decide +kernel, rfl, by decide +kernel, by decide +kernel⟩
structure spCpO (K : PySem.W.Frag) (vs : List V) (H : Hp) (Q : VK) (E_ : XK) : Prop where
  mk' ::
  out : ∃ (p : Addr) (os : List Own), vs = [.ref p] ∧ Dq K H (.ref p) (.list (os.map ownD)) ∧ os.length ≤ 4096 ∧ ∀ p2 H2 M, New H H2 M → FrN K H M (.ref p2) (.list (os.map ownD)) → Q (.ref p2) H2
theorem strs_back {H : Hp} : ∀ {xs : List V} {ss : List Str}, DqA K H xs (ss.map PyData.str) → xs = ss.map V.str
  | _, [], h => by cases h; rfl
  | _, s :: ss, h => by
    cases h with
    | cons a b =>
      cases a
      rw [strs_back b]
      rfl
theorem own_at {H : Hp} {xs : List V} {os : List Own} {i : Nat} {v : V} (h : DqA K H xs (os.map ownD)) (hi : xs[i]? = some v) : ∃ ow a pl, os[i]? = some ow ∧ v = .ref a ∧ SqT K H a [.str ow.1, .ref pl] ∧ H pl = some (.lst (ow.2.map V.str)) := by
  obtain ⟨od, hod, gx⟩ := dqa_get h hi
  rw [List.getElem?_map] at hod
  obtain ⟨ow, how, rfl⟩ : ∃ ow, os[i]? = some ow ∧ od = ownD ow := by
    cases hy : os[i]? with
    | none => rw [hy] at hod; cases hod
    | some ow => rw [hy] at hod; exact ⟨ow, rfl, (Option.some.inj hod).symm⟩
  cases gx with
  | tup hT hy =>
  cases hy with
  | cons g0 hy =>
  cases g0
  cases hy with
  | cons g1 hy =>
  cases hy
  cases g1 with
  | lst hl hs => exact ⟨ow, _, _, how, rfl, hT, by rw [hl, strs_back hs]⟩
theorem own_fr {H M : Hp} {l tp : Addr} {ow : Own} (h1 : M l = some (.lst (ow.2.map V.str))) (h2 : M tp = some (.tup [.str ow.1, .ref l])) (nl : H l = none) : FrN K H M (.ref tp) (ownD ow) :=
  ⟨[l], .tup h2 (.cons (as := []) (.flat rfl (.str _)) (.cons (as := [l]) (.lst h1 (strs_n _)) .nil)), List.nodup_cons.mpr ⟨(fun h => nomatch h), List.nodup_nil⟩, fun x hx => by rw [List.mem_singleton.mp hx]; exact nl⟩
theorem fn_fr {H M : Hp} {p3 tp : Addr} {g : Fn} (h : FrN K H M (.ref p3) (.list (bodyD g.2.2))) (h2 : M tp = some (.tup [.str g.1, .str g.2.1, .ref p3])) : FrN K H M (.ref tp) (fnD g) := by
  obtain ⟨as, a, b, c⟩ := h
  have := DqNA.cons (as := []) (.flat rfl (.str g.1)) (.cons (as := []) (.flat rfl (.str g.2.1)) (.cons a (.nil (K := K) (H := M))))
  rw [List.append_nil] at this
  exact ⟨as, .tup h2 this, b, c⟩
theorem ok_cpO (F : Fun K "copy_owners" "copy_owners" sCpO f fd) (mL : mg "list" = none) : FnOk P w K mg base CX0 1 f fd ["owners"] (spCpO K) := by
  refine F.ok scCpO (fun vs H Q E h => ?_) (fun cdv A outer s H vs Q E hr h => ?_)
  · obtain ⟨_, _, rfl, _⟩ := h
    rfl
  · obtain ⟨p, os, rfl, hd, hol, q⟩ := h
    refine ⟨_, pss_one (ps_ret (pe_lc (own := [("name", 1), ("rights", 2)]) (g := gTup K 2 (gCons (gName 1) (gCons (gName 2) gNil))) rfl scCpO.nd (pi_list (pv 0))
            (blkOk_by (own := [("name", 1), ("rights", 2)]) (N := ["owners", "name", "rights"]) (sc := defScope sCpO) (by decide +kernel))
            (fun _ _ _ _ _ => pg_tupK rfl (pgs_cons (pg_name (i := 1) scCpO.nd rfl (Or.inl rfl)) (pgs_cons (pg_name (i := 2) scCpO.nd rfl (Or.inl rfl)) pgs_nil))) (fun _ _ _ _ _ => pts_nil)
            (fun _ _ _ _ _ => pe_tup (pa_cons (pv 1) (pa_cons (pe_callTy (call_listK (K := K)) (by rfl) mL (by decide +kernel) (pa_cons (pv 2) pa_nil)) pa_nil))))), ?_⟩
    cases hd with
    | @lst _ xs _ hp hx =>
    have hlen : xs.length = os.length := by
      have := dqa_len hx
      rw [List.length_map] at this
      exact this
    refine ⟨_, rfl, p, rfl, ⟨_, SqL.of hp⟩, fun D nD => ?_⟩
    refine lc_list (K := K) (a := p) (xs := xs) (fun i H' => ∃ (M : Hp) (acc : List V), New H H' M ∧ H' D = some (.lst acc) ∧ M D = none ∧ FrA K H M acc ((os.take i).map ownD)) ?_ (fun i H' _ ⟨_, _, k, _⟩ => SqL.of (k.hh _ _ hp)) ?_ ?_
    · exact ⟨emp, [], New.refl.own nD, upd_same, rfl, FrA.nil⟩
    · rintro i x H' hi ⟨M, acc, k, hD, mD, ha⟩
      obtain ⟨ow, ta, pl, how, rfl, hT, hpl⟩ := own_at hx hi
      refine ⟨ta, _, rfl, sqt_ex (same_ex k.hh) hT, rfl, _, _, rfl, _, _, rfl, rfl, rfl, _, rfl, _, rfl, pl, _, rfl, .inl (SqL.of (k.hh _ _ hpl)), fun l nl => ⟨by show 2 ≤ sizeLine; decide, fun tp ntp => ?_⟩⟩
      have k2 := (k.put (o := .lst (ow.2.map V.str)) nl).put (o := .tup [.str ow.1, .ref l]) ntp
      have fl : D ≠ l := ne_of_none hD nl
      have ft : D ≠ tp := ne_of_none (show (upd H' l (.lst (ow.2.map V.str))) D = some (.lst acc) by rw [upd_ne fl]; exact hD) ntp
      have mD2 : (upd (upd M l (.lst (ow.2.map V.str))) tp (.tup [.str ow.1, .ref l])) D = none := by rw [upd_ne ft, upd_ne fl]; exact mD
      have ml : M l = none := k.none nl
      have mt : (upd M l (.lst (ow.2.map V.str))) tp = none := (k.put (o := .lst (ow.2.map V.str)) nl).none ntp
      have em : Ex M (upd (upd M l (.lst (ow.2.map V.str))) tp (.tup [.str ow.1, .ref l])) := (Ex.new ml).trans (Ex.new mt)
      refine ⟨acc, by rw [upd_ne ft, upd_ne fl]; exact hD, ?_, _, acc ++ [.ref tp], k2.wr nD mD2, upd_same, mD2, ?_⟩
      · have := dqa_len ha.dq
        rw [List.length_map, List.length_take] at this
        have h2 := (List.getElem?_eq_some_iff.mp hi).1
        have e3z : (5000 : Nat) < sizeLine := by decide
        omega
      · rw [List.take_succ, how, List.map_append]
        exact FrA.app k ha em (Ex.refl _) (own_fr (by rw [upd_ne (ne_of_none upd_same mt)]; exact upd_same) upd_same nl)
    · rintro H' ⟨M, acc, k, hD, mD, ha⟩
      rw [hlen, List.take_of_length_le (Nat.le_refl _)] at ha
      exact q D H' _ (k.frz nD hD) (FrN.lst ha mD nD)
structure spCpF (K : PySem.W.Frag) (d : Nat) (vs : List V) (H : Hp) (Q : VK) (E_ : XK) : Prop where
  mk' ::
  out : ∃ (p : Addr) (fs : List Fn), vs = [.ref p] ∧ Dq K H (.ref p) (.list (fs.map fnD)) ∧ fs.length ≤ 4096 ∧ (∀ g ∈ fs, nstB g.2.2 ≤ d ∧ cntB g.2.2 ≤ 4096) ∧ ∀ p2 H2 M, New H H2 M → FrN K H M (.ref p2) (.list (fs.map fnD)) → Q (.ref p2) H2
theorem fn_at {H : Hp} {xs : List V} {fs : List Fn} {i : Nat} {v : V} (h : DqA K H xs (fs.map fnD)) (hi : xs[i]? = some v) : ∃ g a pl, fs[i]? = some g ∧ v = .ref a ∧ SqT K H a [.str g.1, .str g.2.1, .ref pl] ∧ Dq K H (.ref pl) (.list (bodyD g.2.2)) := by
  obtain ⟨od, hod, gx⟩ := dqa_get h hi
  rw [List.getElem?_map] at hod
  obtain ⟨g, how, rfl⟩ : ∃ g, fs[i]? = some g ∧ od = fnD g := by
    cases hy : fs[i]? with
    | none => rw [hy] at hod; cases hod
    | some g => rw [hy] at hod; exact ⟨g, rfl, (Option.some.inj hod).symm⟩
  cases gx with
  | tup hT hy =>
  cases hy with
  | cons g0 hy =>
  cases g0
  cases hy with
  | cons g1 hy =>
  cases g1
  cases hy with
  | cons g2 hy =>
  cases hy
  have g2' := g2
  cases g2 with
  | lst hl hs => exact ⟨g, _, _, how, rfl, hT, g2'⟩
theorem ok_cpF {d : Nat} {fB : Addr} {fdB : FuncData} (F : Fun K "copy_functions" "copy_functions" sCpF f fd) (FB : FnOk P w K mg base CX0 (2 * d + 3) fB fdB ["body"] (spCb K d)) (mB : mg "copy_body" = some (.ref fB)) (kB : PySem.W.keepIn K (.ref fB) = true) (bB : Binds K fdB ["body"] []) :
    FnOk P w K mg base CX0 (2 * d + 4) f fd ["functions"] (spCpF K d) := by
  refine F.ok scCpF (fun vs H Q E h => ?_) (fun cdv A outer s H vs Q E hr h => ?_)
  · obtain ⟨_, _, rfl, _⟩ := h
    rfl
  · obtain ⟨p, fs, rfl, hd, hol, hfs, q⟩ := h
    refine ⟨_, pss_one (ps_ret (pe_lc (own := [("name", 1), ("owner", 2), ("body", 3)]) (g := gTup K 3 (gCons (gName 1) (gCons (gName 2) (gCons (gName 3) gNil)))) rfl scCpF.nd (pi_list (pv 0))
            (blkOk_by (own := [("name", 1), ("owner", 2), ("body", 3)]) (N := ["functions", "name", "owner", "body"]) (sc := defScope sCpF) (by decide +kernel))
            (fun _ _ _ _ _ => pg_tupK rfl (pgs_cons (pg_name (i := 1) scCpF.nd rfl (Or.inl rfl)) (pgs_cons (pg_name (i := 2) scCpF.nd rfl (Or.inl rfl)) (pgs_cons (pg_name (i := 3) scCpF.nd rfl (Or.inl rfl)) pgs_nil)))) (fun _ _ _ _ _ => pts_nil)
            (fun _ _ _ _ _ => pe_tup (pa_cons (pv 1) (pa_cons (pv 2) (pa_cons (pe_call FB hr rfl mB kB bB .nil pass0 (pa_cons (pv 3) pa_nil)) pa_nil)))))), ?_⟩
    cases hd with
    | @lst _ xs _ hp hx =>
    have hlen : xs.length = fs.length := by
      have := dqa_len hx
      rw [List.length_map] at this
      exact this
    refine ⟨_, rfl, p, rfl, ⟨_, SqL.of hp⟩, fun D nD => ?_⟩
    refine lc_list (K := K) (a := p) (xs := xs) (fun i H' => ∃ (M : Hp) (acc : List V), New H H' M ∧ H' D = some (.lst acc) ∧ M D = none ∧ FrA K H M acc ((fs.take i).map fnD)) ?_ (fun i H' _ ⟨_, _, k, _⟩ => SqL.of (k.hh _ _ hp)) ?_ ?_
    · exact ⟨emp, [], New.refl.own nD, upd_same, rfl, FrA.nil⟩
    · rintro i x H' hi ⟨M, acc, k, hD, mD, ha⟩
      obtain ⟨g, ta, pl, how, rfl, hT, hpl⟩ := fn_at hx hi
      obtain ⟨h1, h2⟩ := hfs g (List.mem_of_getElem? how)
      refine ⟨ta, _, rfl, sqt_ex (same_ex k.hh) hT, rfl, _, _, rfl, _, _, rfl, _, _, rfl, rfl, rfl, _, rfl, _, rfl, _, rfl, pl, g.2.2, rfl, hpl.mono (same_ex k.hh), h1, h2, fun p3 H3 M3 k3 h3 => ⟨by show 3 ≤ sizeLine; decide, fun tp ntp => ?_⟩⟩
      have hD3 := k3.hh _ _ hD
      have k4 := (k.trans k3).put (o := .tup [.str g.1, .str g.2.1, .ref p3]) ntp
      have ft : D ≠ tp := ne_of_none hD3 ntp
      have mt : (join M M3) tp = none := (k.trans k3).none ntp
      have mD2 : (upd (join M M3) tp (.tup [.str g.1, .str g.2.1, .ref p3])) D = none := by
        rw [upd_ne ft]
        exact join_none mD (k3.fr _ _ hD)
      refine ⟨acc, by rw [upd_ne ft]; exact hD3, ?_, _, acc ++ [.ref tp], k4.wr nD mD2, upd_same, mD2, ?_⟩
      · have := dqa_len ha.dq
        rw [List.length_map, List.length_take] at this
        have h2 := (List.getElem?_eq_some_iff.mp hi).1
        have e3z : (5000 : Nat) < sizeLine := by decide
        omega
      · rw [List.take_succ, how, List.map_append]
        exact FrA.app k ha (join_l.trans (Ex.new mt)) (Ex.refl _) (fn_fr (h3.mono ((k.right k3).trans (Ex.new mt))) upd_same)
    · rintro H' ⟨M, acc, k, hD, mD, ha⟩
      rw [hlen, List.take_of_length_le (Nat.le_refl _)] at ha
      exact q D H' _ (k.frz nD hD) (FrN.lst ha mD nD)
end
end Lx

set_option Elab.async false
set_option maxRecDepth 100000
set_option linter.all false
set_option maxHeartbeats 4000000
namespace Lx
open PySem PySem.Spec PyProof.Rows L2 Evl Kx
theorem any_eqS {ns : List Str} {n : Str} : ns.any (eqS (.str n)) = decide (n ∈ ns) := by
  rw [Bool.eq_iff_iff, decide_eq_true_eq, List.any_eq_true]
  constructor
  · rintro ⟨x, hx, h⟩
    have : n = x := eq_of_beq h
    exact this ▸ hx
  · exact fun h => ⟨n, h, beq_self_eq_true n⟩
section
variable {ns rs : List Str}
mutual
theorem stepF_ok : ∀ {mk : Bool} {s : Stp}, stepF ns rs mk (stpD s) = okS rs ns mk s
  | mk, .call n => by
    simp only [stpD, stepF, tupF, okS, ← any_eqS]
    rfl
  | mk, .tail n => by
    simp only [stpD, stepF, tupF, okS, ← any_eqS]
    rfl
  | mk, .check r => by
    simp only [stpD, stepF, tupF, okS, ← any_eqS]
    rfl
  | mk, .back => by
    simp only [stpD, stepF, tupF, okS]
    rfl
  | mk, .either a b => by
    simp only [stpD, okS, ← bodyF_ok (mk := mk) (b := a), ← bodyF_ok (mk := mk) (b := b)]
    simp only [stepF, tupF, nestF]
    rfl
  | mk, .loop b => by
    simp only [stpD, okS, ← bodyF_ok (mk := mk) (b := b)]
    simp only [stepF, tupF, nestF]
    rfl
  | mk, .block m b => by
    simp only [stpD, okS, ← bodyF_ok (mk := mk || m) (b := b)]
    simp only [stepF, tupF, nestF]
    rfl
theorem bodyF_ok : ∀ {mk : Bool} {b : List Stp}, bodyF ns rs mk (.list (bodyD b)) = okB rs ns mk b
  | mk, [] => by simp only [bodyF, bodyD, stepsF, okB]
  | mk, s :: r => by
    have h1 := stepF_ok (mk := mk) (s := s)
    have h2 := bodyF_ok (mk := mk) (b := r)
    simp only [bodyF] at h2
    simp only [bodyF, bodyD, stepsF, okB, h1, h2]
end
end
theorem sub_len : ∀ {ss rs : List Str}, ss.Nodup → (∀ s ∈ ss, s ∈ rs) → ss.length ≤ rs.length
  | [], _, _, _ => Nat.zero_le _
  | s :: ss, rs, hn, h => by
    obtain ⟨h1, h2⟩ := List.nodup_cons.mp hn
    have hs := h s (List.mem_cons_self ..)
    have := sub_len (rs := rs.erase s) h2 fun x hx => by
      have hne : x ≠ s := fun e => h1 (e ▸ hx)
      exact (List.mem_erase_of_ne hne).mpr (h x (List.mem_cons_of_mem _ hx))
    rw [List.length_erase_of_mem hs] at this
    have := List.length_pos_of_mem hs
    simp only [List.length_cons]
    omega
theorem cnt_none {z : Str} : ∀ {ss : List Str}, z ∉ ss → (ss.map PyData.str).countP (fun d => eqS d z) = 0
  | [], _ => rfl
  | s :: ss, h => by
    have h1 : eqS (.str s) z = false := by
      show (s == z) = false
      exact beq_eq_false_iff_ne.mpr fun e => h (e ▸ List.mem_cons_self ..)
    rw [List.map_cons, List.countP_cons_of_neg (by rw [h1]; exact Bool.false_ne_true)]
    exact cnt_none fun hm => h (List.mem_cons_of_mem _ hm)
theorem cnt_once {z : Str} : ∀ {ss : List Str}, ss.Nodup → z ∈ ss → (ss.map PyData.str).countP (fun d => eqS d z) = 1
  | s :: ss, hn, h => by
    obtain ⟨h1, h2⟩ := List.nodup_cons.mp hn
    rw [List.map_cons]
    by_cases e : s = z
    · subst e
      have h3 : eqS (.str s) s = true := beq_self_eq_true s
      rw [List.countP_cons_of_pos (p := fun d => eqS d s) h3, cnt_none h1]
    · have h3 : eqS (.str s) z = false := beq_eq_false_iff_ne.mpr e
      rw [List.countP_cons_of_neg (by rw [h3]; exact Bool.false_ne_true)]
      rcases List.mem_cons.mp h with h | h
      · exact (e h.symm).elim
      · exact cnt_once h2 h
theorem choice_ok {rs ss : List Str} (hn : ss.Nodup) (h : ∀ s ∈ ss, s ∈ rs) : choiceF rs (strsD ss) = true := by
  have hl : (ss.map PyData.str).length ≤ rs.length := by
    rw [List.length_map]
    exact sub_len hn h
  simp only [strsD, choiceF, decide_eq_true hl, Bool.true_and, List.all_map]
  refine List.all_eq_true.mpr fun s hs => ?_
  show (rs.any (eqS (.str s)) && onceF (ss.map PyData.str) (.str s)) = true
  rw [any_eqS, decide_eq_true (h s hs)]
  simp only [onceF, cnt_once hn hs, decide_true, Bool.and_self]
theorem rBad_ok : ∀ {ss kn : List Str}, (∀ s ∈ ss, nameD (.str s) = true) → (kn ++ ss).Nodup → rBad kn (ss.map PyData.str) = none
  | [], _, _, _ => rfl
  | s :: ss, kn, h, hn => by
    have h1 := h s (List.mem_cons_self ..)
    have h2 : kn.any (eqS (.str s)) = false := by
      rw [any_eqS]
      refine decide_eq_false fun hm => ?_
      obtain ⟨_, _, hd⟩ := List.nodup_append.mp hn
      exact hd s hm s (List.mem_cons_self ..) rfl
    rw [List.map_cons]
    simp only [rBad, h1, h2, Bool.not_true, Bool.or_self, Bool.false_eq_true, if_false]
    rw [rBad_ok (fun x hx => h x (List.mem_cons_of_mem _ hx)) (by rw [List.append_assoc]; exact hn)]
    rfl
theorem oBad_ok {rs : List Str} : ∀ {os : List Own} {kn : List Str}, (∀ o ∈ os, nameD (.str o.1) = true ∧ o.2.Nodup ∧ ∀ r ∈ o.2, r ∈ rs) → (kn ++ os.map (·.1)).Nodup → oBad rs kn (os.map ownD) = none
  | [], _, _, _ => rfl
  | o :: os, kn, h, hn => by
    obtain ⟨h1, h3, h4⟩ := h o (List.mem_cons_self ..)
    have h2 : kn.any (eqS (.str o.1)) = false := by
      rw [any_eqS]
      refine decide_eq_false fun hm => ?_
      obtain ⟨_, _, hd⟩ := List.nodup_append.mp hn
      exact hd o.1 hm o.1 (List.mem_cons_self ..) rfl
    have ho : ownerF rs (ownD o) = true := by
      simp only [ownD, ownerF, h1, choice_ok h3 h4, Bool.and_self]
    have hh : headS (ownD o) = o.1 := rfl
    rw [List.map_cons]
    simp only [oBad, ho, hh, h2, Bool.not_true, Bool.or_self, Bool.false_eq_true, if_false]
    rw [oBad_ok (fun x hx => h x (List.mem_cons_of_mem _ hx)) (by rw [List.append_assoc]; exact hn)]
    rfl
theorem fBad_ok {os ns rs : List Str} : ∀ {fs : List Fn} {kn : List Str}, (∀ g ∈ fs, nameD (.str g.1) = true ∧ g.2.1 ∈ os ∧ okB rs ns false g.2.2 = true) → (kn ++ fs.map (·.1)).Nodup → fBad os ns rs kn (fs.map fnD) = none
  | [], _, _, _ => rfl
  | g :: fs, kn, h, hn => by
    obtain ⟨h1, h3, h4⟩ := h g (List.mem_cons_self ..)
    have h2 : kn.any (eqS (.str g.1)) = false := by
      rw [any_eqS]
      refine decide_eq_false fun hm => ?_
      obtain ⟨_, _, hd⟩ := List.nodup_append.mp hn
      exact hd g.1 hm g.1 (List.mem_cons_self ..) rfl
    have ho : functionF os ns rs (fnD g) = true := by
      simp only [fnD, functionF, h1, any_eqS, decide_eq_true h3, bodyF_ok, h4, Bool.and_self]
    have hh : headS (fnD g) = g.1 := rfl
    rw [List.map_cons]
    simp only [fBad, ho, hh, h2, Bool.not_true, Bool.or_self, Bool.false_eq_true, if_false]
    rw [fBad_ok (fun x hx => h x (List.mem_cons_of_mem _ hx)) (by rw [List.append_assoc]; exact hn)]
    rfl
theorem namesF_ok : ∀ {fs : List Fn}, (∀ g ∈ fs, nameD (.str g.1) = true) → namesF (fs.map fnD) = fs.map (·.1)
  | [], _ => rfl
  | g :: fs, h => by
    have h1 : nmd (fnD g) = true := h g (List.mem_cons_self ..)
    have h2 := namesF_ok fun x hx => h x (List.mem_cons_of_mem _ hx)
    simp only [namesF] at h2 ⊢
    rw [List.map_cons, List.filter_cons_of_pos h1, List.map_cons, h2]
    rfl
end Lx

set_option Elab.async false
set_option maxRecDepth 100000
set_option linter.all false
set_option maxHeartbeats 4000000
namespace Lx
open PySem PySem.Spec PyProof.Rows L2 Evl Kx
/-! ### what is refused when a program is made -/
inductive Flt where
  | lst (k : Nat)
  | itm (k i : Nat)
def items : PyData → List PyData
  | .list ds => ds
  | _ => []
def unS : PyData → Str
  | .str z => z
  | _ => ""
def faultF (d1 d2 d3 : PyData) : Option Flt :=
  if sizeF 5 d1 = false then some (.lst 0) else
  match rBad [] (items d1) with
  | some i => some (.itm 0 i)
  | none =>
    if sizeF 5 d2 = false then some (.lst 1) else
    match oBad ((items d1).map unS) [] (items d2) with
    | some i => some (.itm 1 i)
    | none =>
      if sizeF 6 d3 = false then some (.lst 2) else
      match fBad ((items d2).map headS) (namesF (items d3)) ((items d1).map unS) [] (items d3) with
      | some i => some (.itm 2 i)
      | none => none
/-- the class and the very thing of a fault -/
def FltV (CL CI : Addr) (G : Hp) (vs : List V) : Flt → Addr → V → Prop
  | .lst k, c, v => c = CL ∧ vs[k]? = some v
  | .itm k i, c, v => c = CI ∧ ∃ a xs, vs[k]? = some (.ref a) ∧ G a = some (.lst xs) ∧ xs[i]? = some v
theorem rBad_strs : ∀ {ds : List PyData} {kn : List Str}, rBad kn ds = none → ds = (ds.map unS).map PyData.str
  | [], _, _ => rfl
  | d :: r, kn, h => by
    simp only [rBad] at h
    split at h
    · cases h
    · rename_i h1
      cases d with
      | str z =>
        simp only [Option.map_eq_none_iff] at h
        have := rBad_strs h
        simp only [List.map_cons, unS]
        rw [← this]
      | _ => cases h
theorem choice_strs {rs : List Str} {d : PyData} (h : choiceF rs d = true) : ∃ ss : List Str, d = strsD ss := by
  cases d with
  | list ds =>
    simp only [choiceF, Bool.and_eq_true] at h
    refine ⟨ds.map unS, ?_⟩
    have : ∀ {es : List PyData}, (∀ x ∈ es, rs.any (eqS x) = true) → es = (es.map unS).map PyData.str := by
      intro es
      induction es with
      | nil => intro _; rfl
      | cons e r ih =>
        intro h
        obtain ⟨z, rfl, _⟩ := any_str (h e (List.mem_cons_self ..))
        have := ih fun x hx => h x (List.mem_cons_of_mem _ hx)
        simp only [List.map_cons, unS]
        rw [← this]
    unfold strsD
    rw [← this fun x hx => by
      have := List.all_eq_true.mp h.2 x hx
      simp only [Bool.and_eq_true] at this
      exact this.1]
  | _ => cases h
theorem oBad_own {rs : List Str} : ∀ {ds : List PyData} {kn : List Str}, oBad rs kn ds = none → ∃ os : List Own, ds = os.map ownD ∧ os.map (·.1) = ds.map headS
  | [], _, _ => ⟨[], rfl, rfl⟩
  | d :: r, kn, h => by
    simp only [oBad] at h
    split at h
    · cases h
    · rename_i h1
      simp only [Option.map_eq_none_iff] at h
      obtain ⟨os, h2, h3⟩ := oBad_own h
      simp only [Bool.or_eq_true, Bool.not_eq_true', not_or, Bool.not_eq_false] at h1
      have ho := h1.1
      obtain ⟨z, b, rfl⟩ := owner_head ho
      simp only [ownerF, Bool.and_eq_true] at ho
      obtain ⟨ss, rfl⟩ := choice_strs ho.2
      exact ⟨(z, ss) :: os, by rw [h2]; rfl, by simp only [List.map_cons, h3]; rfl⟩
/-- what a program's data may be for these promises -/
structure DataOk (n : Nat) (d1 d2 d3 : PyData) : Prop where
  r : ∀ x ∈ items d1, strOk x
  o : ∀ x ∈ items d2, headOk x
  f : ∀ x ∈ items d3, headOk x ∧ x.depth ≤ n + 1
theorem items_of {d : PyData} {P : PyData → Prop} (h : ∀ x ∈ items d, P x) : ∀ ds, d = .list ds → ∀ x ∈ ds, P x := by
  rintro ds rfl x hx
  exact h x hx
def progF (a1 a2 a3 : Addr) : List (Str × V) := [("_rights", .ref a1), ("_owners", .ref a2), ("_functions", .ref a3)]
/-- at p stands a program with these parts -/
def ProgAt (K : PySem.W.Frag) (C : Addr) (H : Hp) (p : Addr) (q : Prt) : Prop := ∃ dx a1 a2 a3, H p = some (.ins C dx (progF a1 a2 a3)) ∧ H a1 = some (.lst (q.rs.map V.str)) ∧ Dq K H (.ref a2) (.list (q.os.map ownD)) ∧ Dq K H (.ref a3) (.list (q.fs.map fnD))
theorem ProgAt.mono {K : PySem.W.Frag} {C : Addr} {H H' : Hp} {p : Addr} {q : Prt} (e : Ex H H') (h : ProgAt K C H p q) : ProgAt K C H' p q :=
  let ⟨dx, a1, a2, a3, h0, h1, h2, h3⟩ := h
  ⟨dx, a1, a2, a3, e _ _ h0, e _ _ h1, h2.mono (same_ex e), h3.mono (same_ex e)⟩
/-- bounds of what is copied -/
structure PrtLe (d : Nat) (q : Prt) : Prop where
  os : q.os.length ≤ 4096
  fl : q.fs.length ≤ 4096
  fs : ∀ g ∈ q.fs, nstB g.2.2 ≤ d ∧ cntB g.2.2 ≤ 4096
structure spInit (K : PySem.W.Frag) (n d : Nat) (C CL CI : Addr) (vs : List V) (H : Hp) (Q : VK) (E : XK) : Prop where
  mk' ::
  out : ∃ (p dx : Addr) (G : Hp) (v1 v2 v3 : V) (d1 d2 d3 : PyData), vs = [.ref p, v1, v2, v3] ∧ H p = some (.ins C dx []) ∧ Ex G H ∧ G p = none ∧ Dq K G v1 d1 ∧ Dq K G v2 d2 ∧ Dq K G v3 d3 ∧ DataOk n d1 d2 d3 ∧
  (∀ f c v, faultF d1 d2 d3 = some f → FltV CL CI G [v1, v2, v3] f c v → Refuse H E c v) ∧
  (faultF d1 d2 d3 = none → ∃ q : Prt, d1 = strsD q.rs ∧ d2 = .list (q.os.map ownD) ∧ d3 = .list (q.fs.map fnD) ∧ PrtLe d q ∧
    ∀ H2 M a1 a2 a3, New H H2 M → M a1 = some (.lst (q.rs.map V.str)) → Dq K M (.ref a2) (.list (q.os.map ownD)) → Dq K M (.ref a3) (.list (q.fs.map fnD)) → Q .non (upd H2 p (.ins C dx (progF a1 a2 a3))))
/-- the class as the text has made it -/
structure PTxt (K : PySem.W.Frag) (mg : Str → Option Value) (C : Addr) : Prop where
  cl : Cls K C
  nR : NoAttr K C "_rights"
  nO : NoAttr K C "_owners"
  nF : NoAttr K C "_functions"
  mgC : mg "Program" = some (.ref C)
theorem ne_ro : ¬ (("_rights" : Str) = "_owners") := by decide +kernel
theorem ne_rf : ¬ (("_rights" : Str) = "_functions") := by decide +kernel
theorem ne_of' : ¬ (("_owners" : Str) = "_functions") := by decide +kernel
theorem putF_o (x y : V) : putF "_owners" y [("_rights", x)] = ([("_rights", x), ("_owners", y)] : List (Str × V)) := by
  show (if ("_rights" : Str) = "_owners" then _ else (("_rights" : Str), x) :: putF "_owners" y []) = ([("_rights", x), ("_owners", y)] : List (Str × V))
  rw [if_neg ne_ro]
  all_goals rfl
theorem putF_f (x y z : V) : putF "_functions" z [("_rights", x), ("_owners", y)] = ([("_rights", x), ("_owners", y), ("_functions", z)] : List (Str × V)) := by
  show (if ("_rights" : Str) = "_functions" then _ else ((("_rights" : Str), x) :: (if ("_owners" : Str) = "_functions" then _ else (("_owners" : Str), y) :: putF "_functions" z []))) = ([("_rights", x), ("_owners", y), ("_functions", z)] : List (Str × V))
  rw [if_neg ne_rf, if_neg ne_of']
  all_goals rfl
section
variable {P : Program} {w : World} {K : PySem.W.Frag} {mg : Str → Option Value} {base : Heap} {f : Addr} {fd : FuncData}
abbrev sIni : Stmt := inClass (top 19) 0
theorem scIni : FnScope ["self", "rights", "owners", "functions"] ["self", "rights", "owners", "functions"] (defScope sIni) := ⟨rfl, rfl, rfl, by decide +kernel, rfl, by decide +kernel, by decide +kernel⟩
theorem ckR_k {CL CI : Addr} {v : V} {d : PyData} {H : Hp} {Q : VK} {E : XK} (h : Dq K H v d) (hz : ∀ x ∈ items d, strOk x) (q0 : sizeF 5 d = false → Refuse H E CL v)
    (q1 : sizeF 5 d = true → rBad [] (items d) = none → ∀ H2, Ex H H2 → Q .non H2) (q2 : sizeF 5 d = true → ∀ i a xs x, rBad [] (items d) = some i → v = .ref a → H a = some (.lst xs) → xs[i]? = some x → Refuse H E CI x) : spCkR K CL CI [v] H Q E := by

  refine ⟨v, d, rfl, h, items_of hz, q0, fun a xs ds e1 e2 e3 hs => ⟨fun h1 => q1 hs (by rw [e3]; exact h1), fun i x h1 h2 => q2 hs i a xs x (by rw [e3]; exact h1) e1 e2 h2⟩⟩
theorem ckO_k {CL CI pr : Addr} {rs : List Str} {v : V} {d : PyData} {H : Hp} {Q : VK} {E : XK} (h : Dq K H v d) (hpr : H pr = some (.lst (rs.map V.str))) (hl : rs.length ≤ 4096) (hz : ∀ x ∈ items d, headOk x) (q0 : sizeF 5 d = false → Refuse H E CL v)
    (q1 : sizeF 5 d = true → oBad rs [] (items d) = none → ∀ H2, Ex H H2 → Q .non H2) (q2 : sizeF 5 d = true → ∀ i a xs x, oBad rs [] (items d) = some i → v = .ref a → H a = some (.lst xs) → xs[i]? = some x → Refuse H E CI x) : spCkO K CL CI [v, .ref pr] H Q E := by

  refine ⟨v, d, pr, rs, rfl, h, hpr, hl, items_of hz, q0, fun a xs ds e1 e2 e3 hs => ⟨fun h1 => q1 hs (by rw [e3]; exact h1), fun i x h1 h2 => q2 hs i a xs x (by rw [e3]; exact h1) e1 e2 h2⟩⟩
theorem ckF_k {CL CI po pr : Addr} {n : Nat} {os : List Own} {rs : List Str} {v : V} {d : PyData} {H : Hp} {Q : VK} {E : XK} (h : Dq K H v d) (hpo : Dq K H (.ref po) (.list (os.map ownD))) (hol : os.length ≤ 4096) (hpr : H pr = some (.lst (rs.map V.str)))
    (hz : ∀ x ∈ items d, headOk x ∧ x.depth ≤ n + 1) (q0 : sizeF 6 d = false → Refuse H E CL v)
    (q1 : sizeF 6 d = true → fBad (os.map (·.1)) (namesF (items d)) rs [] (items d) = none → ∀ H2, Ex H H2 → Q .non H2) (q2 : sizeF 6 d = true → ∀ i a xs x, fBad (os.map (·.1)) (namesF (items d)) rs [] (items d) = some i → v = .ref a → H a = some (.lst xs) → xs[i]? = some x → Refuse H E CI x) : spCkF K n CL CI [v, .ref po, .ref pr] H Q E := by

  refine ⟨v, d, po, pr, os, rs, rfl, h, hpo, hol, hpr, items_of hz, q0, fun a xs ds e1 e2 e3 hs => ⟨fun h1 => q1 hs (by rw [e3]; exact h1), fun i x h1 h2 => q2 hs i a xs x (by rw [e3]; exact h1) e1 e2 h2⟩⟩
theorem cpO_k {p : Addr} {os : List Own} {H : Hp} {Q : VK} {E : XK} (h : Dq K H (.ref p) (.list (os.map ownD))) (hl : os.length ≤ 4096) (q : ∀ p2 H2 M, New H H2 M → FrN K H M (.ref p2) (.list (os.map ownD)) → Q (.ref p2) H2) : spCpO K [.ref p] H Q E := by

  exact ⟨p, os, rfl, h, hl, q⟩
theorem cpF_k {p : Addr} {d : Nat} {fs : List Fn} {H : Hp} {Q : VK} {E : XK} (h : Dq K H (.ref p) (.list (fs.map fnD))) (hl : fs.length ≤ 4096) (hb : ∀ g ∈ fs, nstB g.2.2 ≤ d ∧ cntB g.2.2 ≤ 4096) (q : ∀ p2 H2 M, New H H2 M → FrN K H M (.ref p2) (.list (fs.map fnD)) → Q (.ref p2) H2) : spCpF K d [.ref p] H Q E := by

  exact ⟨p, fs, rfl, h, hl, hb, q⟩
theorem dq_list {v : V} {d : PyData} {H : Hp} (h : Dq K H v d) (hs : isLst d = true) : ∃ a xs, v = .ref a ∧ H a = some (.lst xs) ∧ DqA K H xs (items d) := by
  cases h with
  | lst h1 h2 => exact ⟨_, _, rfl, h1, h2⟩
  | _ => cases hs
theorem size_lst {m : Nat} {d : PyData} (h : sizeF m d = true) : isLst d = true ∧ (items d).length ≤ m := by
  cases d with
  | list ds =>
    simp only [sizeF, Bool.and_eq_true, decide_eq_true_eq] at h
    exact ⟨rfl, h.2⟩
  | _ => cases h
theorem lst_items {d : PyData} (h : isLst d = true) : d = .list (items d) := by
  cases d with
  | list ds => rfl
  | _ => cases h
theorem ok_init {n d : Nat} {C CL CI fR fO fF fCO fCF : Addr} {fdR fdO fdF fdCO fdCF : FuncData} (F : Fun K "__init__" "Program.__init__" sIni f fd) (T : PTxt K mg C) (hnd : 2 * d + 4 ≤ 3 * n + 6)
    (FR : FnOk P w K mg base (L2.CX P w) 4 fR fdR ["rights"] (spCkR K CL CI)) (mR : mg "check_rights" = some (.ref fR)) (kR : PySem.W.keepIn K (.ref fR) = true) (bR : Binds K fdR ["rights"] [])
    (FO : FnOk P w K mg base (L2.CX P w) 4 fO fdO ["owners", "rights"] (spCkO K CL CI)) (mO : mg "check_owners" = some (.ref fO)) (kO : PySem.W.keepIn K (.ref fO) = true) (bO : Binds K fdO ["owners", "rights"] [])
    (FF : FnOk P w K mg base (L2.CX P w) (3 * n + 6) fF fdF ["functions", "owners", "rights"] (spCkF K n CL CI)) (mF : mg "check_functions" = some (.ref fF)) (kF : PySem.W.keepIn K (.ref fF) = true) (bF : Binds K fdF ["functions", "owners", "rights"] [])
    (FCO : FnOk P w K mg base CX0 1 fCO fdCO ["owners"] (spCpO K)) (mCO : mg "copy_owners" = some (.ref fCO)) (kCO : PySem.W.keepIn K (.ref fCO) = true) (bCO : Binds K fdCO ["owners"] [])
    (FCF : FnOk P w K mg base CX0 (2 * d + 4) fCF fdCF ["functions"] (spCpF K d)) (mCF : mg "copy_functions" = some (.ref fCF)) (kCF : PySem.W.keepIn K (.ref fCF) = true) (bCF : Binds K fdCF ["functions"] [])
    (mL : mg "list" = none) :
    FnOk P w K mg base (L2.CX P w) (3 * n + 7) f fd ["self", "rights", "owners", "functions"] (spInit K n d C CL CI) := by
  refine F.okX scIni (fun vs H Q E h => ?_) (fun cdv A outer s H vs Q E hr h => ?_)
  · obtain ⟨_, _, _, _, _, _, _, _, _, rfl, _⟩ := h
    rfl
  · obtain ⟨p, dx, G, v1, v2, v3, d1, d2, d3, rfl, hp, eG, gp, h1, h2, h3, ok, qb, qg⟩ := h
    have r4 := hr.mono (j := 4) (by omega)
    have r1 := hr.mono (j := 1) (by omega)
    have rd := hr.mono (j := 2 * d + 4) (by omega)
    refine ⟨_, pss_cons (ps_expr (pe_callS FR r4 (by rfl) mR kR bR (fun σ => passAt (takes_of rfl rfl rfl rfl) σ) (pa_cons (pv 1) pa_nil)))
      (pss_cons (ps_expr (pe_callS FO r4 (by rfl) mO kO bO (fun σ => passAt (takes_of rfl rfl rfl rfl) σ) (pa_cons (pv 2) (pa_cons (pv 1) pa_nil))))
      (pss_cons (ps_expr (pe_callS FF hr (by rfl) mF kF bF (fun σ => passAt (takes_of rfl rfl rfl rfl) σ) (pa_cons (pv 3) (pa_cons (pv 2) (pa_cons (pv 1) pa_nil)))))
      (pss_cons (ps_fld (pv 0) (pe_callTy (call_listK (K := K)) (by rfl) mL (by decide +kernel) (pa_cons (pv 1) pa_nil)) rfl)
      (pss_cons (ps_fld (pv 0) (pe_call FCO r1 rfl mCO kCO bCO .nil pass0 (pa_cons (pv 2) pa_nil)) rfl)
      (pss_one (ps_fld (pv 0) (pe_call FCF rd rfl mCF kCF bCF .nil pass0 (pa_cons (pv 3) pa_nil)) rfl)))))), ?_⟩
    have sG := same_ex eG
    refine ⟨_, rfl, ckR_k (h1.mono sG) ok.r (fun s1 => qb (.lst 0) CL v1 (by simp only [faultF, s1, if_true]) ⟨rfl, rfl⟩) (fun s1 b1 H1 e1 => ?_) (fun s1 i a xs x b1 ea hx hi => ?_)⟩
    case refine_2 =>
      subst ea
      obtain ⟨a', xs', ea, ga, _⟩ := dq_list h1 (size_lst s1).1
      cases ea
      rw [eG _ _ ga] at hx
      cases hx
      exact qb (.itm 0 i) CI x (by simp only [faultF, s1, b1, Bool.true_eq_false, if_false]) ⟨rfl, _, _, rfl, ga, hi⟩
    obtain ⟨a1, xs1, rfl, g1, q1⟩ := dq_list h1 (size_lst s1).1
    have e1s := rBad_strs b1
    have hx1 : xs1 = ((items d1).map unS).map V.str := strs_back (by rw [← e1s]; exact q1)
    have l1 : ((items d1).map unS).length ≤ 4096 := by
      have := (size_lst s1).2
      rw [List.length_map]
      omega
    rw [hx1] at g1
    have x1 := eG.trans e1
    refine ⟨_, rfl, _, rfl, ckO_k (rs := (items d1).map unS) (h2.mono (same_ex x1)) (x1 _ _ g1) l1 ok.o (fun s2 => ?_) (fun s2 b2 H2 e2 => ?_) (fun s2 i a xs x b2 ea hx hi => ?_)⟩
    · intro H3 e3
      exact qb (.lst 1) CL v2 (by simp only [faultF, s1, b1, s2, Bool.true_eq_false, if_false, if_true]) ⟨rfl, rfl⟩ H3 (e1.trans e3)
    case refine_3 =>
      subst ea
      obtain ⟨a', xs', ea, ga, _⟩ := dq_list h2 (size_lst s2).1
      cases ea
      rw [x1 _ _ ga] at hx
      cases hx
      intro H3 e3
      exact qb (.itm 1 i) CI x (by simp only [faultF, s1, b1, s2, b2, Bool.true_eq_false, if_false]) ⟨rfl, _, _, rfl, ga, hi⟩ H3 (e1.trans e3)
    obtain ⟨os, eos, hos⟩ := oBad_own b2
    obtain ⟨a2, xs2, rfl, g2, q2⟩ := dq_list h2 (size_lst s2).1
    have e2d : d2 = .list (os.map ownD) := by rw [lst_items (size_lst s2).1, eos]
    have l2 : os.length ≤ 4096 := by
      have h1 := (size_lst s2).2
      have h2 := congrArg List.length eos
      rw [List.length_map] at h2
      omega
    have x2 := x1.trans e2
    refine ⟨_, rfl, _, rfl, _, rfl, ckF_k (os := os) (rs := (items d1).map unS) (h3.mono (same_ex x2)) (by rw [← e2d]; exact h2.mono (same_ex x2)) l2 (x2 _ _ g1) ok.f (fun s3 => ?_) (fun s3 b3 H3 e3 => ?_) (fun s3 i a xs x b3 ea hx hi => ?_)⟩
    · intro H3 e3
      exact qb (.lst 2) CL v3 (by simp only [faultF, s1, b1, s2, b2, s3, Bool.true_eq_false, if_false, if_true]) ⟨rfl, rfl⟩ H3 ((e1.trans e2).trans e3)
    case refine_3 =>
      subst ea
      obtain ⟨a', xs', ea, ga, _⟩ := dq_list h3 (size_lst s3).1
      cases ea
      rw [x2 _ _ ga] at hx
      cases hx
      intro H3 e3
      rw [hos] at b3
      exact qb (.itm 2 i) CI x (by simp only [faultF, s1, b1, s2, b2, s3, b3, Bool.true_eq_false, if_false]) ⟨rfl, _, _, rfl, ga, hi⟩ H3 ((e1.trans e2).trans e3)
    rw [hos] at b3
    obtain ⟨q, ed1, ed2, ed3, le, qg⟩ := qg (by simp only [faultF, s1, b1, s2, b2, s3, b3, Bool.true_eq_false, if_false])
    have x3 := x2.trans e3
    have er : (items d1).map unS = q.rs := by
      rw [ed1]
      simp [strsD, items, unS, List.map_map, Function.comp_def]
    have gq1 : H3 a1 = some (.lst (q.rs.map V.str)) := by
      rw [x3 _ _ g1, er]
    have hp3 : H3 p = some (.ins C dx []) := e3 _ _ (e2 _ _ (e1 _ _ hp))
    refine ⟨_, rfl, a1, _, rfl, .inl (SqL.of gq1), fun l nl => ?_⟩
    have npl : p ≠ l := ne_of_none hp3 nl
    refine ⟨_, rfl, p, C, dx, [], rfl, (by rw [upd_ne npl]; exact hp3), T.cl, T.nR, (by show 0 < 1000; decide), ?_⟩
    have k1 : New H (upd H3 l (.lst (q.rs.map V.str))) (upd emp l (.lst (q.rs.map V.str))) := (new_ofEx (e1.trans (e2.trans e3))).put nl
    have x4 : Ex G (upd H3 l (.lst (q.rs.map V.str))) := x3.trans (Ex.new nl)
    have xp : ∀ {H4 : Hp} {o : HO}, Ex G H4 → Ex G (upd H4 p o) := fun x a u e => by
      have z : a ≠ p := fun z => by rw [z, gp] at e; cases e
      rw [upd_ne z]
      exact x a u e
    obtain ⟨a3, xs3, rfl, g3, q3⟩ := dq_list h3 (size_lst s3).1
    rw [ed2] at h2
    rw [ed3] at h3
    refine ⟨_, rfl, cpO_k (os := q.os) (h2.mono (same_ex (xp x4))) le.os fun a2' H5 M5 k5 h5 => ?_⟩
    have hp5 := k5.hh _ _ (upd_same (a := p))
    refine ⟨_, rfl, p, C, dx, _, rfl, hp5, T.cl, T.nO, (by show 1 < 1000; decide), ?_⟩
    obtain ⟨k5', e5⟩ := new_swap k5 (o0 := .ins C dx []) (by rw [upd_ne npl]; exact hp3)
    generalize upd H5 p (.ins C dx []) = A5 at k5' e5
    subst e5
    have x5 : Ex G A5 := x4.trans k5'.hh
    rw [upd_upd]
    refine ⟨_, rfl, cpF_k (fs := q.fs) (h3.mono (same_ex (xp x5))) le.fl le.fs fun a3' H6 M6 k6 h6 => ?_⟩
    have hp6 := k6.hh _ _ (upd_same (a := p))
    refine ⟨_, rfl, p, C, dx, _, rfl, hp6, T.cl, T.nF, (by rw [show putF "_rights" (V.ref l) [] = ([("_rights", V.ref l)] : List (Str × V)) from rfl, putF_o]; show 2 < 1000; decide), ?_⟩
    have hp4 : (upd H3 l (.lst (q.rs.map V.str))) p = some (.ins C dx []) := by rw [upd_ne npl]; exact hp3
    obtain ⟨k6', e6⟩ := new_swap k6 (o0 := .ins C dx []) (k5'.hh _ _ hp4)
    generalize upd H6 p (.ins C dx []) = A6 at k6' e6
    subst e6
    rw [upd_upd, show putF "_rights" (V.ref l) [] = ([("_rights", V.ref l)] : List (Str × V)) from rfl, putF_o, putF_f]
    have kk := (k1.trans k5').trans k6'
    have r1' : Ex (upd emp l (.lst (q.rs.map V.str))) (join (join (upd emp l (.lst (q.rs.map V.str))) M5) M6) := join_l.trans join_l
    have r2' : Ex M5 (join (join (upd emp l (.lst (q.rs.map V.str))) M5) M6) := (k1.right k5').trans join_l
    have r3' : Ex M6 (join (join (upd emp l (.lst (q.rs.map V.str))) M5) M6) := (k1.trans k5').right k6'
    exact qg A6 _ l a2' a3' kk (r1' _ _ upd_same) (h5.dq.mono (same_ex r2')) (h6.dq.mono (same_ex r3'))
end
end Lx

set_option Elab.async false
set_option maxRecDepth 100000
set_option linter.all false
set_option maxHeartbeats 2000000
/-! KitQ: == and != of an instance whose class has its own ==, beside anything; plain data to the left of such an instance. -/
namespace KxQ
open PySem PySem.W PyProof.Rows PySem.SeqAt
section
variable {prog : Program} {w : World} {A : Around} {E : Value → Shared → Prop} {s : Shared} {K : Frag} {x C f : Addr} {ox : Obj} {od : Option Obj} {b tb : Value}
/-- x != b by the inherited != over the own == -/
theorem ne_K {Q : Value → Shared → Prop} (hu : A.units + 1 < cLine) (X : K.In s.heap) (I : InstAt s.heap x ox C od) (hb : Looks (model prog w) s.heap (typeOf b) tb) (hn : notFirst K C tb = true)
    (hne : findIn K (.ref C) "__ne__" = some (some (.builtin "object.__ne__"))) (hob : subIn K (.ref C) (.type "object") = some true)
    (hs : findIn K (.ref C) "__eq__" = some (some (.ref f))) (hf : isFn K (.ref f) = true)
    (h : wpAny (model prog w) A.in1 (call (.ref f) [.ref x, b]) (fun v s' => ∃ r, v = .bool r ∧ Q (.bool (!r)) s') E s) : wpAny (model prog w) A (richCompare .NotEq (.ref x) b) Q E s := by
  have ob := F.cmp_object
  have body : wpAny (model prog w) A.in1 (Builtin.«object.__ne__» ⟨[.ref x, b], []⟩) (fun fin s' => ∃ r, fin = .done (.ret (.bool r)) ∧ Q (.bool r) s') E s := by
    obtain ⟨hp, g, d, t, os⟩ := s
    unfold Builtin.«object.__ne__»
    repeat (first
      | with_reducible refine wpAny_cRoomFor (show A.in1.units < cLine from hu) ?_
      | (refine wpAny_bind (m := callSpecialIfBound? (.ref x) (Str.ofString "__eq__") [b])
          (ifBound_K X I hs hf (wpAny_mono h (fun r s' hr => by
            obtain ⟨b, rfl, hq⟩ := hr
            repeat (first | exact ⟨_, rfl, hq⟩ | exact wpAny_pure ⟨_, rfl, hq⟩ | exact wpAny_truthy_bool ⟨_, rfl, hq⟩ | (refine wpAny_bind (m := truthy (.bool _)) (wpAny_truthy_bool ?_)) | wp_step)) fun _ _ e => e)))
      | wp_step)
  have one : wpAny (model prog w) A (tryCompare (.ref x) "__ne__" b) (fun r s' => ∃ r', r = some (.bool r') ∧ Q (.bool r') s') E s := by
    unfold tryCompare
    refine wpAny_bind ?_
    simp only [callSpecialIfBound?, bindSpecialIfBound?]
    have fin : wpAny (model prog w) A (call (.builtin "object.__ne__") ([.ref x] ++ [b]) >>= fun v => pure (some v)) (fun r => wpAny (model prog w) A (match r with | some .notImplemented | none => pure none | some v => pure (some v)) (fun r s' => ∃ r', r = some (.bool r') ∧ Q (.bool r') s') E) E s := by
      refine wpAny_bind (wpAny_call (codeAny_call_builtin ob.ne.plain F.cmpEntry_ne (check_slot F.cmpKind_ne F.cmpSplit_ne (I.type.andThen (looks_subIn X hob)) (F.cmpArgs_ne _ _) (wpAny_mono body (fun fin s' hv => ?_) fun _ _ e => e))))
      obtain ⟨r, rfl, q⟩ := hv
      exact wpAny_pure (wpAny_pure ⟨r, rfl, q⟩)
    refine wpAny_holding (wpAny_bind (wpAny_bind (wpAny_bind (I.type.here ((looks_findIn X hne).here ?_)))))
    simp only [ob.ne.bind]
    refine wpAny_bind (wpAny_askSetting (wpAny_ite ?_))
    split
    · exact wpAny_bind (wpAny_pure (wpAny_pure fin))
    · exact wpAny_tryCatch (wpAny_bind (wpAny_pure (wpAny_pure fin)))
  unfold richCompare
  simp only [oneThing_ref]
  refine wpAny_holding (wpAny_bind (wpAny_cRoomFor (Nat.lt_of_succ_lt hu) ?_))
  refine wpAny_bind (I.type.here (wpAny_bind (hb.here ?_)))
  split
  · rename_i q
    have e : subIn K tb (.ref C) = some false := by
      rcases Bool.or_eq_true_iff.mp hn with e | e
      · rw [beq_iff_eq.mp e] at q; simp at q
      · exact beq_iff_eq.mp e
    refine wpAny_bind ((looks_subIn X e).here ?_)
    simp only [Bool.false_eq_true, if_false]
    refine wpAny_bind (wpAny_mono one (fun r s' z => ?_) fun _ _ e => e)
    obtain ⟨v, rfl, hq⟩ := z
    exact wpAny_pure hq
  · refine wpAny_bind (wpAny_pure ?_)
    simp only [Bool.false_eq_true, if_false]
    refine wpAny_bind (wpAny_mono one (fun r s' z => ?_) fun _ _ e => e)
    obtain ⟨v, rfl, hq⟩ := z
    exact wpAny_pure hq
/-- u == x, u of a built-in type that declines, x an instance with its own == -/
theorem rev_K {u : Value} {T id : String} {Q : Value → Shared → Prop} (hu : A.units < cLine) (X : K.In s.heap) (ha : s.TypeIs u T) (I : InstAt s.heap x ox C od) (hsub : subIn K (.ref C) (.type T) = some false)
    (h1 : Slot T "__eq__" id) (hc : ∀ Q' : Value → Shared → Prop, Q' .notImplemented s → wpAny (model prog w) A (call (.builtin id) [u, .ref x]) Q' E s)
    (hs : findIn K (.ref C) "__eq__" = some (some (.ref f))) (hf : isFn K (.ref f) = true)
    (h : wpAny (model prog w) A (call (.ref f) [.ref x, u]) (PySem.W.CmpBack Q) E s) : wpAny (model prog w) A (richCompare .Eq u (.ref x)) Q E s := by
  have one : wpAny (model prog w) A (tryCompare (.ref x) "__eq__" u) (fun r s' => ∃ v, r = some v ∧ Q v s') E s := by
    unfold tryCompare
    refine wpAny_bind (ifBound_K X I hs hf (wpAny_mono h (fun v s' hv => ?_) fun _ _ e => e))
    cases v <;> first | exact hv.elim | exact wpAny_pure ⟨_, rfl, hv⟩
  unfold richCompare
  simp only [ha.oneThing_none]
  refine wpAny_holding (wpAny_bind (wpAny_cRoomFor hu ?_))
  refine wpAny_bind (wpAny_typeOf ha (wpAny_bind (I.type.here ?_)))
  have hne : (Value.type T != Value.ref C) = true := rfl
  simp only [hne, if_true]
  refine wpAny_bind ((looks_subIn X hsub).here ?_)
  simp only [Bool.false_eq_true, if_false, Bool.not_false, if_true]
  refine wpAny_bind (m := tryCompare u _ (.ref x)) (wpAny_tryCompare_declines ha h1 (hc _ ⟨rfl, ?_⟩))
  refine wpAny_bind (wpAny_mono one (fun r s' z => ?_) fun _ _ e => e)
  obtain ⟨v, rfl, hq⟩ := z
  exact wpAny_pure hq
end
end KxQ

set_option Elab.async false
set_option maxRecDepth 100000
set_option linter.all false
set_option maxHeartbeats 2000000
namespace KxQ
open PySem PySem.W PyProof.Rows PySem.SeqAt
open AutoSeq1 (wpAny_loadPart')
section
variable {prog : Program} {w : World} {A : Around} {E : Value → Shared → Prop} {s : Shared} {K : Frag} {x C dx : Addr} {od : Option Obj}
theorem cut {T : String} {name : Str} {id : String} {B : Builtin} {self : Value} {rest : List Value} {Q : Value → Shared → Prop} (slot : Slot T name id) (hT : s.TypeIs self T)
    (entry : entryFor table id = some B) (args : argsOk id ⟨self :: rest, []⟩)
    (h : ∀ R : Result → Shared → Prop, R (.ok (.ret .notImplemented)) s → wpAny (model prog w) A.in1 (B ⟨self :: rest, []⟩) (GQ.FinOf prog w A R) (fun e s' => R (.error e) s') s) (q : Q .notImplemented s) :
    wpAny (model prog w) A (call (.builtin id) (self :: rest)) Q E s := GQ.call_here slot hT entry args (h _ q)
theorem dec_list {l : Addr} {items : Array Value} {n : Nat} {dd : Option Addr} {sl : Array (Option Value)} (X : K.In s.heap) (hl : s.heap.get? l = some { cls := .type "list", dict := dd, data := .seq items n, slots := sl })
    (I : InstAt s.heap x (instObj C dx) C od) (hs : subIn K (.ref C) (.type "list") = some false) {R : Result → Shared → Prop} (h : R (.ok (.ret .notImplemented)) s) :
    wpAny (model prog w) A.in1 (Builtin.«list.__eq__» ⟨[.ref l, .ref x], []⟩) (GQ.FinOf prog w A R) (fun e s' => R (.error e) s') s := by
  have L : Looks (model prog w) s.heap (isInstance (.ref x) (.type "list")) false := I.type.andThen (looks_subIn X hs)
  obtain ⟨hp, g, d, tk, os⟩ := s
  repeat (first | with_reducible refine L.here ?_ | wp_step)
  exact h
theorem dec_tup {l : Addr} {items : Array Value} {n : Nat} {dd : Option Addr} {sl : Array (Option Value)} (X : K.In s.heap) (hl : s.heap.get? l = some { cls := .type "tuple", dict := dd, data := .seq items n, slots := sl })
    (I : InstAt s.heap x (instObj C dx) C od) (hs : subIn K (.ref C) (.type "tuple") = some false) {R : Result → Shared → Prop} (h : R (.ok (.ret .notImplemented)) s) :
    wpAny (model prog w) A.in1 (Builtin.«tuple.__eq__» ⟨[.ref l, .ref x], []⟩) (GQ.FinOf prog w A R) (fun e s' => R (.error e) s') s := by
  have L : Looks (model prog w) s.heap (isInstance (.ref x) (.type "tuple")) false := I.type.andThen (looks_subIn X hs)
  obtain ⟨hp, g, d, tk, os⟩ := s
  repeat (first | with_reducible refine L.here ?_ | with_reducible refine wpAny_loadPart' hl ?_ | wp_step)
  exact h
theorem dec_dict {l : Addr} {es : Array DictEntry} {n : Nat} {dd : Option Addr} {sl : Array (Option Value)} (X : K.In s.heap) (hl : s.heap.get? l = some { cls := .type "dict", dict := dd, data := .dict es n, slots := sl })
    (I : InstAt s.heap x (instObj C dx) C od) (hs : subIn K (.ref C) (.type "dict") = some false) {R : Result → Shared → Prop} (h : R (.ok (.ret .notImplemented)) s) :
    wpAny (model prog w) A.in1 (Builtin.«dict.__eq__» ⟨[.ref l, .ref x], []⟩) (GQ.FinOf prog w A R) (fun e s' => R (.error e) s') s := by
  have L : Looks (model prog w) s.heap (isInstance (.ref x) (.type "dict")) false := I.type.andThen (looks_subIn X hs)
  obtain ⟨hp, g, d, tk, os⟩ := s
  repeat (first | with_reducible refine L.here ?_ | with_reducible refine wpAny_loadPart' hl ?_ | wp_step)
  exact h
theorem dec_str {y : Str} {u : Tok} (I : InstAt s.heap x (instObj C dx) C od) {R : Result → Shared → Prop} (h : R (.ok (.ret .notImplemented)) s) :
    wpAny (model prog w) A.in1 (Builtin.«str.__eq__» ⟨[.str y u, .ref x], []⟩) (GQ.FinOf prog w A R) (fun e s' => R (.error e) s') s := by
  have hx := I.at_
  obtain ⟨hp, g, d, tk, os⟩ := s
  repeat (first | with_reducible refine wpAny_load hx ?_ | wp_step)
  exact h
theorem dec_int {i : Int} {u : Tok} (I : InstAt s.heap x (instObj C dx) C od) {R : Result → Shared → Prop} (h : R (.ok (.ret .notImplemented)) s) :
    wpAny (model prog w) A.in1 (Builtin.«int.__eq__» ⟨[.int i u, .ref x], []⟩) (GQ.FinOf prog w A R) (fun e s' => R (.error e) s') s := by
  have hx := I.at_
  obtain ⟨hp, g, d, tk, os⟩ := s
  repeat (first | with_reducible refine wpAny_load hx ?_ | wp_step)
  exact h
theorem dec_bool {b : Bool} (I : InstAt s.heap x (instObj C dx) C od) {R : Result → Shared → Prop} (h : R (.ok (.ret .notImplemented)) s) :
    wpAny (model prog w) A.in1 (Builtin.«int.__eq__» ⟨[.bool b, .ref x], []⟩) (GQ.FinOf prog w A R) (fun e s' => R (.error e) s') s := by
  have hx := I.at_
  obtain ⟨hp, g, d, tk, os⟩ := s
  repeat (first | with_reducible refine wpAny_load hx ?_ | wp_step)
  exact h
theorem dec_none {R : Result → Shared → Prop} (h : R (.ok (.ret .notImplemented)) s) :
    wpAny (model prog w) A.in1 (Builtin.«NoneType.__eq__» ⟨[.none, .ref x], []⟩) (GQ.FinOf prog w A R) (fun e s' => R (.error e) s') s := by
  obtain ⟨hp, g, d, tk, os⟩ := s
  repeat wp_step
  exact h
end
end KxQ

set_option Elab.async false
set_option maxRecDepth 100000
set_option linter.all false
set_option maxHeartbeats 2000000
/-! KitQ3: == and != by an own ==, as rules. -/
namespace Kx
open PySem PySem.Spec PyProof.Rows L2 Evl
/-- what the text says of a class with its own == -/
structure OwnE (K : PySem.W.Frag) (C f : Addr) : Prop where
  hs : PySem.W.findIn K (.ref C) "__eq__" = some (some (.ref f))
  hf : PySem.W.isFn K (.ref f) = true
  hne : PySem.W.findIn K (.ref C) "__ne__" = some (some (.builtin "object.__ne__"))
  hob : PySem.W.subIn K (.ref C) (.type "object") = some true
section
variable {X : Cx} {CX : CXT} {n : Nat} {f C : Addr} {fd : FuncData} {ps : List Str} {sp : Sp} {E : XK} {pins : List (Addr × Obj)} {σ : L2.St} {H : Hp} {s : Shared}
theorem run_fo {A : Around} {Q : VK} {us : List Value} {vs : List V} (F : FnOk X.prog X.w X.K X.mg X.base CX n f fd ps sp) (hb : Binds X.K fd ps []) (hr : Room n A) (e0 : Env0 X.prog X.w X.K X.mg X.base A X.stack s H)
    (hx : Passes CX X E) (I : Inv X pins σ H s) (r : Vals vs us) (h : sp vs H Q E) : wpAny (model X.prog X.w) A (call (.ref f) us) (EP X pins σ Q) X.xe s := by
  have hl := F.len _ _ _ _ h
  refine wpAny_call (codeAny_mono (F.run A X.stack s H ⟨us, []⟩ us vs Q E hr e0 (by
    have := hb s us I.kIn (by rw [List.append_nil, ← r.length]; exact hl)
    rw [List.append_nil] at this
    exact this) r h) fun r s' hq => ?_)
  cases r with
  | error e => exact hx pins σ H s e s' I hq
  | ok fl =>
    cases fl with
    | ret u => exact I.after hq
    | next => exact False.elim hq
    | brk => exact False.elim hq
    | cont => exact False.elim hq
theorem looks_tyx {x : V} {u t : Value} (I : Inv X pins σ H s) (rx : RelV x u) (ty : TyX X.K H x t) : PySem.W.Looks (model X.prog X.w) s.heap (typeOf u) t := by
  obtain ⟨P, Z, p, _⟩ := kit_of I rx ty
  exact Z.ty _ _ I.kIn p
/-- x == y, x an instance with its own ==, y anything -/
def rEqO (K : PySem.W.Frag) (C : Addr) (sp : Sp) (E : XK) : R2 := fun x y H Q => ∃ (a dx : Addr) (fs : List (Str × V)) (t : Value), x = .ref a ∧ H a = some (.ins C dx fs) ∧ TyX K H y t ∧ PySem.W.notFirst K C t = true ∧ sp [x, y] H (fun v H' => ∃ b, v = .bl b ∧ Q (.bl b) H') E
def rNeO (K : PySem.W.Frag) (C : Addr) (sp : Sp) (E : XK) : R2 := fun x y H Q => ∃ (a dx : Addr) (fs : List (Str × V)) (t : Value), x = .ref a ∧ H a = some (.ins C dx fs) ∧ TyX K H y t ∧ PySem.W.notFirst K C t = true ∧ sp [x, y] H (fun v H' => ∃ b, v = .bl b ∧ Q (.bl (!b)) H') E
theorem op_eqO (O : OwnE X.K C f) (F : FnOk X.prog X.w X.K X.mg X.base CX n f fd ps sp) (hb : Binds X.K fd ps []) (hr : Room n X.A) (hx : Passes CX X E) : OpR X (compareOp .Eq) (rEqO X.K C sp E) := by
  intro pins s σ H x y v u Q I rx ry h
  obtain ⟨a, dx, fs, t, rfl, ha, ty, hn, q⟩ := h
  have ry' := ry
  cases (show v = Value.ref a from rx)
  obtain ⟨mA, J, _⟩ := ins_get I.hok ha
  obtain ⟨od, J, _⟩ := J.look
  obtain ⟨m, hF⟩ := I.fr
  show wpAny (model X.prog X.w) X.A (richCompare .Eq (.ref a) u) (EP X pins σ Q) X.xe s
  refine PySem.W.cmp_K (op := .Eq) (tb := t) hr.units0 hF I.ok.mod.kin J (looks_tyx I ry ty) hn O.hs O.hf ?_
  refine wpAny_mono (run_fo F hb hr I.env0 hx I (us := [.ref a, u]) (vs := [.ref a, y]) (.cons rfl (.cons ry' .nil)) q) (fun r s' z => ?_) fun _ _ x => x
  obtain ⟨z', H', I', rz, b, rfl, q⟩ := z
  cases (show r = Value.bool b from rz)
  exact ⟨.bl b, H', I', rfl, q⟩
theorem op_neO (O : OwnE X.K C f) (F : FnOk X.prog X.w X.K X.mg X.base CX n f fd ps sp) (hb : Binds X.K fd ps []) (hr : Room (n + 1) X.A) (hx : Passes CX X E) : OpR X (compareOp .NotEq) (rNeO X.K C sp E) := by
  intro pins s σ H x y v u Q I rx ry h
  obtain ⟨a, dx, fs, t, rfl, ha, ty, hn, q⟩ := h
  have ry' := ry
  cases (show v = Value.ref a from rx)
  obtain ⟨mA, J, _⟩ := ins_get I.hok ha
  obtain ⟨od, J, _⟩ := J.look
  show wpAny (model X.prog X.w) X.A (richCompare .NotEq (.ref a) u) (EP X pins σ Q) X.xe s
  refine KxQ.ne_K (tb := t) (Nat.lt_of_le_of_lt (Nat.add_le_add_left (by decide : 1 ≤ 64) _) hr.units) I.kIn J (looks_tyx I ry ty) hn O.hne O.hob O.hs O.hf ?_
  refine wpAny_mono (run_fo F hb hr.in1 I.env0.in1 hx I (us := [.ref a, u]) (vs := [.ref a, y]) (.cons rfl (.cons ry' .nil)) q) (fun r s' z => ?_) fun _ _ x => x
  obtain ⟨z', H', I', rz, b, rfl, q⟩ := z
  cases (show r = Value.bool b from rz)
  exact ⟨b, rfl, .bl (!b), H', I', rfl, q⟩
/-- x == y, x plain data, y an instance with its own == -/
def rEqR (K : PySem.W.Frag) (C : Addr) (sp : Sp) (E : XK) : R2 := fun x y H Q => ∃ (a dx : Addr) (fs : List (Str × V)) (d : PyData), y = .ref a ∧ H a = some (.ins C dx fs) ∧ Dq K H x d ∧ sp [y, x] H (fun v H' => ∃ b, v = .bl b ∧ Q (.bl b) H') E
def NoSub (K : PySem.W.Frag) (C : Addr) : Prop := ∀ T ∈ (["NoneType", "bool", "int", "str", "list", "tuple", "dict"] : List String), PySem.W.subIn K (.ref C) (.type T) = some false
theorem op_eqR (O : OwnE X.K C f) (N : NoSub X.K C) (FF : FnOk X.prog X.w X.K X.mg X.base CX n f fd ps sp) (hb : Binds X.K fd ps []) (hr : Room n X.A) (hx : Passes CX X E) : OpR X (compareOp .Eq) (rEqR X.K C sp E) := by
  intro pins s σ H x y v u Q I rx ry h
  obtain ⟨a, dx, fs, d, rfl, ha, hd, q⟩ := h
  have rx' := rx
  cases (show u = Value.ref a from ry)
  obtain ⟨mA, J0, _⟩ := ins_get I.hok ha
  obtain ⟨od, J, _⟩ := J0.look
  show wpAny (model X.prog X.w) X.A (richCompare .Eq v (.ref a)) (EP X pins σ Q) X.xe s
  have fin : wpAny (model X.prog X.w) X.A (call (.ref f) [.ref a, v]) (PySem.W.CmpBack (EP X pins σ Q)) X.xe s := by
    refine wpAny_mono (run_fo FF hb hr I.env0 hx I (us := [.ref a, v]) (vs := [.ref a, x]) (.cons rfl (.cons rx' .nil)) q) (fun r s' z => ?_) fun _ _ x => x
    obtain ⟨z', H', I', rz, b, rfl, q⟩ := z
    cases (show r = Value.bool b from rz)
    exact ⟨.bl b, H', I', rfl, q⟩
  cases hd with
  | non =>
    cases (show v = Value.none from rx)
    exact KxQ.rev_K (T := "NoneType") hr.units0 I.kIn rfl J (N _ (by decide)) F.slot_NoneType_eq (fun Q' q' => KxQ.cut F.slot_NoneType_eq rfl F.entry_NoneType_eq (F.args_NoneType_eq_2 _ _) (fun R h => KxQ.dec_none (prog := X.prog) (w := X.w) h) q') O.hs O.hf fin
  | bl b =>
    cases (show v = Value.bool b from rx)
    exact KxQ.rev_K (T := "bool") hr.units0 I.kIn rfl J (N _ (by decide)) F.slot_bool_eq (fun Q' q' => KxQ.cut F.slot_bool_eq rfl F.entry_int_eq (F.args_int_eq_2 _ _) (fun R h => KxQ.dec_bool (prog := X.prog) (w := X.w) J h) q') O.hs O.hf fin
  | int i =>
    obtain ⟨t, e⟩ := (show ∃ t, v = Value.int i t from rx)
    cases e
    exact KxQ.rev_K (T := "int") hr.units0 I.kIn (typeIs_int _ _ _) J (N _ (by decide)) F.slot_int_eq (fun Q' q' => KxQ.cut F.slot_int_eq (typeIs_int _ _ _) F.entry_int_eq (F.args_int_eq_2 _ _) (fun R h => KxQ.dec_int (prog := X.prog) (w := X.w) J h) q') O.hs O.hf fin
  | str z =>
    obtain ⟨t, e⟩ := (show ∃ t, v = Value.str z t from rx)
    cases e
    exact KxQ.rev_K (T := "str") hr.units0 I.kIn (typeIs_str _ _ _) J (N _ (by decide)) F.slot_str_eq (fun Q' q' => KxQ.cut F.slot_str_eq (typeIs_str _ _ _) F.entry_str_eq (F.args_str_eq_2 _ _) (fun R h => KxQ.dec_str (prog := X.prog) (w := X.w) J h) q') O.hs O.hf fin
  | @lst l xs ds hl _ =>
    cases (show v = Value.ref l from rx)
    obtain ⟨_, its, n, rv, ho⟩ := (show ObjOk X.prog X.w H s.heap l (.lst _) from I.hok l _ hl)
    exact KxQ.rev_K (T := "list") hr.units0 I.kIn ⟨_, ho, rfl⟩ J (N _ (by decide)) F.slot_list_eq (fun Q' q' => KxQ.cut F.slot_list_eq ⟨_, ho, rfl⟩ F.entry_list_eq (F.args_list_eq_2 _ _) (fun R h => KxQ.dec_list (prog := X.prog) (w := X.w) I.kIn ho J (N _ (by decide)) h) q') O.hs O.hf fin
  | @tup l xs ds hl _ =>
    cases (show v = Value.ref l from rx)
    obtain ⟨its, rv, ⟨⟨cls, dd, dt, sl⟩, ho, hc, n, hd'⟩, _⟩ := I.tuple hl
    simp only at hc hd'
    subst hc hd'
    exact KxQ.rev_K (T := "tuple") hr.units0 I.kIn ⟨_, ho, rfl⟩ J (N _ (by decide)) F.slot_tuple_eq (fun Q' q' => KxQ.cut F.slot_tuple_eq ⟨_, ho, rfl⟩ F.entry_tuple_eq (F.args_tuple_eq_2 _ _) (fun R h => KxQ.dec_tup (prog := X.prog) (w := X.w) I.kIn ho J (N _ (by decide)) h) q') O.hs O.hf fin
  | @dic l kvs ds hl _ =>
    cases (show v = Value.ref l from rx)
    obtain ⟨_, hal, vs, rv, ⟨cls, dd, dt, sl⟩, es, ep, ho, hx', hd', _⟩ := (show ObjOk X.prog X.w H s.heap l (.dK _) from I.hok l _ hl)
    have hc := hx'.1
    simp only at hc hd'
    subst hc hd'
    exact KxQ.rev_K (T := "dict") hr.units0 I.kIn ⟨_, ho, rfl⟩ J (N _ (by decide)) F.slot_dict_eq (fun Q' q' => KxQ.cut F.slot_dict_eq ⟨_, ho, rfl⟩ F.entry_dict_eq (F.args_dict_eq_2 _ _) (fun R h => KxQ.dec_dict (prog := X.prog) (w := X.w) I.kIn ho J (N _ (by decide)) h) q') O.hs O.hf fin
/-- either of two ways -/
theorem op_or {fn : Value → Value → Sem Value} {r r' : R2} (h : OpR X fn r) (h' : OpR X fn r') : OpR X fn (fun x y H Q => r x y H Q ∨ r' x y H Q) := by
  intro pins s σ H x y v u Q I rx ry q
  rcases q with q | q
  · exact h pins s σ H x y v u Q I rx ry q
  · exact h' pins s σ H x y v u Q I rx ry q
end
end Kx

set_option Elab.async false
set_option maxRecDepth 100000
set_option linter.all false
set_option maxHeartbeats 4000000
namespace Kx
open PySem PySem.Spec PyProof.Rows L2 Evl
mutual
theorem noDict_lay : ∀ {d : PyData}, d.canLay0 = true → d.hasDict = false
  | .none, _ => by simp only [PyData.hasDict]
  | .bool _, _ => by simp only [PyData.hasDict]
  | .int _, _ => by simp only [PyData.hasDict]
  | .str _, _ => by simp only [PyData.hasDict]
  | .list xs, h => by
    simp only [PyData.canLay0] at h
    simp only [PyData.hasDict]
    exact noDict_layA h
  | .tuple xs, h => by
    simp only [PyData.canLay0] at h
    simp only [PyData.hasDict]
    exact noDict_layA h
  | .dict _, h => by simp only [PyData.canLay0] at h; cases h
theorem noDict_layA : ∀ {xs : List PyData}, PyData.canLayAll0 xs = true → PyData.hasDictAll xs = false
  | [], _ => by simp only [PyData.hasDictAll]
  | x :: xs, h => by
    simp only [PyData.canLayAll0, Bool.and_eq_true] at h
    simp only [PyData.hasDictAll, noDict_lay h.1, noDict_layA h.2, Bool.or_self]
end
theorem shaped_noDict {d : PyData} (h : SeqAt.shaped d = true) : d.hasDict = false := noDict_lay (Bool.and_eq_true_iff.mp h).1
mutual
theorem eqv_self : ∀ {d : PyData}, d.hasDict = false → PyData.eqv d d = true
  | .none, _ => by simp only [PyData.eqv]
  | .bool _, _ => by simp only [PyData.eqv, beq_self_eq_true]
  | .int _, _ => by simp only [PyData.eqv, beq_self_eq_true]
  | .str _, _ => by simp only [PyData.eqv, beq_self_eq_true]
  | .list xs, h => by
    simp only [PyData.hasDict] at h
    simp only [PyData.eqv]
    exact eqv_selfA h
  | .tuple xs, h => by
    simp only [PyData.hasDict] at h
    simp only [PyData.eqv]
    exact eqv_selfA h
  | .dict _, h => by simp only [PyData.hasDict] at h; cases h
theorem eqv_selfA : ∀ {xs : List PyData}, PyData.hasDictAll xs = false → PyData.eqvAll xs xs = true
  | [], _ => by simp only [PyData.eqvAll]
  | x :: xs, h => by
    simp only [PyData.hasDictAll, Bool.or_eq_false_iff] at h
    simp only [PyData.eqvAll, eqv_self h.1, eqv_selfA h.2, Bool.and_self]
end
end Kx
namespace Lx
open PySem PySem.Spec PyProof.Rows L2 Evl Kx
/-- parts that == can compare -/
structure ShP (q : Prt) : Prop where
  r : SeqAt.shaped (strsD q.rs) = true
  o : SeqAt.shaped (.list (q.os.map ownD)) = true
  f : SeqAt.shaped (.list (q.fs.map fnD)) = true
def sameP (q q2 : Prt) : Bool := PyData.eqv (strsD q.rs) (strsD q2.rs) && PyData.eqv (.list (q.os.map ownD)) (.list (q2.os.map ownD)) && PyData.eqv (.list (q.fs.map fnD)) (.list (q2.fs.map fnD))
theorem sameP_self {q : Prt} (h : ShP q) : sameP q q = true := by
  unfold sameP
  rw [eqv_self (shaped_noDict h.r), eqv_self (shaped_noDict h.o), eqv_self (shaped_noDict h.f)]
  rfl
/-- what isinstance asks of the class -/
structure PIsi (K : PySem.W.Frag) (C : Addr) : Prop where
  ha : PySem.W.findIn K (.ref C) "__class__" = some (some (.builtin "object.__class__"))
  hn : PySem.W.specialIn K (.builtin "object.__class__") "__get__" = some (some (.builtin "getset_descriptor.__get__"))
  ht : PySem.W.takesIn K (.builtin "object.__class__") = some true
  hm : PySem.W.mroIn K C (.type "object") = some true
  no : ∀ T ∈ (["NoneType", "bool", "int", "str", "list", "tuple", "dict"] : List String), PySem.W.kitOne K (.type T) (.ref C) = some false
theorem tyN_mem (d : PyData) : tyN d ∈ (["NoneType", "bool", "int", "str", "list", "tuple", "dict"] : List String) := by cases d <;> simp [tyN]
section
variable {P : Program} {w : World} {K : PySem.W.Frag} {mg : Str → Option Value} {base : Heap} {f : Addr} {fd : FuncData}
theorem lk_r (a1 a2 a3 : Addr) : (progF a1 a2 a3).lookup ("_rights" : Str) = some (.ref a1) := rfl
theorem lk_o (a1 a2 a3 : Addr) : (progF a1 a2 a3).lookup ("_owners" : Str) = some (.ref a2) := by
  have h1 : (("_owners" : Str) == ("_rights" : Str)) = false := by decide +kernel
  have h2 : (("_owners" : Str) == ("_owners" : Str)) = true := by decide +kernel
  unfold progF
  simp only [List.lookup, h1, h2]
theorem lk_f (a1 a2 a3 : Addr) : (progF a1 a2 a3).lookup ("_functions" : Str) = some (.ref a3) := by
  have h1 : (("_functions" : Str) == ("_rights" : Str)) = false := by decide +kernel
  have h2 : (("_functions" : Str) == ("_owners" : Str)) = false := by decide +kernel
  have h3 : (("_functions" : Str) == ("_functions" : Str)) = true := by decide +kernel
  unfold progF
  simp only [List.lookup, h1, h2, h3]
theorem isi_p {C p : Addr} {H : Hp} {q : Prt} {Q : VK} (T : PTxt K mg C) (I : PIsi K C) (h : ProgAt K C H p q) (q' : Q (.bl true) H) : rIsiS K [.ref p, .ref C] H Q := by
  obtain ⟨dx, a1, a2, a3, h0, _⟩ := h
  exact ⟨.ref p, .ref C, .ref C, .ref C, true, rfl, .own C, .base (.ins h0 T.cl I.ha I.hn I.ht I.hm), by unfold PySem.W.kitOne; rw [if_pos (beq_self_eq_true _)], q'⟩
theorem isi_d {C : Addr} {H : Hp} {v : V} {d : PyData} {Q : VK} (I : PIsi K C) (h : Dq K H v d) (q' : Q (.bl false) H) : rIsiS K [v, .ref C] H Q :=
  ⟨v, .ref C, .type (tyN d), .ref C, false, rfl, .own C, dq_tyx h, I.no _ (tyN_mem d), q'⟩
abbrev sRi : Stmt := inClass (top 19) 1
abbrev sOs : Stmt := inClass (top 19) 2
abbrev sFs : Stmt := inClass (top 19) 3
abbrev sEq : Stmt := inClass (top 19) 4
theorem scRi : FnScope ["self"] ["self"] (defScope sRi) := ⟨rfl, rfl, rfl, by decide +kernel, rfl, by decide +kernel, by decide +kernel⟩
theorem scOs : FnScope ["self"] ["self"] (defScope sOs) := ⟨rfl, rfl, rfl, by decide +kernel, rfl, by decide +kernel, by decide +kernel⟩
theorem scFs : FnScope ["self"] ["self"] (defScope sFs) := ⟨rfl, rfl, rfl, by decide +kernel, rfl, by decide +kernel, by decide +kernel⟩
theorem scEq : FnScope ["self", "other"] ["self", "other"] (defScope sEq) := ⟨rfl, rfl, rfl, by decide +kernel, rfl, by decide +kernel, by decide +kernel⟩
structure spRi (K : PySem.W.Frag) (C : Addr) (vs : List V) (H : Hp) (Q : VK) (E_ : XK) : Prop where
  mk' ::
  out : ∃ p q, vs = [.ref p] ∧ ProgAt K C H p q ∧ ∀ l H2 M, New H H2 M → M l = some (.lst (q.rs.map V.str)) → Q (.ref l) H2
structure spOs (K : PySem.W.Frag) (C : Addr) (vs : List V) (H : Hp) (Q : VK) (E_ : XK) : Prop where
  mk' ::
  out : ∃ p q, vs = [.ref p] ∧ ProgAt K C H p q ∧ q.os.length ≤ 4096 ∧ ∀ l H2 M, New H H2 M → FrN K H M (.ref l) (.list (q.os.map ownD)) → Q (.ref l) H2
structure spFs (K : PySem.W.Frag) (C : Addr) (d : Nat) (vs : List V) (H : Hp) (Q : VK) (E_ : XK) : Prop where
  mk' ::
  out : ∃ p q, vs = [.ref p] ∧ ProgAt K C H p q ∧ PrtLe d q ∧ ∀ l H2 M, New H H2 M → FrN K H M (.ref l) (.list (q.fs.map fnD)) → Q (.ref l) H2
structure spEqP (K : PySem.W.Frag) (C : Addr) (vs : List V) (H : Hp) (Q : VK) (E_ : XK) : Prop where
  mk' ::
  out : ∃ p v q, vs = [.ref p, v] ∧ ProgAt K C H p q ∧ ShP q ∧ ((∃ p2 q2, v = .ref p2 ∧ ProgAt K C H p2 q2 ∧ ShP q2 ∧ Q (.bl (sameP q q2)) H) ∨ (∃ d, Dq K H v d ∧ Q (.bl false) H))
theorem ok_ri {C : Addr} (F : Fun K "rights" "Program.rights" sRi f fd) (T : PTxt K mg C) (mL : mg "list" = none) : FnOk P w K mg base CX0 1 f fd ["self"] (spRi K C) := by
  refine F.ok scRi (fun vs H Q E h => ?_) (fun cdv A outer s H vs Q E hr h => ?_)
  · obtain ⟨_, _, rfl, _⟩ := h
    rfl
  · obtain ⟨p, q, rfl, ⟨dx, a1, a2, a3, h0, h1, h2, h3⟩, k⟩ := h
    refine ⟨_, pss_one (ps_ret (pe_callTy (call_listK (K := K)) (by rfl) mL (by decide +kernel) (pa_cons (pe_fld (pv 0) rfl) pa_nil))), ?_⟩
    exact ⟨_, rfl, p, C, dx, _, _, rfl, h0, T.cl, T.nR, lk_r _ _ _, a1, _, rfl, .inl (SqL.of h1), fun l nl => k l _ _ (New.refl.put nl) upd_same⟩
theorem ok_os {C fC : Addr} {fdC : FuncData} (F : Fun K "owners" "Program.owners" sOs f fd) (T : PTxt K mg C)
    (FC : FnOk P w K mg base CX0 1 fC fdC ["owners"] (spCpO K)) (mC : mg "copy_owners" = some (.ref fC)) (kC : PySem.W.keepIn K (.ref fC) = true) (bC : Binds K fdC ["owners"] []) : FnOk P w K mg base CX0 2 f fd ["self"] (spOs K C) := by
  refine F.ok scOs (fun vs H Q E h => ?_) (fun cdv A outer s H vs Q E hr h => ?_)
  · obtain ⟨_, _, rfl, _⟩ := h
    rfl
  · obtain ⟨p, q, rfl, ⟨dx, a1, a2, a3, h0, h1, h2, h3⟩, hl, k⟩ := h
    refine ⟨_, pss_one (ps_ret (pe_call FC hr rfl mC kC bC .nil pass0 (pa_cons (pe_fld (pv 0) rfl) pa_nil))), ?_⟩
    exact ⟨_, rfl, p, C, dx, _, _, rfl, h0, T.cl, T.nO, lk_o _ _ _, cpO_k (os := q.os) h2 hl k⟩
theorem ok_fs {d : Nat} {C fC : Addr} {fdC : FuncData} (F : Fun K "functions" "Program.functions" sFs f fd) (T : PTxt K mg C)
    (FC : FnOk P w K mg base CX0 (2 * d + 4) fC fdC ["functions"] (spCpF K d)) (mC : mg "copy_functions" = some (.ref fC)) (kC : PySem.W.keepIn K (.ref fC) = true) (bC : Binds K fdC ["functions"] []) : FnOk P w K mg base CX0 (2 * d + 5) f fd ["self"] (spFs K C d) := by
  refine F.ok scFs (fun vs H Q E h => ?_) (fun cdv A outer s H vs Q E hr h => ?_)
  · obtain ⟨_, _, rfl, _⟩ := h
    rfl
  · obtain ⟨p, q, rfl, ⟨dx, a1, a2, a3, h0, h1, h2, h3⟩, le, k⟩ := h
    refine ⟨_, pss_one (ps_ret (pe_call FC hr rfl mC kC bC .nil pass0 (pa_cons (pe_fld (pv 0) rfl) pa_nil))), ?_⟩
    exact ⟨_, rfl, p, C, dx, _, _, rfl, h0, T.cl, T.nF, lk_f _ _ _, cpF_k (fs := q.fs) h3 le.fl le.fs k⟩
theorem ok_eqP {C : Addr} (F : Fun K "__eq__" "Program.__eq__" sEq f fd) (T : PTxt K mg C) (I : PIsi K C) (mI : mg "isinstance" = none) : FnOk P w K mg base CX0 1 f fd ["self", "other"] (spEqP K C) := by
  refine F.ok scEq (fun vs H Q E h => ?_) (fun cdv A outer s H vs Q E hr h => ?_)
  · obtain ⟨_, _, _, rfl, _⟩ := h
    rfl
  · obtain ⟨p, v, q, rfl, hp, sq, k⟩ := h
    have hu := hr.units
    refine ⟨_, pss_cons (ps_if (pt_not (pt_val (pe_callB (isi_S (K := K)) (by rfl) mI PyProof.Rows.boot_isinstance (pa_cons (pv 1) (pa_cons (pe_cls (by rfl) T.mgC) pa_nil))))) (pss_one (ps_ret pe_bl)) pss_nil)
      (pss_cons (ps_if (PW.pt (pw_or (pt_cmpR (op_neD hu) (pe_fld (pv 0) rfl) (pe_fld (pv 1) rfl) (nomark _)) (pw_or1 (pt_cmpR (op_neD hu) (pe_fld (pv 0) rfl) (pe_fld (pv 1) rfl) (nomark _))))) (pss_one (ps_ret pe_bl)) pss_nil)
      (pss_one (ps_ret (pe_cmpR (op_eqD hu) (pe_fld (pv 0) rfl) (pe_fld (pv 1) rfl) (nomark _))))), ?_⟩
    rcases k with ⟨p2, q2, rfl, hp2, sq2, k⟩ | ⟨d, hd, k⟩
    · refine ⟨_, rfl, isi_p T I hp2 ⟨_, rfl, iteF ?_⟩⟩
      obtain ⟨dx, a1, a2, a3, h0, h1, h2, h3⟩ := hp
      obtain ⟨dy, b1, b2, b3, g0, g1, g2, g3⟩ := hp2
      refine ⟨_, rfl, p, C, dx, _, _, rfl, h0, T.cl, T.nR, lk_r _ _ _, _, rfl, p2, C, dy, _, _, rfl, g0, T.cl, T.nR, lk_r _ _ _, _, _, dp_of (dq_strs h1) (shaped_noDict sq.r), dp_of (dq_strs g1) (shaped_noDict sq2.r), sq.r, sq2.r, ?_⟩
      refine ⟨_, rfl, ite2 (fun e1 => ?_) (fun e1 => ?_)⟩
      · have : sameP q q2 = false := by
          unfold sameP
          rw [show PyData.eqv (strsD q.rs) (strsD q2.rs) = false by simpa using e1]
          rfl
        rw [this] at k
        exact k
      · have e1 : PyData.eqv (strsD q.rs) (strsD q2.rs) = true := by simpa using e1
        refine ⟨_, rfl, p, C, dx, _, _, rfl, h0, T.cl, T.nO, lk_o _ _ _, _, rfl, p2, C, dy, _, _, rfl, g0, T.cl, T.nO, lk_o _ _ _, _, _, dp_of h2 (shaped_noDict sq.o), dp_of g2 (shaped_noDict sq2.o), sq.o, sq2.o, ?_⟩
        refine ⟨_, rfl, ite2 (fun e2 => ?_) (fun e2 => ?_)⟩
        · have : sameP q q2 = false := by
            unfold sameP
            rw [e1, show PyData.eqv (.list (q.os.map ownD)) (.list (q2.os.map ownD)) = false by simpa using e2]
            rfl
          rw [this] at k
          exact k
        · have e2 : PyData.eqv (.list (q.os.map ownD)) (.list (q2.os.map ownD)) = true := by simpa using e2
          refine ⟨_, rfl, p, C, dx, _, _, rfl, h0, T.cl, T.nF, lk_f _ _ _, _, rfl, p2, C, dy, _, _, rfl, g0, T.cl, T.nF, lk_f _ _ _, _, _, dp_of h3 (shaped_noDict sq.f), dp_of g3 (shaped_noDict sq2.f), sq.f, sq2.f, ?_⟩
          unfold sameP at k
          rw [e1, e2, Bool.true_and, Bool.true_and] at k
          exact k
    · exact ⟨_, rfl, isi_d I hd ⟨_, rfl, iteT k⟩⟩
end
end Lx

set_option Elab.async false
set_option maxRecDepth 100000
set_option linter.all false
set_option maxHeartbeats 4000000
namespace Lx
open PySem PySem.Spec PyProof.Rows L2 Evl Kx
/-- parts that make a program -/
structure Good (n d : Nat) (q : Prt) : Prop where
  ok : DataOk n (strsD q.rs) (.list (q.os.map ownD)) (.list (q.fs.map fnD))
  no : faultF (strsD q.rs) (.list (q.os.map ownD)) (.list (q.fs.map fnD)) = none
  le : PrtLe d q
  sh : ShP q
theorem prt_at {K : PySem.W.Frag} {H : Hp} {p : Addr} {q : Prt} (h : Dq K H (.ref p) (prtD q)) : ∃ a1 a2 a3, H p = some (.lst [.ref a1, .ref a2, .ref a3]) ∧ H a1 = some (.lst (q.rs.map V.str)) ∧ Dq K H (.ref a2) (.list (q.os.map ownD)) ∧ Dq K H (.ref a3) (.list (q.fs.map fnD)) := by
  cases h with
  | lst h0 hs =>
  cases hs with
  | cons g1 hs =>
  cases hs with
  | cons g2 hs =>
  cases hs with
  | cons g3 hs =>
  cases hs
  have g2' := g2
  have g3' := g3
  cases g1 with
  | lst k1 s1 =>
  cases g2 with
  | lst k2 s2 =>
  cases g3 with
  | lst k3 s3 => exact ⟨_, _, _, h0, by rw [k1, strs_back s1], g2', g3'⟩
theorem mk_prt {K : PySem.W.Frag} {H : Hp} {p a1 a2 a3 : Addr} {q : Prt} (h0 : H p = some (.lst [.ref a1, .ref a2, .ref a3])) (h1 : H a1 = some (.lst (q.rs.map V.str))) (h2 : Dq K H (.ref a2) (.list (q.os.map ownD))) (h3 : Dq K H (.ref a3) (.list (q.fs.map fnD))) : Dq K H (.ref p) (prtD q) :=
  .lst h0 (.cons (dq_strs h1) (.cons h2 (.cons h3 .nil)))
section
variable {P : Program} {w : World} {K : PySem.W.Frag} {mg : Str → Option Value} {base : Heap} {f : Addr} {fd : FuncData}
abbrev sPgm : Stmt := top 39
theorem scPgm : FnScope ["parts", "owners", "name", "rights", "owner", "body"] ["parts"] (defScope sPgm) := ⟨rfl, rfl, rfl, by decide +kernel, rfl, by decide +kernel, by decide +kernel⟩
structure spPgm (K : PySem.W.Frag) (n d : Nat) (C : Addr) (vs : List V) (H : Hp) (Q : VK) (E_ : XK) : Prop where
  mk' ::
  out : ∃ (p : Addr) (q : Prt), vs = [.ref p] ∧ Dq K H (.ref p) (prtD q) ∧ Good n d q ∧ ∀ p2 H2 M, New H H2 M → ProgAt K C M p2 q → Q (.ref p2) H2
theorem cop_k {p : Addr} {d : Nat} {b : List Stp} {G H : Hp} {Q : VK} {E : XK} (e : Ex G H) (h : Dq K G (.ref p) (.list (bodyD b))) (h1 : nstB b ≤ d) (h2 : cntB b ≤ 4096) (q : ∀ p2 H2 M, New H H2 M → FrN K H M (.ref p2) (.list (bodyD b)) → Q (.ref p2) H2) : spCop K d [.ref p] H Q E := by

  exact ⟨p, G, b, rfl, e, h, h1, h2, q⟩
/-- a program is made of good parts -/
theorem init_k {n d : Nat} {C CL CI p dx a1 a2 a3 : Addr} {q : Prt} {H : Hp} {Q : VK} {E : XK} (hp : H p = none) (hd : H dx = none) (ne : dx ≠ p) (g : Good n d q) (h1 : H a1 = some (.lst (q.rs.map V.str))) (h2 : Dq K H (.ref a2) (.list (q.os.map ownD))) (h3 : Dq K H (.ref a3) (.list (q.fs.map fnD)))
    (k : ∀ H2 M, New H H2 M → ProgAt K C M p q → Q .non H2) : spInit K n d C CL CI [.ref p, .ref a1, .ref a2, .ref a3] (upd (upd H dx (.own p)) p (.ins C dx [])) Q E := by

  have hp2 : (upd H dx (.own p)) p = none := by rw [upd_ne ne.symm]; exact hp
  refine ⟨p, dx, H, .ref a1, .ref a2, .ref a3, _, _, _, rfl, upd_same, (Ex.new hd).trans (Ex.new hp2), hp, dq_strs h1, h2, h3, g.ok, (fun f c v e => by rw [g.no] at e; cases e), fun _ => ⟨q, rfl, rfl, rfl, g.le, fun H2 M b1 b2 b3 k2 m1 m2 m3 => ?_⟩⟩
  have mp : M p = none := k2.fr p _ upd_same
  have mdx : M dx = none := k2.fr dx (.own p) (by rw [upd_ne ne]; exact upd_same)
  have mm : New H (upd H2 p (.ins C dx (progF b1 b2 b3))) (upd M p (.ins C dx (progF b1 b2 b3))) := by
    refine ⟨fun a u e => ?_, fun a u e => ?_, fun a u e => ?_⟩
    · have z : a ≠ p := ne_of_none e hp
      have z2 : a ≠ dx := ne_of_none e hd
      rw [upd_ne z]
      exact k2.hh a u (by rw [upd_ne z, upd_ne z2]; exact e)
    · by_cases z : a = p
      · rw [z, upd_same] at e ⊢
        exact e
      · rw [upd_ne z] at e ⊢
        exact k2.mh a u e
    · have z : a ≠ p := ne_of_none e hp
      have z2 : a ≠ dx := ne_of_none e hd
      rw [upd_ne z]
      exact k2.fr a u (by rw [upd_ne z, upd_ne z2]; exact e)
  have em : Ex M (upd M p (.ins C dx (progF b1 b2 b3))) := Ex.new mp
  exact k _ _ mm ⟨dx, b1, b2, b3, upd_same, em _ _ m1, m2.mono (same_ex em), m3.mono (same_ex em)⟩
theorem ok_pgm {n d : Nat} {C CL CI fB fI : Addr} {fdB fdI : FuncData} (F : Fun K "_law_program" "_law_program" sPgm f fd) (T : PTxt K mg C) (hnd : d + 2 ≤ 3 * n + 8) (FB : FnOk P w K mg base CX0 (d + 2) fB fdB ["body"] (spCop K d)) (mB : mg "_law_copied" = some (.ref fB)) (kB : PySem.W.keepIn K (.ref fB) = true) (bB : Binds K fdB ["body"] [])
    (M0 : Mk K C fI) (FI : FnOk P w K mg base (L2.CX P w) (3 * n + 7) fI fdI ["self", "rights", "owners", "functions"] (spInit K n d C CL CI)) (bI : Binds K fdI ["self", "rights", "owners", "functions"] []) (mL : mg "list" = none) : FnOk P w K mg base CX0 (3 * n + 9) f fd ["parts"] (spPgm K n d C) := by
  refine F.ok scPgm (fun vs H Q E h => ?_) (fun cdv A outer s H vs Q E hr h => ?_)
  · obtain ⟨_, _, rfl, _⟩ := h
    rfl
  · obtain ⟨p, q, rfl, hd, g, fin⟩ := h
    have le := g.le
    have rB := hr.mono (j := d + 2) (by omega)
    refine ⟨_, pss_cons (ps_setLc (i := 1) (own := [("name", 2), ("rights", 3)]) (g := gTup K 2 (gCons (gName 2) (gCons (gName 3) gNil))) rfl scPgm.nd rfl rfl (sw_true rfl rfl rfl (by decide +kernel)) (pi_list (pe_ix ix_list (pv 0) pe_int (fun _ _ => rfl)))
            (blkOk_by (own := [("name", 2), ("rights", 3)]) (N := ["parts", "owners", "name", "rights", "owner", "body"]) (sc := defScope sPgm) (by decide +kernel))
            (fun _ _ _ _ _ => pg_tupK rfl (pgs_cons (pg_name (i := 2) scPgm.nd rfl (Or.inl rfl)) (pgs_cons (pg_name (i := 3) scPgm.nd rfl (Or.inl rfl)) pgs_nil))) (fun _ _ _ _ _ => pts_nil)
            (fun _ _ _ _ _ => pe_tup (pa_cons (pv 2) (pa_cons (pe_callTy (call_listK (K := K)) (by rfl) mL (by decide +kernel) (pa_cons (pv 3) pa_nil)) pa_nil))))
      (pss_one (ps_ret (pe_make M0 FI hr rfl T.mgC bI .nil (no_passes rfl rfl) (pa_cons (pe_callTy (call_listK (K := K)) (by rfl) mL (by decide +kernel) (pa_cons (pe_ix ix_list (pv 0) pe_int (fun _ _ => rfl)) pa_nil)) (pa_cons (pv 1) (pa_cons (pe_lc (own := [("name", 2), ("owner", 4), ("body", 5)]) (g := gTup K 3 (gCons (gName 2) (gCons (gName 4) (gCons (gName 5) gNil)))) rfl scPgm.nd (pi_list (pe_ix ix_list (pv 0) pe_int (fun _ _ => rfl)))
            (blkOk_by (own := [("name", 2), ("owner", 4), ("body", 5)]) (N := ["parts", "owners", "name", "rights", "owner", "body"]) (sc := defScope sPgm) (by decide +kernel))
            (fun _ _ _ _ _ => pg_tupK rfl (pgs_cons (pg_name (i := 2) scPgm.nd rfl (Or.inl rfl)) (pgs_cons (pg_name (i := 4) scPgm.nd rfl (Or.inl rfl)) (pgs_cons (pg_name (i := 5) scPgm.nd rfl (Or.inl rfl)) pgs_nil)))) (fun _ _ _ _ _ => pts_nil)
            (fun _ _ _ _ _ => pe_tup (pa_cons (pv 2) (pa_cons (pv 4) (pa_cons (pe_call FB rB rfl mB kB bB .nil pass0 (pa_cons (pv 5) pa_nil)) pa_nil))))) pa_nil)))))), ?_⟩
    obtain ⟨a1, a2, a3, h0, h1, h2, h3⟩ := prt_at hd
    have h2' := h2
    have h3' := h3
    cases h2 with
    | @lst _ xsO _ hpO hxO =>
    cases h3 with
    | @lst _ xsF _ hpF hxF =>
    have hlO : xsO.length = q.os.length := by
      have := dqa_len hxO
      rw [List.length_map] at this
      exact this
    have hlF : xsF.length = q.fs.length := by
      have := dqa_len hxF
      rw [List.length_map] at this
      exact this
    have leo := le.os
    have lef := le.fl
    refine ⟨_, rfl, p, _, _, _, rfl, rfl, SqL.of h0, rfl, a2, rfl, ⟨_, SqL.of hpO⟩, fun D nD => ?_⟩
    refine lc_list (K := K) (a := a2) (xs := xsO) (fun i H' => ∃ (M : Hp) (acc : List V), New H H' M ∧ H' D = some (.lst acc) ∧ M D = none ∧ FrA K H M acc ((q.os.take i).map ownD)) ?_ (fun i H' _ ⟨_, _, k, _⟩ => SqL.of (k.hh _ _ hpO)) ?_ ?_
    · exact ⟨emp, [], New.refl.own nD, upd_same, rfl, FrA.nil⟩
    · rintro i x H' hi ⟨M, acc, k, hD, mD, ha⟩
      obtain ⟨ow, ta, pl, how, rfl, hT, hpl⟩ := own_at hxO hi
      refine ⟨ta, _, rfl, sqt_ex (same_ex k.hh) hT, rfl, _, _, rfl, _, _, rfl, rfl, rfl, _, rfl, _, rfl, pl, _, rfl, .inl (SqL.of (k.hh _ _ hpl)), fun l nl => ⟨by show 2 ≤ sizeLine; decide, fun tp ntp => ?_⟩⟩
      have k2 := (k.put (o := .lst (ow.2.map V.str)) nl).put (o := .tup [.str ow.1, .ref l]) ntp
      have fl : D ≠ l := ne_of_none hD nl
      have ft : D ≠ tp := ne_of_none (show (upd H' l (.lst (ow.2.map V.str))) D = some (.lst acc) by rw [upd_ne fl]; exact hD) ntp
      have mD2 : (upd (upd M l (.lst (ow.2.map V.str))) tp (.tup [.str ow.1, .ref l])) D = none := by rw [upd_ne ft, upd_ne fl]; exact mD
      have ml : M l = none := k.none nl
      have mt : (upd M l (.lst (ow.2.map V.str))) tp = none := (k.put (o := .lst (ow.2.map V.str)) nl).none ntp
      have em : Ex M (upd (upd M l (.lst (ow.2.map V.str))) tp (.tup [.str ow.1, .ref l])) := (Ex.new ml).trans (Ex.new mt)
      refine ⟨acc, by rw [upd_ne ft, upd_ne fl]; exact hD, ?_, _, acc ++ [.ref tp], k2.wr nD mD2, upd_same, mD2, ?_⟩
      · have := dqa_len ha.dq
        rw [List.length_map, List.length_take] at this
        have h2 := (List.getElem?_eq_some_iff.mp hi).1
        have e3z : (5000 : Nat) < sizeLine := by decide
        omega
      · rw [List.take_succ, how, List.map_append]
        exact FrA.app k ha em (Ex.refl _) (own_fr (by rw [upd_ne (ne_of_none upd_same mt)]; exact upd_same) upd_same nl)
    · rintro H' ⟨M, acc, k, hD, mD, ha⟩
      rw [hlO, List.take_of_length_le (Nat.le_refl _)] at ha
      have kO := k.frz nD hD
      have dO : FrN K H (upd M D (.lst acc)) (.ref D) (.list (q.os.map ownD)) := FrN.lst ha mD nD
      generalize upd M D (.lst acc) = MO at kO dO
      have x1 := kO.hh
      have h1' := x1 _ _ h1
      refine ⟨_, rfl, p, _, _, _, rfl, rfl, SqL.of (x1 _ _ h0), rfl, a1, _, rfl, .inl (SqL.of h1'), fun l nl => ?_⟩
      have kl := kO.put (o := .lst (q.rs.map V.str)) nl
      have mOl : MO l = none := kO.none nl
      have dO2 := dO.mono (Ex.new (o := .lst (q.rs.map V.str)) mOl)
      have nlO : ∀ as, DqN K MO (.ref D) (.list (q.os.map ownD)) as → l ∉ as := fun as a hl => by
        obtain ⟨xs, e⟩ := a.is l hl
        rw [mOl] at e
        cases e
      obtain ⟨asO, aO, bO, cO⟩ := dO
      have nlO := nlO _ aO
      have aO2 := aO.mono (Ex.new (o := .lst (q.rs.map V.str)) mOl)
      have hlO2 : ∀ a ∈ asO, (upd H' l (.lst (q.rs.map V.str))) a ≠ none := fun a ha => by
        obtain ⟨xs, e⟩ := aO2.is a ha
        rw [kl.mh _ _ e]
        exact fun z => nomatch z
      have nl0 : H l = none := fresh_back x1 nl
      generalize hMl : upd MO l (.lst (q.rs.map V.str)) = Ml at kl dO2 aO2
      have ml : Ml l = some (.lst (q.rs.map V.str)) := by rw [← hMl]; exact upd_same
      have xF : Ex H (upd H' l (.lst (q.rs.map V.str))) := kl.hh
      have hpF2 := xF _ _ hpF
      have hLl : (upd H' l (.lst (q.rs.map V.str))) l ≠ none := by rw [upd_same]; exact fun z => nomatch z
      generalize upd H' l (.lst (q.rs.map V.str)) = HL at kl xF hpF2 hlO2 hLl ⊢
      refine ⟨_, rfl, _, rfl, p, _, _, _, rfl, rfl, SqL.of (xF _ _ h0), rfl, a3, rfl, ⟨_, SqL.of hpF2⟩, fun D2 nD2 => ?_⟩
      refine lc_list (K := K) (a := a3) (xs := xsF) (fun i H' => ∃ (M : Hp) (acc : List V), New HL H' M ∧ H' D2 = some (.lst acc) ∧ M D2 = none ∧ FrA K HL M acc ((q.fs.take i).map fnD)) ?_ (fun i H' _ ⟨_, _, k, _⟩ => SqL.of (k.hh _ _ hpF2)) ?_ ?_
      · exact ⟨emp, [], New.refl.own nD2, upd_same, rfl, FrA.nil⟩
      · rintro i x H' hi ⟨M, acc, k, hD, mD, ha⟩
        obtain ⟨g, ta, pl, how, rfl, hT, hpl⟩ := fn_at hxF hi
        obtain ⟨h1, h2⟩ := le.fs g (List.mem_of_getElem? how)
        refine ⟨ta, _, rfl, sqt_ex (same_ex (xF.trans k.hh)) hT, rfl, _, _, rfl, _, _, rfl, _, _, rfl, rfl, rfl, _, rfl, _, rfl, _, rfl, cop_k (G := H) (xF.trans k.hh) hpl h1 h2 fun p3 H3 M3 k3 h3 => ⟨by show 3 ≤ sizeLine; decide, fun tp ntp => ?_⟩⟩
        have hD3 := k3.hh _ _ hD
        have k4 := (k.trans k3).put (o := .tup [.str g.1, .str g.2.1, .ref p3]) ntp
        have ft : D2 ≠ tp := ne_of_none hD3 ntp
        have mt : (join M M3) tp = none := (k.trans k3).none ntp
        have mD2 : (upd (join M M3) tp (.tup [.str g.1, .str g.2.1, .ref p3])) D2 = none := by
          rw [upd_ne ft]
          exact join_none mD (k3.fr _ _ hD)
        refine ⟨acc, by rw [upd_ne ft]; exact hD3, ?_, _, acc ++ [.ref tp], k4.wr nD2 mD2, upd_same, mD2, ?_⟩
        · have := dqa_len ha.dq
          rw [List.length_map, List.length_take] at this
          have h2 := (List.getElem?_eq_some_iff.mp hi).1
          have e3z : (5000 : Nat) < sizeLine := by decide
          have := le.fl
          omega
        · rw [List.take_succ, how, List.map_append]
          exact FrA.app k ha (join_l.trans (Ex.new mt)) (Ex.refl _) (fn_fr (h3.mono ((k.right k3).trans (Ex.new mt))) upd_same)
      · rintro H' ⟨M, acc, k, hD, mD, ha⟩
        rw [hlF, List.take_of_length_le (Nat.le_refl _)] at ha
        have kF := k.frz nD2 hD
        have dF : FrN K HL (upd M D2 (.lst acc)) (.ref D2) (.list (q.fs.map fnD)) := FrN.lst ha mD nD2
        generalize upd M D2 (.lst acc) = MF at kF dF
        have kk := kl.trans kF
        intro px dx npx ndx nex
        have x2 := kk.mh
        refine init_k npx ndx nex g (x2 _ _ (join_l _ _ ml)) (dO2.dq.mono (same_ex (join_l.trans x2))) (dF.dq.mono (same_ex ((kl.right kF).trans x2))) fun H2 M k2 hp => ⟨rfl, ?_⟩
        exact fin px H2 _ (kk.trans k2) (hp.mono (kk.right k2))
end
end Lx

set_option Elab.async false
set_option maxRecDepth 100000
set_option linter.all false
set_option maxHeartbeats 2000000
/-! KitZ2: a walk over data that writes the lists it meets; a loop over a tuple or a text. -/
namespace Kx
open PySem PySem.Spec PyProof.Rows L2 Evl
theorem pi_or {X : Cx} {tg e : Expr} {w1 w2 : TI} (h1 : PI X tg e w1) (h2 : PI X tg e w2) : PI X tg e (fun σ H R => w1 σ H R ∨ w2 σ H R) :=
  ⟨fun pins s σ H R I h => h.elim (h1.run pins s σ H R I) (h2.run pins s σ H R I)⟩
theorem for_text {x : Str} {g : TG} {tb : TS} {D : Ends} {σ : L2.St} {H : Hp} (Pv : Nat → L2.St → Hp → Prop) (h0 : Pv 0 σ H)
    (hs : ∀ (i : Nat) c σ H, x.cps[i]? = some c → Pv i σ H → g (.str ⟨#[c]⟩) σ H fun σ2 H2 => tb { D with nx := Pv (i + 1), ct := Pv (i + 1), bk := D.nx } σ2 H2) (hd : ∀ σ H, Pv x.cps.size σ H → D.nx σ H) :
    ∃ W : Nat → Nat → L2.St → Hp → Prop, (∃ m, W 0 m σ H) ∧ ∀ i m σ H, W i m σ H →
      ((Its x).stop i H ∧ D.nx σ H) ∨ ((Its x).go i H ∧ ∃ N : L2.St → Hp → Prop, (∀ σ' H', N σ' H' → ∃ m', m' < m ∧ W (i + 1) m' σ' H') ∧ ∀ y H', (Its x).yld i H y H' → g y σ H' fun σ2 H2 => tb { D with nx := N, ct := N, bk := D.nx } σ2 H2) := by
  refine ⟨fun i m σ H => m = x.cps.size - i ∧ i ≤ x.cps.size ∧ Pv i σ H, ⟨x.cps.size, by simp, Nat.zero_le _, h0⟩, ?_⟩
  rintro i m σ H ⟨rfl, hi, p⟩
  by_cases hlt : i < x.cps.size
  · refine .inr ⟨hlt, Pv (i + 1), fun σ' H' p' => ⟨x.cps.size - (i + 1), by omega, rfl, hlt, p'⟩, fun y H' yy => ?_⟩
    obtain ⟨e, c, hc, rfl⟩ := yy
    subst e
    exact hs i c σ _ hc p
  · have e : i = x.cps.size := by omega
    subst e
    exact .inl ⟨Nat.le_refl _, hd σ H p⟩
section
variable {K : PySem.W.Frag} {H0 H' : Hp} {xs : List V} {ds : List PyData} {as : List Addr} {i : Nat}
/-- the first i items are done: what is outside of their lists is as it was -/
def Walk (K : PySem.W.Frag) (H0 : Hp) (xs : List V) (ds : List PyData) (as : List Addr) (i : Nat) (H' : Hp) : Prop :=
  ∃ as1 as2, as = as1 ++ as2 ∧ DqNA K H0 (xs.drop i) (ds.drop i) as2 ∧ ∀ a o, a ∉ as1 → H0 a = some o → H' a = some o
theorem Walk.start (h : DqNA K H0 xs ds as) : Walk K H0 xs ds as 0 H0 := ⟨[], as, rfl, by rw [List.drop_zero, List.drop_zero]; exact h, fun _ _ _ e => e⟩
theorem Walk.stay (w : Walk K H0 xs ds as i H') {a : Addr} {o : HO} (n : a ∉ as) (h : H0 a = some o) : H' a = some o := by
  obtain ⟨as1, as2, rfl, _, k⟩ := w
  exact k a o (fun z => n (List.mem_append_left _ z)) h
theorem Walk.item {x : V} (w : Walk K H0 xs ds as i H') (hx : xs[i]? = some x) (hl : ∀ a ∈ as, ∃ ys, H0 a = some (.lst ys)) (hn : as.Nodup) :
    ∃ d bs, ds[i]? = some d ∧ DqN K H' x d bs ∧ bs.Nodup ∧ (∀ b ∈ bs, b ∈ as) ∧ ∀ H'' : Hp, (∀ a o, a ∉ bs → H' a = some o → H'' a = some o) → Walk K H0 xs ds as (i + 1) H'' := by
  obtain ⟨as1, as2, rfl, hd, k⟩ := w
  have hi := (List.getElem?_eq_some_iff.mp hx).1
  have e1 : xs.drop i = x :: xs.drop (i + 1) := by
    rw [List.drop_eq_getElem_cons hi]
    congr 1
    exact (List.getElem?_eq_some_iff.mp hx).2
  rw [e1] at hd
  generalize hdd : ds.drop i = dd at hd
  cases hd with
  | @cons _ _ d dr bs cs h1 h2 =>
  have e2 : ds[i]? = some d := by
    have := congrArg (·[0]?) hdd
    simpa using this
  have e3 : ds.drop (i + 1) = dr := by
    have := congrArg (·.drop 1) hdd
    simpa [List.drop_drop] using this
  obtain ⟨n1, n2, n3⟩ := List.nodup_append.mp hn
  obtain ⟨m1, m2, m3⟩ := List.nodup_append.mp n2
  refine ⟨d, bs, e2, h1.agree (fun a ys q => k a _ (fun z => ?_) q) (fun a ha => ?_), m1, fun b hb => List.mem_append_right _ (List.mem_append_left _ hb), fun H'' hk => ⟨as1 ++ bs, cs, by rw [List.append_assoc], by rw [e3]; exact h2, fun a o ha e => ?_⟩⟩
  · obtain ⟨zs, q2⟩ := hl a (List.mem_append_left _ z)
    rw [q] at q2
    cases q2
  · obtain ⟨zs, q⟩ := h1.is a ha
    rw [q]
    exact k a _ (fun z => n3 a z a (List.mem_append_left _ ha) rfl) q
  · exact hk a o (fun z => ha (List.mem_append_right _ z)) (k a o (fun z => ha (List.mem_append_left _ z)) e)
end
/-- what may be spoilt, n deep -/
def spoN : Nat → PyData → Prop
  | 0, _ => False
  | n + 1, .list ds => ds.length ≤ 4096 ∧ ∀ d ∈ ds, (∃ z, d = .str z) ∨ ∃ ps, d = .tuple ps ∧ ∀ p ∈ ps, flatD p = true ∨ spoN n p
  | _ + 1, _ => False
end Kx

set_option Elab.async false
set_option maxRecDepth 100000
set_option linter.all false
set_option maxHeartbeats 4000000
namespace Lx
open PySem PySem.Spec PyProof.Rows L2 Evl Kx
section
variable {P : Program} {w : World} {K : PySem.W.Frag} {mg : Str → Option Value} {base : Heap} {f : Addr} {fd : FuncData}
abbrev sSpo : Stmt := top 42
theorem scSpo : FnScope ["body", "step", "part"] ["body"] (defScope sSpo) := ⟨rfl, rfl, rfl, by decide +kernel, rfl, by decide +kernel, by decide +kernel⟩
structure spSpo (K : PySem.W.Frag) (n : Nat) (vs : List V) (H : Hp) (Q : VK) (E_ : XK) : Prop where
  mk' ::
  out : ∃ (p : Addr) (d : PyData) (as : List Addr), vs = [.ref p] ∧ DqN K H (.ref p) d as ∧ as.Nodup ∧ spoN n d ∧ ∀ H2, (∀ a o, a ∉ as → H a = some o → H2 a = some o) → Q .non H2
theorem ok_spo0 (F : Fun K "_law_spoilt" "_law_spoilt" sSpo f fd) : FnOk P w K mg base CX0 1 f fd ["body"] (spSpo K 0) :=
  F.ok scSpo (fun vs H Q E h => by obtain ⟨_, _, _, _, _, _, h, _⟩ := h; exact h.elim) (fun cdv A outer s H vs Q E hr h => by obtain ⟨_, _, _, _, _, _, h, _⟩ := h; exact h.elim)
theorem ok_spo1 {n : Nat} (F : Fun K "_law_spoilt" "_law_spoilt" sSpo f fd) (FC : FnOk P w K mg base CX0 (n + 1) f fd ["body"] (spSpo K n)) (mC : mg "_law_spoilt" = some (.ref f)) (kC : PySem.W.keepIn K (.ref f) = true) (bC : Binds K fd ["body"] [])
    (mI : mg "isinstance" = none) (mL : mg "list" = none) : FnOk P w K mg base CX0 (n + 2) f fd ["body"] (spSpo K (n + 1)) := by
  refine F.ok scSpo (fun vs H Q E h => ?_) (fun cdv A outer s H vs Q E hr h => ?_)
  · obtain ⟨_, _, _, rfl, _⟩ := h
    rfl
  · obtain ⟨p, d, as, rfl, hd, hn, hs, q⟩ := h
    refine ⟨_, pss_cons (ps_for PassesOwn.never rfl (pi_list (pv 0)) (pg_name (i := 1) scSpo.nd rfl (Or.inl rfl))
        (pss_one (ps_for PassesOwn.never rfl (pi_or (pi_tup (pv 1)) (pi_str (pv 1))) (pg_name (i := 2) scSpo.nd rfl (Or.inl rfl))
          (pss_one (ps_if (pt_val (pe_callB (isi_S (K := K)) (by rfl) mI PyProof.Rows.boot_isinstance (pa_cons (pv 2) (pa_cons (pe_bltn (v := .ty "list") (by rfl) mL (by decide +kernel) rfl) pa_nil)))) (pss_one (ps_expr (pe_call FC hr rfl mC kC bC .nil pass0 (pa_cons (pv 2) pa_nil)))) pss_nil)))))
      (pss_one (ps_expr (pe_bm PySem.F.plainAttrs_list PySem.F.slot_list_append PySem.F.type_list_append mt_append (pv 0) (pa_cons pe_non pa_nil)))), ?_⟩
    cases hd with
    | flat f h => cases h <;> exact absurd f Bool.false_ne_true
    | tup h1 h2 => exact hs.elim
    | @lst _ xs ds bs hp hx =>
    obtain ⟨hl, hs⟩ := hs
    obtain ⟨np, nb⟩ := List.nodup_cons.mp hn
    have isb := hx.is
    have lx := dqa_len hx.dq
    refine ⟨_, rfl, p, rfl, ⟨_, SqL.of hp⟩, ?_⟩
    refine for_list (K := K) (a := p) (xs := xs) (fun i σ H' => ∃ o1 o2, σ = [some (.ref p), o1, o2] ∧ Walk K H xs ds bs i H') ⟨none, none, rfl, .start hx⟩ (fun i σ H' _ ⟨_, _, _, k⟩ => SqL.of (k.stay np hp)) ?_ ?_
    · rintro i x σ H' hi ⟨o1, o2, rfl, k⟩
      obtain ⟨e, cs, he, hxe, nc, sub, nxt⟩ := k.item hi isb nb
      rcases hs e (List.mem_of_getElem? he) with ⟨z, rfl⟩ | ⟨ps, rfl, hps⟩
      · cases hxe with
        | flat _ hq =>
        cases hq
        refine .inr ⟨_, rfl, z, rfl, ?_⟩
        refine for_text (x := z) (fun _ σ H'' => ∃ o1 o2, σ = [some (.ref p), o1, o2] ∧ H'' = H') ⟨_, _, rfl, rfl⟩ ?_ ?_
        · rintro j c σ H'' _ ⟨o1, o2, rfl, rfl⟩
          exact ⟨_, rfl, isi_l (Dq.str _) ⟨_, rfl, iteF ⟨_, _, rfl, rfl⟩⟩⟩
        · rintro σ H'' ⟨o1, o2, rfl, rfl⟩
          exact ⟨_, _, rfl, nxt _ fun a o _ h => h⟩
      · cases hxe with
        | flat f _ => cases f
        | @tup ta ys _ _ hT hy =>
        refine .inl ⟨_, rfl, ta, rfl, ⟨_, .inl (.inl hT)⟩, ?_⟩
        have isy := hy.is
        refine for_tup (K := K) (a := ta) (xs := ys) (fun j σ H'' => ∃ o1 o2, σ = [some (.ref p), o1, o2] ∧ Walk K H' ys ps cs j H'') ⟨_, _, rfl, .start hy⟩ (fun j σ H'' _ ⟨_, _, _, k2⟩ => .inl (.inl (k2.stay (fun z => by
          obtain ⟨zs, e⟩ := isy ta z
          rw [hT] at e
          cases e) hT))) ?_ ?_
        · rintro j y σ H'' hj ⟨o1, o2, rfl, k2⟩
          obtain ⟨pd, es, hpd, hye, ne, sub2, nxt2⟩ := k2.item hj isy nc
          refine ⟨_, rfl, isi_l hye.dq ⟨_, rfl, ?_⟩⟩
          rcases hps pd (List.mem_of_getElem? hpd) with hf | hsp
          · have hl : isLst pd = false := by cases pd <;> first | rfl | cases hf
            rw [hl]
            exact ⟨_, _, rfl, nxt2 _ fun a o _ h => h⟩
          · have hl : isLst pd = true := by
              cases n with
              | zero => exact hsp.elim
              | succ n => cases pd <;> first | rfl | exact hsp.elim
            rw [hl]
            obtain ⟨y', rfl⟩ : ∃ y', y = .ref y' := by
              cases hye with
              | flat f hq => cases pd <;> first | exact absurd hl Bool.false_ne_true | exact absurd f Bool.false_ne_true
              | lst _ _ => exact ⟨_, rfl⟩
              | tup _ _ => exact absurd hl Bool.false_ne_true
            exact ⟨_, rfl, y', pd, es, rfl, hye, ne, hsp, fun H3 k3 => ⟨_, _, rfl, nxt2 H3 k3⟩⟩
        · rintro σ H'' ⟨o1, o2, rfl, k2⟩
          exact ⟨_, _, rfl, nxt _ fun a o na h => k2.stay na h⟩
    · rintro σ H' ⟨o1, o2, rfl, k⟩
      have hp' := k.stay np hp
      have e3z : (5000 : Nat) < sizeLine := by decide
      refine ⟨_, rfl, .inl ⟨rfl, _, SqL.of hp'⟩, p, xs, .non, rfl, rfl, hp', by omega, q _ fun a o na h => ?_⟩
      have n1 : a ≠ p := fun z => na (z ▸ List.mem_cons_self ..)
      rw [upd_ne n1]
      exact k.stay (fun z => na (List.mem_cons_of_mem _ z)) h
theorem ok_spo (F : Fun K "_law_spoilt" "_law_spoilt" sSpo f fd) (mC : mg "_law_spoilt" = some (.ref f)) (kC : PySem.W.keepIn K (.ref f) = true) (bC : Binds K fd ["body"] [])
    (mI : mg "isinstance" = none) (mL : mg "list" = none) : ∀ n : Nat, FnOk P w K mg base CX0 (n + 1) f fd ["body"] (spSpo K n)
  | 0 => ok_spo0 F
  | n + 1 => ok_spo1 F (ok_spo F mC kC bC mI mL n) mC kC bC mI mL
end
end Lx

set_option Elab.async false
set_option maxRecDepth 100000
set_option linter.all false
set_option maxHeartbeats 2000000
namespace Kx
open PySem PySem.Spec PyProof.Rows L2 Evl
section
variable {K : PySem.W.Frag} {H : Hp} {v : V} {vs : List V} {d : PyData} {ds : List PyData} {as : List Addr}
theorem inv_lst (h : DqN K H v (.list ds) as) : ∃ a xs bs, v = .ref a ∧ H a = some (.lst xs) ∧ DqNA K H xs ds bs ∧ as = a :: bs := by
  cases h with
  | flat f _ => exact absurd f Bool.false_ne_true
  | lst h1 h2 => exact ⟨_, _, _, rfl, h1, h2, rfl⟩
theorem inv_tup (h : DqN K H v (.tuple ds) as) : ∃ a xs, v = .ref a ∧ H a = some (.tup xs) ∧ DqNA K H xs ds as := by
  cases h with
  | flat f _ => exact absurd f Bool.false_ne_true
  | tup h1 h2 => exact ⟨_, _, rfl, h1, h2⟩
theorem inv_cons (h : DqNA K H vs (d :: ds) as) : ∃ v r b c, vs = v :: r ∧ DqN K H v d b ∧ DqNA K H r ds c ∧ as = b ++ c := by
  cases h with
  | cons h1 h2 => exact ⟨_, _, _, _, rfl, h1, h2, rfl⟩
theorem inv_nil (h : DqNA K H vs [] as) : vs = [] ∧ as = [] := by
  cases h
  exact ⟨rfl, rfl⟩
end
end Kx

set_option Elab.async false
set_option maxRecDepth 100000
set_option linter.all false
set_option maxHeartbeats 4000000
namespace Lx
open PySem PySem.Spec PyProof.Rows L2 Evl Kx
/-- the errors as the text has made them -/
structure ETxt (P : Program) (w : World) (K : PySem.W.Frag) (mg : Str → Option Value) (CR CL CI fL fI : Addr) (fdL fdI : FuncData) : Prop where
  mR : mg "RightsError" = some (.ref CR)
  xL : XCls P w K mg "InvalidList" "value" CL fL fdL
  xI : XCls P w K mg "InvalidItem" "value" CI fI fdI
  eL : PySem.W.exmOne K (.ref CL) (.ref CR) = some true
  eI : PySem.W.exmOne K (.ref CI) (.ref CR) = some true
  kLL : PySem.W.kitOne K (.ref CL) (.ref CL) = some true
  kLI : PySem.W.kitOne K (.ref CL) (.ref CI) = some false
  kIL : PySem.W.kitOne K (.ref CI) (.ref CL) = some false
  kII : PySem.W.kitOne K (.ref CI) (.ref CI) = some true
def kindF : Flt → Nat
  | .lst _ => 0
  | .itm _ _ => 1
def fltD (ds : List PyData) : Flt → PyData
  | .lst k => ds.getD k .none
  | .itm k i => (items (ds.getD k .none)).getD i .none
def fltL (ds : List PyData) : Flt → Prop
  | .lst _ => True
  | .itm k _ => isLst (ds.getD k .none) = true
theorem flt_dq {K : PySem.W.Frag} {CL CI c : Addr} {G : Hp} {vs : List V} {ds : List PyData} {f : Flt} {v : V} (h : DqA K G vs ds) (hl : fltL ds f) (x : FltV CL CI G vs f c v) : Dq K G v (fltD ds f) := by
  cases f with
  | lst k =>
    obtain ⟨_, hk⟩ := x
    obtain ⟨d, h1, h2⟩ := dqa_get h hk
    simp only [fltD, List.getD_eq_getElem?_getD, h1, Option.getD_some]
    exact h2
  | itm k i =>
    obtain ⟨_, a, xs, hk, ha, hi⟩ := x
    obtain ⟨d, h1, h2⟩ := dqa_get h hk
    simp only [fltL, List.getD_eq_getElem?_getD, h1, Option.getD_some] at hl
    cases h2 with
    | lst h3 h4 =>
      rw [ha] at h3
      cases h3
      obtain ⟨e, h5, h6⟩ := dqa_get h4 hi
      simp only [fltD, List.getD_eq_getElem?_getD, h1, Option.getD_some, items, h5]
      exact h6
    | _ => cases hl
theorem fault_l {d1 d2 d3 : PyData} {f : Flt} (h : faultF d1 d2 d3 = some f) : fltL [d1, d2, d3] f := by
  unfold faultF at h
  split at h
  · cases h; trivial
  · rename_i s1
    split at h
    · cases h
      exact (size_lst (by simpa using s1)).1
    · split at h
      · cases h; trivial
      · rename_i s2
        split at h
        · cases h
          exact (size_lst (by simpa using s2)).1
        · split at h
          · cases h; trivial
          · rename_i s3
            split at h
            · cases h
              exact (size_lst (by simpa using s3)).1
            · cases h
section
variable {P : Program} {w : World} {K : PySem.W.Frag} {mg : Str → Option Value} {base : Heap} {f : Addr} {fd : FuncData}
abbrev sCa : Stmt := top 45
theorem scCa : FnScope ["rights", "owners", "functions", "caught", "error", "kinds"] ["rights", "owners", "functions"] (defScope sCa) := ⟨rfl, rfl, rfl, by decide +kernel, rfl, by decide +kernel, by decide +kernel⟩
structure spCa (K : PySem.W.Frag) (n : Nat) (vs : List V) (H : Hp) (Q : VK) (E_ : XK) : Prop where
  mk' ::
  out : ∃ (G : Hp) (v1 v2 v3 : V) (d1 d2 d3 : PyData) (f : Flt), vs = [v1, v2, v3] ∧ Ex G H ∧ Sys H ∧ Dq K G v1 d1 ∧ Dq K G v2 d2 ∧ Dq K G v3 d3 ∧ DataOk n d1 d2 d3 ∧ faultF d1 d2 d3 = some f ∧ okD (fltD [d1, d2, d3] f) ∧
  ∀ l H2 M, New H H2 M → Dq K M (.ref l) (.list [.int (kindF f), .str (fltD [d1, d2, d3] f).shown]) → Q (.ref l) H2
theorem init_b {n d : Nat} {C CL CI p dx : Addr} {f : Flt} {v1 v2 v3 : V} {d1 d2 d3 : PyData} {G H : Hp} {Q : VK} {E : XK} (hp : H p = none) (hd : H dx = none) (ne : dx ≠ p) (e : Ex G H) (h1 : Dq K G v1 d1) (h2 : Dq K G v2 d2) (h3 : Dq K G v3 d3) (ok : DataOk n d1 d2 d3) (hf : faultF d1 d2 d3 = some f)
    (k : ∀ c v, FltV CL CI G [v1, v2, v3] f c v → ∀ H1, Ex H H1 → ∀ d H2, XFly H1 H2 d "value" v → E (.ref c) (some d) H2) : spInit K n d C CL CI [.ref p, v1, v2, v3] (upd (upd H dx (.own p)) p (.ins C dx [])) Q E := by

  have hp2 : (upd H dx (.own p)) p = none := by rw [upd_ne ne.symm]; exact hp
  have x2 := (Ex.new (o := HO.own p) hd).trans (Ex.new (o := HO.ins C dx []) hp2)
  refine ⟨p, dx, G, v1, v2, v3, d1, d2, d3, rfl, upd_same, e.trans x2, fresh_back e hp, h1, h2, h3, ok, fun f' c v e' hv => ?_, fun e' => by rw [hf] at e'; cases e'⟩
  rw [hf] at e'
  cases e'
  exact fun H1 x1 => k c v hv H1 (x2.trans x1)
theorem ok_ca {n d : Nat} {C CR CL CI fL fJ fI : Addr} {fdL fdJ fdI : FuncData} (F : Fun K "_law_caught" "_law_caught" sCa f fd) (T : PTxt K mg C) (TE : ETxt P w K mg CR CL CI fL fJ fdL fdJ)
    (M0 : Mk K C fI) (FI : FnOk P w K mg base (L2.CX P w) (3 * n + 7) fI fdI ["self", "rights", "owners", "functions"] (spInit K n d C CL CI)) (bI : Binds K fdI ["self", "rights", "owners", "functions"] [])
    (mI : mg "isinstance" = none) (mRep : mg "repr" = none) : GnOk P w K mg base CX0 (3 * n + 9) f fd ["rights", "owners", "functions"] (spCa K n) := by
  refine gn_ok F scCa (fun vs H Q E h => ?_) (fun cdv A outer s H vs Q E hg hr h => ?_)
  · obtain ⟨_, _, _, _, _, _, _, _, rfl, _⟩ := h
    rfl
  · obtain ⟨G, v1, v2, v3, d1, d2, d3, flt, rfl, e, sy, h1, h2, h3, ok, hf, okd, fin⟩ := h
    have hu := hr.units
    have hgu : (A.deeper (envOfC "_law_caught" (defScope sCa) s.heap.objs.size f cdv)).guards = some [] := hg
    refine ⟨_, pss_cons (ps_set (i := 3) scCa.nd rfl (Or.inl rfl) pe_non)
      (pss_cons (ps_try_keep (i := 4) rfl rfl rfl scCa.nd rfl rfl ⟨rfl, by decide, .inl TE.mR⟩ takes0 (fun W pn xe tk _ => pss_one (ps_expr (pe_makeS M0 FI hr (by rfl) T.mgC bI .nil (fun σ => passAt tk σ) (pa_cons (pv 0) (pa_cons (pv 1) (pa_cons (pv 2) pa_nil))))))
          (fun a oe C d pn hz hf => pss_one (ps_set (i := 3) scCa.nd rfl (Or.inl rfl) (pv 4))))
      (pss_cons (ps_set (i := 5) scCa.nd rfl (Or.inl rfl) (pe_lst (pa_cons (pe_callB (isX_K (K := K)) (by rfl) mI PyProof.Rows.boot_isinstance (pa_cons (pv 3) (pa_cons (pe_cls (by rfl) TE.xL.mgC) pa_nil)))
          (pa_cons (pe_callB (isX_K (K := K)) (by rfl) mI PyProof.Rows.boot_isinstance (pa_cons (pv 3) (pa_cons (pe_cls (by rfl) TE.xI.mgC) pa_nil))) (pa_cons pe_bl pa_nil)))))
      (pss_one (ps_ret (pe_lst (pa_cons (pe_bm PySem.F.plainAttrs_list PySem.F.slot_list_index PySem.F.type_list_index mt_index (pv 5) (pa_cons pe_bl pa_nil))
          (pa_cons (pe_ifExp (pt_cmp (pc_isN (pv 3))) pe_non (pe_callB (call_repr hgu hu) (by rfl) mRep PyProof.Rows.boot_repr (pa_cons (pe_xatK (K := K) (pv 3)) pa_nil))) pa_nil))))))), ?_⟩
    refine ⟨_, rfl, _, rfl, _, rfl, fun x dx nx ndx nex => init_b nx ndx nex e h1 h2 h3 ok hf (fun c v hv H1 x1 dd H2 xf => ?_)⟩
    have hv2 : Dq K G v (fltD [d1, d2, d3] flt) := flt_dq (.cons h1 (.cons h2 (.cons h3 .nil))) (fault_l hf) hv
    have eE : PySem.W.exmOne K (.ref c) (.ref CR) = some true ∧ ExcC K c ∧ PySem.W.kitOne K (.ref c) (.ref CL) = some (decide (kindF flt = 0)) ∧ PySem.W.kitOne K (.ref c) (.ref CI) = some (decide (kindF flt = 1)) ∧ PySem.W.findIn K (.ref c) "value" = some none := by
      cases flt with
      | lst k => rw [hv.1]; exact ⟨TE.eL, TE.xL.e, TE.kLL, TE.kLI, TE.xL.no⟩
      | itm k i => rw [hv.1]; exact ⟨TE.eI, TE.xI.e, TE.kIL, TE.kII, TE.xI.no⟩
    obtain ⟨eE, exC, k0, k1, hno⟩ := eE
    refine ⟨c, true, rfl, eE, fun _ a na => ?_, fun z => nomatch z⟩
    have x3 : Ex H (upd H2 a (exk a c (some dd))) := (x1.trans xf.1).trans (Ex.new na)
    have ne : dd ≠ a := ne_of_none xf.2 na
    have hX : XAt (upd H2 a (exk a c (some dd))) a c (some dd) := xat_exk upd_same
    have hF : FAt (upd H2 a (exk a c (some dd))) dd [("value", v)] := .inl (by rw [upd_ne ne]; exact xf.2)
    refine ⟨_, rfl, ?_⟩
    refine ⟨_, rfl, a, c, _, _, _, rfl, .inr ⟨dd, _, hX, hF⟩, exC, .own _, k0, ?_⟩
    refine ⟨_, rfl, a, c, _, _, _, rfl, .inr ⟨dd, _, hX, hF⟩, exC, .own _, k1, ?_⟩
    refine ⟨by show 3 ≤ sizeLine; decide, fun kp nkp => ?_⟩
    have hk4 : (upd (upd H2 a (exk a c (some dd))) kp (.lst [.bl (decide (kindF flt = 0)), .bl (decide (kindF flt = 1)), .bl true])) kp = some (.lst [.bl (decide (kindF flt = 0)), .bl (decide (kindF flt = 1)), .bl true]) := upd_same
    have x4 : Ex (upd H2 a (exk a c (some dd))) (upd (upd H2 a (exk a c (some dd))) kp (.lst [.bl (decide (kindF flt = 0)), .bl (decide (kindF flt = 1)), .bl true])) := Ex.new nkp
    refine ⟨_, rfl, .inl ⟨rfl, _, SqL.of hk4⟩, kp, _, .bl true, kindF flt, .bl true, rfl, rfl, SqL.of hk4, rfl, rfl, ?_, rfl, ?_, ?_⟩
    · cases flt <;> rfl
    · cases flt with
      | lst k => intro m z' hm; exact absurd hm (Nat.not_lt_zero _)
      | itm k i =>
        intro m z' hm hz
        have : m = 0 := Nat.lt_one_iff.mp hm
        subst this
        simp only [kindF, List.getElem?_cons_zero, Option.some.injEq] at hz
        subst hz
        rfl
    have xx := x3.trans x4
    refine ⟨_, rfl, _, rfl, ite2 (fun h => nomatch (of_decide_eq_true h)) fun _ => ⟨_, rfl, a, c, dd, _, v, rfl, hX.mono (same_ex x4), hF.mono (same_ex x4), exC, hno, rfl, ?_⟩⟩
    refine ⟨v, fltD [d1, d2, d3] flt, rfl, sy.mono (same_ex xx), hv2.mono (same_ex (e.trans xx)), okd.fits.1, okd.fits.2.1, okd.fits.2.2, ?_⟩
    refine ⟨by show 2 ≤ sizeLine; decide, fun l nl => fin l _ _ ((new_ofEx xx).put nl) (.lst upd_same (.cons (.int _) (.cons (.str _) .nil)))⟩
end
end Lx

set_option Elab.async false
set_option maxRecDepth 100000
set_option linter.all false
set_option maxHeartbeats 2000000
/-! KitV: evaluation to data, rule by rule, all from one known part. -/
namespace Kx
open PySem PySem.Spec PyProof.Rows L2 Evl
/-- a part of the heap that holds both of two, which agree -/
theorem mid_ext {G G' G2 H1 H2 : Hp} (e : Ex G G') (a : Ex G' H1) (x : Ext G H1 G2 H2) : ∃ G3, Ex G2 G3 ∧ Ext G' H1 G3 H2 := by
  refine ⟨join G' G2, fun b o hb => ?_, ⟨x.hh, join_l, fun b o hb => ?_, fun b o hb => ?_⟩⟩
  · unfold join
    cases z : G' b with
    | none => exact hb
    | some o' =>
      have h1 := x.hh b o' (a b o' z)
      have h2 := x.gh b o hb
      rw [h1] at h2
      exact h2
  · rcases join_inv hb with h | ⟨_, h⟩
    · exact x.hh b o (a b o h)
    · exact x.gh b o h
  · unfold join
    cases z : G' b with
    | none =>
      show G2 b = none
      rw [x.ag b o hb]
      cases z2 : G b with
      | none => rfl
      | some u =>
        rw [e b u z2] at z
        cases z
    | some o' => rfl
section
variable {K : PySem.W.Frag} {σ : L2.St} {G G' : Hp} {te ta tb : TE} {tr : TA} {d : PyData} {ds es : List PyData}
theorem EvDA.mono (e : Ex G G') (h : EvDA K tr σ G ds) : EvDA K tr σ G' ds := fun H1 a Q q => h H1 (e.trans a) Q fun v G2 H2 x hd => by
  obtain ⟨G3, e3, x3⟩ := mid_ext e a x
  exact q v G3 H2 x3 (hd.mono (same_ex e3))
theorem da_cons (h : EvD K te σ G d) (hr : EvDA K tr σ G ds) : EvDA K (tCons te tr) σ G (d :: ds) := eda_cons h fun _ x => hr.mono x
theorem ed_non : EvD K (tC .non) σ G .none := fun H1 e Q q => q _ G H1 (Ext.refl e) .non
theorem ed_bl {b : Bool} : EvD K (tC (.bl b)) σ G (.bool b) := fun H1 e Q q => q _ G H1 (Ext.refl e) (.bl b)
theorem ed_int {i : Int} : EvD K (tC (.int i)) σ G (.int i) := fun H1 e Q q => q _ G H1 (Ext.refl e) (.int i)
theorem ed_str {z : Str} : EvD K (tC (.str z)) σ G (.str z) := fun H1 e Q q => q _ G H1 (Ext.refl e) (.str z)
theorem ed_var {i : Nat} {v : V} (h : σ[i]? = some (some v)) (hd : Dq K G v d) : EvD K (tVar i) σ G d := fun H1 e Q q => ⟨v, h, q _ G H1 (Ext.refl e) hd⟩
theorem ed_dict : EvD K tDNewK σ G (.dict []) := fun H1 e Q q p hp =>
  q _ _ _ (Ext.new e hp (Ex.new hp) upd_same) (.dic upd_same .nil)
theorem ed_cat (h : EvD K ta σ G (.list ds)) (hb : EvD K tb σ G (.list es)) (hl : ds.length + es.length ≤ 100000) : EvD K (tOp rCat ta tb) σ G (.list (ds ++ es)) := fun H1 e Q q =>
  h H1 e _ fun v G2 H2 x hd => (hb.mono x.gg) H2 x.gh _ fun v' G3 H3 y he => by
    cases hd with
    | @lst a1 xs1 _ h1 h2 =>
    cases he with
    | @lst a2 xs2 _ h3 h4 =>
    have l1 := dqa_len h2
    have l2 := dqa_len h4
    refine ⟨_, _, _, _, rfl, rfl, y.hh _ _ (x.gh _ _ h1), y.gh _ _ h3, sz_of (by omega), fun l hl' => ?_⟩
    have z := (x.trans y).more (o := .lst (xs1 ++ xs2)) hl' (Ex.new hl') upd_same
    have gl := fresh_back (x.trans y).gh hl'
    refine q _ _ _ z (.lst upd_same ?_)
    exact (dqa_cat (h2.mono (same_ex y.gg)) h4).mono (same_ex (Ex.new gl))
where
  dqa_cat {G : Hp} : ∀ {xs ys : List V} {ds es : List PyData}, DqA K G xs ds → DqA K G ys es → DqA K G (xs ++ ys) (ds ++ es)
  | _, _, _, _, .nil, h => h
  | _, _, _, _, .cons a b, h => .cons a (dqa_cat b h)
theorem EvD.use {H : Hp} {Q : VK} (h : EvD K te σ G d) (e : Ex G H) (q : ∀ v G2 H2, Ext G H G2 H2 → Dq K G2 v d → Q v H2) : te σ H Q := h H e Q q
theorem EvDA.use {H : Hp} {Q : List V → Hp → Prop} (h : EvDA K tr σ G ds) (e : Ex G H) (q : ∀ vs G2 H2, Ext G H G2 H2 → DqA K G2 vs ds → Q vs H2) : tr σ H Q := h H e Q q
/-! ### statements, read with data -/
theorem rd_seq {t u : TS} {D : Ends} {H : Hp} (h : t { D with nx := u D } σ H) : tSeq t u D σ H := h
theorem rd_set {i : Nat} {D : Ends} {H : Hp} (h : EvD K te σ G d) (e : Ex G H) (q : ∀ v G2 H2, Ext G H G2 H2 → Dq K G2 v d → D.nx (σ.set i (some v)) H2) : tAsg te (gName i) D σ H := h H e _ q
theorem rd_sset {i : Nat} {u : TS} {D : Ends} {H : Hp} (h : EvD K te σ G d) (e : Ex G H) (q : ∀ v G2 H2, Ext G H G2 H2 → Dq K G2 v d → u D (σ.set i (some v)) H2) : tSeq (tAsg te (gName i)) u D σ H := h H e _ q
theorem rd_nx {u : TS} {D : Ends} {H : Hp} (h : u D σ H) : ({ D with nx := u D } : Ends).nx σ H := h
theorem rd_ret {D : Ends} {H : Hp} (h : EvD K te σ G d) (e : Ex G H) (q : ∀ v G2 H2, Ext G H G2 H2 → Dq K G2 v d → D.rt v H2) : tRet te D σ H := h H e _ q
theorem ext_new {H G2 H2 : Hp} (x : Ext emp H G2 H2) : New H H2 G2 := ⟨x.hh, x.gh, fun a o h => x.ag a o h⟩
theorem ex_emp {H : Hp} : Ex emp H := fun a o h => nomatch h
theorem New.extE {H H2 M : Hp} (k : New H H2 M) (e : Ex G H) : Ext G H (join G M) H2 := k.ext e
end
end Kx
namespace Kx
open PySem PySem.Spec PyProof.Rows L2 Evl
section
variable {K : PySem.W.Frag} {σ : L2.St} {G : Hp} {te tl : TE} {es : List PyData}
/-- [F(x) for x in data] -/
theorem ed_lcD {j : Nat} {ws : List Nat} (F : PyData → PyData) (h : EvD K tl σ G (.list es)) (hl : es.length ≤ 40000) (hw : ∀ x, wipe ((wipe σ ws).set j (some x)) ws = wipe σ ws)
    (he : ∀ (e : PyData) (x : V) G1, Ex G G1 → e ∈ es → Dq K G1 x e → EvD K te ((wipe σ ws).set j (some x)) G1 (F e)) : EvD K (tLc (iList K tl) (gName j) tYes te ws) σ G (.list (es.map F)) := fun H0 e0 Q q => h H0 e0 _ fun v G2 H2 x hd => by
  cases hd with
  | @lst a xs _ ha hx =>
  have hlen := dqa_len hx
  refine ⟨a, rfl, ⟨xs, SqL.of (x.gh _ _ ha)⟩, fun Dl hD => ?_⟩
  refine lc_list (xs := xs) (Cd K G2 H2 (fun _ => true) (fun i => F (es.getD i .none)) Dl) (cd_start x.gh hD) (fun i H' _ p => by obtain ⟨Gi, vs, y, _⟩ := p; exact SqL.of (y.gh _ _ (y.gg _ _ ha))) ?_ ?_
  · intro i y H' hi p
    obtain ⟨dx, hdx, gx⟩ := dqa_get hx hi
    have hil := (List.getElem?_eq_some_iff.mp hi).1
    refine ⟨hw y, cd_turn hD p (by omega) (fun G1 g1 => et_yes) (fun G1 g1 _ => ?_)⟩
    have ed : es.getD i .none = dx := by rw [List.getD_eq_getElem?_getD, hdx]; rfl
    rw [ed]
    exact he dx y G1 (x.gg.trans g1) (List.mem_of_getElem? hdx) (gx.mono (same_ex g1))
  · intro H' p
    obtain ⟨G3, y, hd⟩ := cd_end hD p
    have e1 : gvn xs.length (fun _ => true) (fun i => F (es.getD i .none)) = es.map F := by
      unfold gvn
      rw [hlen, List.filter_eq_self.mpr fun _ _ => rfl]
      refine List.ext_getElem (by simp) fun i h1 h2 => ?_
      simp only [List.length_map] at h2
      simp [List.getElem?_eq_getElem h2]
    rw [e1] at hd
    exact q _ G3 H' (x.trans y) hd
end
end Kx
namespace Kx
open PySem PySem.Spec PyProof.Rows L2 Evl
section
variable {K : PySem.W.Frag} {σ : L2.St} {G H : Hp} {te tl : TE} {es : List PyData} {c : TT} {t u tb : TS} {D : Ends} {j : Nat}
theorem rd_ifF (h : EvT c σ G false) (e : Ex G H) (q : ∀ H2, Ex H H2 → u D σ H2) : tIfS c t u D σ H := h H e _ fun H2 e2 => q H2 e2
theorem rd_sifF {t2 : TS} (h : EvT c σ G false) (e : Ex G H) (q : ∀ H2, Ex H H2 → u D σ H2) : tSeq (tIfS c t tNext) u D σ H := h H e _ fun H2 e2 => q H2 e2
/-- a loop over data: R holds of the slots, things are only made -/
theorem rd_for (R : L2.St → Prop) (h : EvD K tl σ G (.list es)) (e : Ex G H) (r0 : R σ)
    (hb : ∀ H1 G2, Ext G H G2 H1 → ∀ (i : Nat) d x σ' H', es[i]? = some d → Dq K G2 x d → R σ' → Ex H1 H' → tb { D with nx := fun σ2 H2 => R σ2 ∧ Ex H1 H2, ct := fun σ2 H2 => R σ2 ∧ Ex H1 H2, bk := D.nx } (σ'.set j (some x)) H')
    (hd : ∀ σ' H', R σ' → Ex H H' → D.nx σ' H') : tFor (iList K tl) (gName j) tb D σ H := h H e _ fun v G2 H1 x hx => by
  cases hx with
  | @lst a xs _ ha hs =>
  refine ⟨a, rfl, ⟨xs, SqL.of (x.gh _ _ ha)⟩, ?_⟩
  refine for_list (K := K) (a := a) (xs := xs) (fun _ σ' H' => R σ' ∧ Ex H1 H') ⟨r0, Ex.refl H1⟩ (fun i σ' H' _ p => SqL.of (p.2 _ _ (x.gh _ _ ha))) (fun i y σ' H' hi p => ?_) (fun σ' H' p => hd σ' H' p.1 (x.hh.trans p.2))
  obtain ⟨d, hdx, gx⟩ := dqa_get hs hi
  exact hb H1 G2 x i d y σ' H' hdx gx p.1 p.2
theorem rd_sfor (R : L2.St → Prop) (h : EvD K tl σ G (.list es)) (e : Ex G H) (r0 : R σ)
    (hb : ∀ H1 G2, Ext G H G2 H1 → ∀ (i : Nat) d x σ' H', es[i]? = some d → Dq K G2 x d → R σ' → Ex H1 H' → tb { D with nx := fun σ2 H2 => R σ2 ∧ Ex H1 H2, ct := fun σ2 H2 => R σ2 ∧ Ex H1 H2, bk := u D } (σ'.set j (some x)) H')
    (hd : ∀ σ' H', R σ' → Ex H H' → u D σ' H') : tSeq (tFor (iList K tl) (gName j) tb) u D σ H :=
  rd_for (D := { D with nx := u D }) R h e r0 hb hd
end
end Kx

set_option Elab.async false
set_option maxRecDepth 100000
set_option linter.all false
set_option maxHeartbeats 4000000
namespace Lx
open PySem PySem.Spec PyProof.Rows L2 Evl Kx
def bsD0 : List PyData := [.none, (.int 3), (.str "back"), (.tuple []), (.list []), (.dict []), (.bool true), (.tuple [(.str "back"), (.int 0)]), (.list [(.str "back")]), (.tuple [(.str "call")]), (.tuple [(.str "call"), (.str "zz")]), (.tuple [(.str "call"), (.str "main"), (.int 0)])]
def bsD1 : List PyData := bsD0 ++ [(.tuple [(.str "call"), .none]), (.tuple [(.str "check"), (.str "zz")]), (.tuple [(.str "check")]), (.tuple [(.str "check"), (.list [(.str "write")])]), (.tuple [(.str "tail"), (.str "zz")])]
def bsD2 : List PyData := bsD1 ++ [(.tuple [(.str "Call"), (.str "main")])]
def bsD3 : List PyData := bsD2 ++ [(.tuple [(.str "either"), (.list [])]), (.tuple [(.str "either"), (.list []), .none]), (.tuple [(.str "either"), (.list []), (.list []), (.list [])]), (.tuple [(.str "either"), (.tuple []), (.list [])]), (.tuple [(.str "loop")])]
def bsD4 : List PyData := bsD3 ++ [(.tuple [(.str "loop"), (.tuple [])]), (.tuple [(.str "loop"), (.list [.none])]), (.tuple [(.str "loop"), (.list []), (.list [])]), (.tuple [(.str "block"), (.list [])]), (.tuple [(.str "block"), (.int 1), (.list [])])]
def bsD5 : List PyData := bsD4 ++ [(.tuple [(.str "block"), (.int 0), (.list [])])]
def bsD6 : List PyData := bsD5 ++ [(.tuple [(.str "block"), .none, (.list [])]), (.tuple [(.str "block"), (.bool true), (.tuple [])]), (.tuple [(.str "block"), (.bool true), (.list [(.tuple [(.str "tail"), (.str "main")])])]), (.tuple [.none, (.str "main")])]
def bsD7 : List PyData := bsD6 ++ [(.tuple [(.str "block"), (.bool true), (.list [(.tuple [(.str "loop"), (.list [(.tuple [(.str "tail"), (.str "main")])])])])]), (.tuple [(.str "either"), (.list []), (.list [(.tuple [(.str "back"), (.int 1)])])]), (.tuple [(.str "check"), (.str "main")])]
def bsD8 : List PyData := bsD7 ++ [(.tuple [(.str "block"), (.bool true), (.list [(.tuple [(.str "either"), (.list []), (.list [(.tuple [(.str "tail"), (.str "main")])])])])]), (.tuple [(.str "either"), (.list [.none]), (.list [])]), (.tuple [(.str "either"), (.str "x"), (.list [])])]
def bsD9 : List PyData := bsD8 ++ [(.tuple [(.str "block"), (.bool true), (.list []), (.int 0)]), (.tuple [(.str "call"), (.list [(.str "main")])]), (.tuple [(.str "call"), (.dict [])]), (.tuple [(.str "tail"), (.dict [])]), (.tuple [(.str "either"), (.dict []), (.list [])])]
def bsD10 : List PyData := bsD9 ++ [(.tuple [(.str "block"), (.bool true), (.list [(.tuple [(.str "block"), (.bool false), (.list [(.tuple [(.str "tail"), (.str "main")])])])])]), (.tuple [(.str "call"), (.str "write")]), (.tuple [(.list [(.str "call")]), (.str "main")])]
def badSteps : List PyData := bsD10
section
variable {P : Program} {w : World} {K : PySem.W.Frag} {mg : Str → Option Value} {base : Heap} {f : Addr} {fd : FuncData}
abbrev sBs : Stmt := top 46
theorem scBs : FnScope ["found"] [] (defScope sBs) := ⟨rfl, rfl, rfl, by decide +kernel, rfl, by decide +kernel, by decide +kernel⟩
structure spBs (K : PySem.W.Frag) (vs : List V) (H : Hp) (Q : VK) (E_ : XK) : Prop where
  mk' ::
  out : vs = [] ∧ ∀ v H2 M, New H H2 M → Dq K M v (.list badSteps) → Q v H2
theorem ok_bs (F : Fun K "_law_bad_steps" "_law_bad_steps" sBs f fd) : FnOk P w K mg base CX0 1 f fd [] (spBs K) := by
  refine F.ok scBs (fun vs H Q E h => ?_) (fun cdv A outer s H vs Q E hr h => ?_)
  · obtain ⟨rfl, _⟩ := h
    rfl
  · obtain ⟨rfl, q⟩ := h
    refine ⟨_, pss_cons (ps_set (i := 0) scBs.nd rfl (Or.inl rfl) (pe_lst (pa_cons pe_non (pa_cons pe_int (pa_cons pe_str (pa_cons (pe_tup pa_nil) (pa_cons (pe_lst pa_nil) (pa_cons pe_dnewK (pa_cons pe_bl (pa_cons (pe_tup (pa_cons pe_str (pa_cons pe_int pa_nil))) (pa_cons (pe_lst (pa_cons pe_str pa_nil)) (pa_cons (pe_tup (pa_cons pe_str pa_nil)) (pa_cons (pe_tup (pa_cons pe_str (pa_cons pe_str pa_nil))) (pa_cons (pe_tup (pa_cons pe_str (pa_cons pe_str (pa_cons pe_int pa_nil)))) pa_nil))))))))))))))
      (pss_cons (ps_set (i := 0) scBs.nd rfl (Or.inl rfl) (pe_op op_cat (pv 0) (pe_lst (pa_cons (pe_tup (pa_cons pe_str (pa_cons pe_non pa_nil))) (pa_cons (pe_tup (pa_cons pe_str (pa_cons pe_str pa_nil))) (pa_cons (pe_tup (pa_cons pe_str pa_nil)) (pa_cons (pe_tup (pa_cons pe_str (pa_cons (pe_lst (pa_cons pe_str pa_nil)) pa_nil))) (pa_cons (pe_tup (pa_cons pe_str (pa_cons pe_str pa_nil))) pa_nil))))))))
      (pss_cons (ps_set (i := 0) scBs.nd rfl (Or.inl rfl) (pe_op op_cat (pv 0) (pe_lst (pa_cons (pe_tup (pa_cons pe_str (pa_cons pe_str pa_nil))) pa_nil))))
      (pss_cons (ps_set (i := 0) scBs.nd rfl (Or.inl rfl) (pe_op op_cat (pv 0) (pe_lst (pa_cons (pe_tup (pa_cons pe_str (pa_cons (pe_lst pa_nil) pa_nil))) (pa_cons (pe_tup (pa_cons pe_str (pa_cons (pe_lst pa_nil) (pa_cons pe_non pa_nil)))) (pa_cons (pe_tup (pa_cons pe_str (pa_cons (pe_lst pa_nil) (pa_cons (pe_lst pa_nil) (pa_cons (pe_lst pa_nil) pa_nil))))) (pa_cons (pe_tup (pa_cons pe_str (pa_cons (pe_tup pa_nil) (pa_cons (pe_lst pa_nil) pa_nil)))) (pa_cons (pe_tup (pa_cons pe_str pa_nil)) pa_nil))))))))
      (pss_cons (ps_set (i := 0) scBs.nd rfl (Or.inl rfl) (pe_op op_cat (pv 0) (pe_lst (pa_cons (pe_tup (pa_cons pe_str (pa_cons (pe_tup pa_nil) pa_nil))) (pa_cons (pe_tup (pa_cons pe_str (pa_cons (pe_lst (pa_cons pe_non pa_nil)) pa_nil))) (pa_cons (pe_tup (pa_cons pe_str (pa_cons (pe_lst pa_nil) (pa_cons (pe_lst pa_nil) pa_nil)))) (pa_cons (pe_tup (pa_cons pe_str (pa_cons (pe_lst pa_nil) pa_nil))) (pa_cons (pe_tup (pa_cons pe_str (pa_cons pe_int (pa_cons (pe_lst pa_nil) pa_nil)))) pa_nil))))))))
      (pss_cons (ps_set (i := 0) scBs.nd rfl (Or.inl rfl) (pe_op op_cat (pv 0) (pe_lst (pa_cons (pe_tup (pa_cons pe_str (pa_cons pe_int (pa_cons (pe_lst pa_nil) pa_nil)))) pa_nil))))
      (pss_cons (ps_set (i := 0) scBs.nd rfl (Or.inl rfl) (pe_op op_cat (pv 0) (pe_lst (pa_cons (pe_tup (pa_cons pe_str (pa_cons pe_non (pa_cons (pe_lst pa_nil) pa_nil)))) (pa_cons (pe_tup (pa_cons pe_str (pa_cons pe_bl (pa_cons (pe_tup pa_nil) pa_nil)))) (pa_cons (pe_tup (pa_cons pe_str (pa_cons pe_bl (pa_cons (pe_lst (pa_cons (pe_tup (pa_cons pe_str (pa_cons pe_str pa_nil))) pa_nil)) pa_nil)))) (pa_cons (pe_tup (pa_cons pe_non (pa_cons pe_str pa_nil))) pa_nil)))))))
      (pss_cons (ps_set (i := 0) scBs.nd rfl (Or.inl rfl) (pe_op op_cat (pv 0) (pe_lst (pa_cons (pe_tup (pa_cons pe_str (pa_cons pe_bl (pa_cons (pe_lst (pa_cons (pe_tup (pa_cons pe_str (pa_cons (pe_lst (pa_cons (pe_tup (pa_cons pe_str (pa_cons pe_str pa_nil))) pa_nil)) pa_nil))) pa_nil)) pa_nil)))) (pa_cons (pe_tup (pa_cons pe_str (pa_cons (pe_lst pa_nil) (pa_cons (pe_lst (pa_cons (pe_tup (pa_cons pe_str (pa_cons pe_int pa_nil))) pa_nil)) pa_nil)))) (pa_cons (pe_tup (pa_cons pe_str (pa_cons pe_str pa_nil))) pa_nil))))))
      (pss_cons (ps_set (i := 0) scBs.nd rfl (Or.inl rfl) (pe_op op_cat (pv 0) (pe_lst (pa_cons (pe_tup (pa_cons pe_str (pa_cons pe_bl (pa_cons (pe_lst (pa_cons (pe_tup (pa_cons pe_str (pa_cons (pe_lst pa_nil) (pa_cons (pe_lst (pa_cons (pe_tup (pa_cons pe_str (pa_cons pe_str pa_nil))) pa_nil)) pa_nil)))) pa_nil)) pa_nil)))) (pa_cons (pe_tup (pa_cons pe_str (pa_cons (pe_lst (pa_cons pe_non pa_nil)) (pa_cons (pe_lst pa_nil) pa_nil)))) (pa_cons (pe_tup (pa_cons pe_str (pa_cons pe_str (pa_cons (pe_lst pa_nil) pa_nil)))) pa_nil))))))
      (pss_cons (ps_set (i := 0) scBs.nd rfl (Or.inl rfl) (pe_op op_cat (pv 0) (pe_lst (pa_cons (pe_tup (pa_cons pe_str (pa_cons pe_bl (pa_cons (pe_lst pa_nil) (pa_cons pe_int pa_nil))))) (pa_cons (pe_tup (pa_cons pe_str (pa_cons (pe_lst (pa_cons pe_str pa_nil)) pa_nil))) (pa_cons (pe_tup (pa_cons pe_str (pa_cons pe_dnewK pa_nil))) (pa_cons (pe_tup (pa_cons pe_str (pa_cons pe_dnewK pa_nil))) (pa_cons (pe_tup (pa_cons pe_str (pa_cons pe_dnewK (pa_cons (pe_lst pa_nil) pa_nil)))) pa_nil))))))))
      (pss_one (ps_ret (pe_op op_cat (pv 0) (pe_lst (pa_cons (pe_tup (pa_cons pe_str (pa_cons pe_bl (pa_cons (pe_lst (pa_cons (pe_tup (pa_cons pe_str (pa_cons pe_bl (pa_cons (pe_lst (pa_cons (pe_tup (pa_cons pe_str (pa_cons pe_str pa_nil))) pa_nil)) pa_nil)))) pa_nil)) pa_nil)))) (pa_cons (pe_tup (pa_cons pe_str (pa_cons pe_str pa_nil))) (pa_cons (pe_tup (pa_cons (pe_lst (pa_cons pe_str pa_nil)) (pa_cons pe_str pa_nil))) pa_nil)))))))))))))))), ?_⟩
    refine rd_sset (K := K) (G := emp) (d := .list bsD0) (ed_lst (da_cons ed_non (da_cons ed_int (da_cons ed_str (da_cons (ed_tup eda_nil (by show _ ≤ 100000; decide)) (da_cons (ed_lst eda_nil (by show _ ≤ 100000; decide)) (da_cons ed_dict (da_cons ed_bl (da_cons (ed_tup (da_cons ed_str (da_cons ed_int eda_nil)) (by show _ ≤ 100000; decide)) (da_cons (ed_lst (da_cons ed_str eda_nil) (by show _ ≤ 100000; decide)) (da_cons (ed_tup (da_cons ed_str eda_nil) (by show _ ≤ 100000; decide)) (da_cons (ed_tup (da_cons ed_str (da_cons ed_str eda_nil)) (by show _ ≤ 100000; decide)) (da_cons (ed_tup (da_cons ed_str (da_cons ed_str (da_cons ed_int eda_nil))) (by show _ ≤ 100000; decide)) eda_nil)))))))))))) (by show _ ≤ 100000; decide)) ex_emp fun v0 G0 H0 x0 d0 => ?_
    refine rd_sset (K := K) (G := G0) (d := .list bsD1) (ed_cat (ed_var rfl d0) (ed_lst (da_cons (ed_tup (da_cons ed_str (da_cons ed_non eda_nil)) (by show _ ≤ 100000; decide)) (da_cons (ed_tup (da_cons ed_str (da_cons ed_str eda_nil)) (by show _ ≤ 100000; decide)) (da_cons (ed_tup (da_cons ed_str eda_nil) (by show _ ≤ 100000; decide)) (da_cons (ed_tup (da_cons ed_str (da_cons (ed_lst (da_cons ed_str eda_nil) (by show _ ≤ 100000; decide)) eda_nil)) (by show _ ≤ 100000; decide)) (da_cons (ed_tup (da_cons ed_str (da_cons ed_str eda_nil)) (by show _ ≤ 100000; decide)) eda_nil))))) (by show _ ≤ 100000; decide)) (by decide +kernel)) x0.gh fun v1 G1 H1 y1 d1 => ?_
    have x1 := x0.trans y1
    refine rd_sset (K := K) (G := G1) (d := .list bsD2) (ed_cat (ed_var rfl d1) (ed_lst (da_cons (ed_tup (da_cons ed_str (da_cons ed_str eda_nil)) (by show _ ≤ 100000; decide)) eda_nil) (by show _ ≤ 100000; decide)) (by decide +kernel)) x1.gh fun v2 G2 H2 y2 d2 => ?_
    have x2 := x1.trans y2
    refine rd_sset (K := K) (G := G2) (d := .list bsD3) (ed_cat (ed_var rfl d2) (ed_lst (da_cons (ed_tup (da_cons ed_str (da_cons (ed_lst eda_nil (by show _ ≤ 100000; decide)) eda_nil)) (by show _ ≤ 100000; decide)) (da_cons (ed_tup (da_cons ed_str (da_cons (ed_lst eda_nil (by show _ ≤ 100000; decide)) (da_cons ed_non eda_nil))) (by show _ ≤ 100000; decide)) (da_cons (ed_tup (da_cons ed_str (da_cons (ed_lst eda_nil (by show _ ≤ 100000; decide)) (da_cons (ed_lst eda_nil (by show _ ≤ 100000; decide)) (da_cons (ed_lst eda_nil (by show _ ≤ 100000; decide)) eda_nil)))) (by show _ ≤ 100000; decide)) (da_cons (ed_tup (da_cons ed_str (da_cons (ed_tup eda_nil (by show _ ≤ 100000; decide)) (da_cons (ed_lst eda_nil (by show _ ≤ 100000; decide)) eda_nil))) (by show _ ≤ 100000; decide)) (da_cons (ed_tup (da_cons ed_str eda_nil) (by show _ ≤ 100000; decide)) eda_nil))))) (by show _ ≤ 100000; decide)) (by decide +kernel)) x2.gh fun v3 G3 H3 y3 d3 => ?_
    have x3 := x2.trans y3
    refine rd_sset (K := K) (G := G3) (d := .list bsD4) (ed_cat (ed_var rfl d3) (ed_lst (da_cons (ed_tup (da_cons ed_str (da_cons (ed_tup eda_nil (by show _ ≤ 100000; decide)) eda_nil)) (by show _ ≤ 100000; decide)) (da_cons (ed_tup (da_cons ed_str (da_cons (ed_lst (da_cons ed_non eda_nil) (by show _ ≤ 100000; decide)) eda_nil)) (by show _ ≤ 100000; decide)) (da_cons (ed_tup (da_cons ed_str (da_cons (ed_lst eda_nil (by show _ ≤ 100000; decide)) (da_cons (ed_lst eda_nil (by show _ ≤ 100000; decide)) eda_nil))) (by show _ ≤ 100000; decide)) (da_cons (ed_tup (da_cons ed_str (da_cons (ed_lst eda_nil (by show _ ≤ 100000; decide)) eda_nil)) (by show _ ≤ 100000; decide)) (da_cons (ed_tup (da_cons ed_str (da_cons ed_int (da_cons (ed_lst eda_nil (by show _ ≤ 100000; decide)) eda_nil))) (by show _ ≤ 100000; decide)) eda_nil))))) (by show _ ≤ 100000; decide)) (by decide +kernel)) x3.gh fun v4 G4 H4 y4 d4 => ?_
    have x4 := x3.trans y4
    refine rd_sset (K := K) (G := G4) (d := .list bsD5) (ed_cat (ed_var rfl d4) (ed_lst (da_cons (ed_tup (da_cons ed_str (da_cons ed_int (da_cons (ed_lst eda_nil (by show _ ≤ 100000; decide)) eda_nil))) (by show _ ≤ 100000; decide)) eda_nil) (by show _ ≤ 100000; decide)) (by decide +kernel)) x4.gh fun v5 G5 H5 y5 d5 => ?_
    have x5 := x4.trans y5
    refine rd_sset (K := K) (G := G5) (d := .list bsD6) (ed_cat (ed_var rfl d5) (ed_lst (da_cons (ed_tup (da_cons ed_str (da_cons ed_non (da_cons (ed_lst eda_nil (by show _ ≤ 100000; decide)) eda_nil))) (by show _ ≤ 100000; decide)) (da_cons (ed_tup (da_cons ed_str (da_cons ed_bl (da_cons (ed_tup eda_nil (by show _ ≤ 100000; decide)) eda_nil))) (by show _ ≤ 100000; decide)) (da_cons (ed_tup (da_cons ed_str (da_cons ed_bl (da_cons (ed_lst (da_cons (ed_tup (da_cons ed_str (da_cons ed_str eda_nil)) (by show _ ≤ 100000; decide)) eda_nil) (by show _ ≤ 100000; decide)) eda_nil))) (by show _ ≤ 100000; decide)) (da_cons (ed_tup (da_cons ed_non (da_cons ed_str eda_nil)) (by show _ ≤ 100000; decide)) eda_nil)))) (by show _ ≤ 100000; decide)) (by decide +kernel)) x5.gh fun v6 G6 H6 y6 d6 => ?_
    have x6 := x5.trans y6
    refine rd_sset (K := K) (G := G6) (d := .list bsD7) (ed_cat (ed_var rfl d6) (ed_lst (da_cons (ed_tup (da_cons ed_str (da_cons ed_bl (da_cons (ed_lst (da_cons (ed_tup (da_cons ed_str (da_cons (ed_lst (da_cons (ed_tup (da_cons ed_str (da_cons ed_str eda_nil)) (by show _ ≤ 100000; decide)) eda_nil) (by show _ ≤ 100000; decide)) eda_nil)) (by show _ ≤ 100000; decide)) eda_nil) (by show _ ≤ 100000; decide)) eda_nil))) (by show _ ≤ 100000; decide)) (da_cons (ed_tup (da_cons ed_str (da_cons (ed_lst eda_nil (by show _ ≤ 100000; decide)) (da_cons (ed_lst (da_cons (ed_tup (da_cons ed_str (da_cons ed_int eda_nil)) (by show _ ≤ 100000; decide)) eda_nil) (by show _ ≤ 100000; decide)) eda_nil))) (by show _ ≤ 100000; decide)) (da_cons (ed_tup (da_cons ed_str (da_cons ed_str eda_nil)) (by show _ ≤ 100000; decide)) eda_nil))) (by show _ ≤ 100000; decide)) (by decide +kernel)) x6.gh fun v7 G7 H7 y7 d7 => ?_
    have x7 := x6.trans y7
    refine rd_sset (K := K) (G := G7) (d := .list bsD8) (ed_cat (ed_var rfl d7) (ed_lst (da_cons (ed_tup (da_cons ed_str (da_cons ed_bl (da_cons (ed_lst (da_cons (ed_tup (da_cons ed_str (da_cons (ed_lst eda_nil (by show _ ≤ 100000; decide)) (da_cons (ed_lst (da_cons (ed_tup (da_cons ed_str (da_cons ed_str eda_nil)) (by show _ ≤ 100000; decide)) eda_nil) (by show _ ≤ 100000; decide)) eda_nil))) (by show _ ≤ 100000; decide)) eda_nil) (by show _ ≤ 100000; decide)) eda_nil))) (by show _ ≤ 100000; decide)) (da_cons (ed_tup (da_cons ed_str (da_cons (ed_lst (da_cons ed_non eda_nil) (by show _ ≤ 100000; decide)) (da_cons (ed_lst eda_nil (by show _ ≤ 100000; decide)) eda_nil))) (by show _ ≤ 100000; decide)) (da_cons (ed_tup (da_cons ed_str (da_cons ed_str (da_cons (ed_lst eda_nil (by show _ ≤ 100000; decide)) eda_nil))) (by show _ ≤ 100000; decide)) eda_nil))) (by show _ ≤ 100000; decide)) (by decide +kernel)) x7.gh fun v8 G8 H8 y8 d8 => ?_
    have x8 := x7.trans y8
    refine rd_sset (K := K) (G := G8) (d := .list bsD9) (ed_cat (ed_var rfl d8) (ed_lst (da_cons (ed_tup (da_cons ed_str (da_cons ed_bl (da_cons (ed_lst eda_nil (by show _ ≤ 100000; decide)) (da_cons ed_int eda_nil)))) (by show _ ≤ 100000; decide)) (da_cons (ed_tup (da_cons ed_str (da_cons (ed_lst (da_cons ed_str eda_nil) (by show _ ≤ 100000; decide)) eda_nil)) (by show _ ≤ 100000; decide)) (da_cons (ed_tup (da_cons ed_str (da_cons ed_dict eda_nil)) (by show _ ≤ 100000; decide)) (da_cons (ed_tup (da_cons ed_str (da_cons ed_dict eda_nil)) (by show _ ≤ 100000; decide)) (da_cons (ed_tup (da_cons ed_str (da_cons ed_dict (da_cons (ed_lst eda_nil (by show _ ≤ 100000; decide)) eda_nil))) (by show _ ≤ 100000; decide)) eda_nil))))) (by show _ ≤ 100000; decide)) (by decide +kernel)) x8.gh fun v9 G9 H9 y9 d9 => ?_
    have x9 := x8.trans y9
    refine rd_ret (K := K) (G := G9) (d := .list bsD10) (ed_cat (ed_var rfl d9) (ed_lst (da_cons (ed_tup (da_cons ed_str (da_cons ed_bl (da_cons (ed_lst (da_cons (ed_tup (da_cons ed_str (da_cons ed_bl (da_cons (ed_lst (da_cons (ed_tup (da_cons ed_str (da_cons ed_str eda_nil)) (by show _ ≤ 100000; decide)) eda_nil) (by show _ ≤ 100000; decide)) eda_nil))) (by show _ ≤ 100000; decide)) eda_nil) (by show _ ≤ 100000; decide)) eda_nil))) (by show _ ≤ 100000; decide)) (da_cons (ed_tup (da_cons ed_str (da_cons ed_str eda_nil)) (by show _ ≤ 100000; decide)) (da_cons (ed_tup (da_cons (ed_lst (da_cons ed_str eda_nil) (by show _ ≤ 100000; decide)) (da_cons ed_str eda_nil)) (by show _ ≤ 100000; decide)) eda_nil))) (by show _ ≤ 100000; decide)) (by decide +kernel)) x9.gh fun v10 G10 H10 y10 d10 => ?_
    have x10 := x9.trans y10
    exact q _ _ _ (ext_new x10) d10
end
end Lx

set_option Elab.async false
set_option maxRecDepth 100000
set_option linter.all false
set_option maxHeartbeats 4000000
namespace Lx
open PySem PySem.Spec PyProof.Rows L2 Evl Kx
theorem okD_strs {d : PyData} (h : okD d) : True := trivial
section
variable {K : PySem.W.Frag} {σ : L2.St} {G : Hp} {te : TE} {t1 t2 t3 : TE} {d d1 d2 d3 : PyData} {n : Nat}
theorem ed_bs {E : XK} : EvD K (tCall (spBs K) [] E tNil) σ G (.list badSteps) := fun H1 e Q q => by
  show spBs K [] H1 Q E

  exact ⟨rfl, fun v H2 M k hd => q v _ H2 (k.ext e) (hd.mono (same_ex (k.exr e)))⟩
theorem ed_ca {E : XK} {f : Flt} (h1 : EvD K t1 σ G d1) (h2 : EvD K t2 σ G d2) (h3 : EvD K t3 σ G d3) (sy : Sys G) (ok : DataOk n d1 d2 d3) (hf : faultF d1 d2 d3 = some f) (okd : okD (fltD [d1, d2, d3] f)) :
    EvD K (tCall (spCa K n) [] E (tCons t1 (tCons t2 (tCons t3 tNil)))) σ G (.list [.int (kindF f), .str (fltD [d1, d2, d3] f).shown]) := fun H1 e Q q => by
  refine (da_cons h1 (da_cons h2 (da_cons h3 eda_nil)) : EvDA K _ σ G [d1, d2, d3]) H1 e _ fun vs G2 H2 x hd => ?_
  cases hd with
  | cons g1 hd =>
  cases hd with
  | cons g2 hd =>
  cases hd with
  | cons g3 hd =>
  cases hd
  show spCa K n [_, _, _] H2 Q E

  exact ⟨G2, _, _, _, d1, d2, d3, f, rfl, x.gh, sy.mono (same_ex (x.gg.trans x.gh)), g1, g2, g3, ok, hf, okd, fun l H3 M k hl => q _ _ H3 (x.trans (k.ext x.gh)) (hl.mono (same_ex (k.exr x.gh)))⟩
end
--FRSTART
/-! ### functions that are refused -/
def strOkB : PyData → Bool
  | .str z => decide (z.length ≤ sizeLine)
  | _ => true
theorem strOk_of {d : PyData} (h : strOkB d = true) : strOk d := by
  rintro z rfl
  exact of_decide_eq_true h
def headOkB : PyData → Bool
  | .tuple (x :: _) => strOkB x
  | _ => true
theorem headOk_of {d : PyData} (h : headOkB d = true) : headOk d := by
  rintro x r rfl
  exact strOk_of h
def dataOkB (n : Nat) (d1 d2 d3 : PyData) : Bool := (items d1).all strOkB && (items d2).all headOkB && (items d3).all fun x => headOkB x && decide (x.depth ≤ n + 1)
theorem dataOk_of {n : Nat} {d1 d2 d3 : PyData} (h : dataOkB n d1 d2 d3 = true) : DataOk n d1 d2 d3 := by
  unfold dataOkB at h
  simp only [Bool.and_eq_true, List.all_eq_true, decide_eq_true_eq] at h
  exact ⟨fun x hx => strOk_of (h.1.1 x hx), fun x hx => headOk_of (h.1.2 x hx), fun x hx => ⟨headOk_of (h.2 x hx).1, (h.2 x hx).2⟩⟩
/-- may be shown, and the text compared -/
def okB (d : PyData) : Bool := d.showable && decide (d.depth ≤ 50) && decide (bnd d ≤ 1000000) && PySem.PyData.strOk d.shown
theorem okB_ok {d : PyData} (h : okB d = true) : okD d := by
  unfold okB at h
  simp only [Bool.and_eq_true, decide_eq_true_eq] at h
  exact ⟨h.1.1.1, h.1.1.2, h.1.2⟩
def isF : Option Flt → Nat → Nat → Bool
  | some (.itm k i), a, b => k == a && i == b
  | _, _, _ => false
theorem isF_eq {o : Option Flt} {a b : Nat} (h : isF o a b = true) : o = some (.itm a b) := by
  unfold isF at h
  split at h
  · simp only [Bool.and_eq_true, beq_iff_eq] at h
    rw [h.1, h.2]
  · cases h
def isFl : Option Flt → Nat → Bool
  | some (.lst k), a => k == a
  | _, _ => false
theorem isFl_eq {o : Option Flt} {a : Nat} (h : isFl o a = true) : o = some (.lst a) := by
  unfold isFl at h
  split at h
  · simp only [beq_iff_eq] at h
    rw [h]
  · cases h
def frA : List PyData := [.none, (.int 3), (.str "main"), (.tuple [(.str "new"), (.str "app")]), (.tuple [(.str "new"), (.str "zz"), (.list [])]), (.list [(.str "new"), (.str "app"), (.list [])]), (.tuple [(.str "New"), (.str "app"), (.list [])])]
def frB : List PyData := frA ++ [(.tuple [(.str "new"), .none, (.list [])]), (.tuple [(.str "new"), (.str "app"), .none]), (.tuple [(.str "new"), (.str "app"), (.tuple [])]), (.tuple [(.str "new"), (.str "app"), (.list []), (.int 0)]), (.dict [])]
def frF1 (e : PyData) : PyData := (.tuple [(.str "new"), (.str "app"), (.list [e])])
def frF2 (e : PyData) : PyData := (.tuple [(.str "new"), (.str "app"), (.list [e, (.tuple [(.str "back")])])])
def frC : List PyData := (frB ++ badSteps.map frF1) ++ [(.tuple [(.list [(.str "new")]), (.str "app"), (.list [])]), (.tuple [.none, (.str "app"), (.list [])])]
def frD : List PyData := frC ++ badSteps.map frF2
def frE : List PyData := frD ++ [(.tuple [(.str "a1"), (.str "app"), (.list [])]), (.tuple [(.str "a\n"), (.str "app"), (.list [])])]
def frG : List PyData := frE ++ [(.tuple [(.str "new"), (.list [(.str "app")]), (.list [])]), (.tuple [(.str "main"), (.str "app"), (.list [(.tuple [(.str "back")])])])]
def fr1 : PyData := (.list [(.str "write")])
def fr2 : PyData := (.list [(.tuple [(.str "app"), (.list [])])])
def fr3 (d : PyData) : PyData := (.list [(.tuple [(.str "main"), (.str "app"), (.list [])]), d, .none])
def frOne : PyData := (.tuple [(.str "main"), (.str "app"), (.list [(.tuple [(.str "call"), (.str "new")])])])
def frGood : PyData := (.list [(.tuple [(.str "app"), (.list [])])])
def frH : List PyData := [(.tuple [(.str "new"), (.str "app"), .none]), (.tuple [(.str "new"), (.str "zz"), (.list [])]), (.tuple [(.str "new"), .none, (.int 3)])]
def frI : List PyData := [(.tuple [(.str "new")]), (.tuple [(.str "new"), (.str "app")]), (.list [(.str "new"), (.str "app"), (.list [])]), (.tuple [(.str "new"), (.str "app"), (.list []), (.int 0)])]
def frGp (d : PyData) : Bool := isF (faultF fr1 fr2 (fr3 d)) 2 1 && okB d && dataOkB 12 fr1 fr2 (fr3 d)
theorem all_take {p : PyData → Bool} {l : List PyData} (k : Nat) (h1 : (l.take k).all p = true) (h2 : (l.drop k).all p = true) : l.all p = true := by
  rw [← List.take_append_drop k l, List.all_append, h1, h2]
  rfl
theorem frG_0 : ((frG.take 12).all frGp) = true := by decide +kernel
theorem frG_1 : (((frG.drop 12).take 12).all frGp) = true := by decide +kernel
theorem frG_2 : ((((frG.drop 12).drop 12).take 12).all frGp) = true := by decide +kernel
theorem frG_3 : (((((frG.drop 12).drop 12).drop 12).take 12).all frGp) = true := by decide +kernel
theorem frG_4 : ((((((frG.drop 12).drop 12).drop 12).drop 12).take 12).all frGp) = true := by decide +kernel
theorem frG_5 : (((((((frG.drop 12).drop 12).drop 12).drop 12).drop 12).take 12).all frGp) = true := by decide +kernel
theorem frG_6 : ((((((((frG.drop 12).drop 12).drop 12).drop 12).drop 12).drop 12).take 12).all frGp) = true := by decide +kernel
theorem frG_7 : (((((((((frG.drop 12).drop 12).drop 12).drop 12).drop 12).drop 12).drop 12).take 12).all frGp) = true := by decide +kernel
theorem frG_8 : ((((((((((frG.drop 12).drop 12).drop 12).drop 12).drop 12).drop 12).drop 12).drop 12).take 12).all frGp) = true := by decide +kernel
theorem frG_9 : (((((((((((frG.drop 12).drop 12).drop 12).drop 12).drop 12).drop 12).drop 12).drop 12).drop 12).take 12).all frGp) = true := by decide +kernel
theorem frG_10 : ((((((((((((frG.drop 12).drop 12).drop 12).drop 12).drop 12).drop 12).drop 12).drop 12).drop 12).drop 12).take 12).all frGp) = true := by decide +kernel
theorem frG_11 : (((((((((((((frG.drop 12).drop 12).drop 12).drop 12).drop 12).drop 12).drop 12).drop 12).drop 12).drop 12).drop 12).take 12).all frGp) = true := by decide +kernel
theorem frG_12 : (((((((((((((frG.drop 12).drop 12).drop 12).drop 12).drop 12).drop 12).drop 12).drop 12).drop 12).drop 12).drop 12).drop 12).all frGp) = true := by decide +kernel
theorem frG_ok : (frG.all fun d => isF (faultF fr1 fr2 (fr3 d)) 2 1 && okB d && dataOkB 12 fr1 fr2 (fr3 d)) = true := (all_take 12 frG_0 (all_take 12 frG_1 (all_take 12 frG_2 (all_take 12 frG_3 (all_take 12 frG_4 (all_take 12 frG_5 (all_take 12 frG_6 (all_take 12 frG_7 (all_take 12 frG_8 (all_take 12 frG_9 (all_take 12 frG_10 (all_take 12 frG_11 frG_12))))))))))))
theorem frH_ok : (frH.all fun d => isF (faultF fr1 frGood (.list [frOne, d])) 2 1 && okB d && dataOkB 12 fr1 frGood (.list [frOne, d])) = true := by decide +kernel
theorem frI_ok : (frI.all fun d => isF (faultF fr1 frGood (.list [frOne, d])) 2 0 && okB frOne && dataOkB 12 fr1 frGood (.list [frOne, d])) = true := by decide +kernel
section
variable {P : Program} {w : World} {K : PySem.W.Frag} {mg : Str → Option Value} {base : Heap} {f : Addr} {fd : FuncData} {σ : L2.St} {G : Hp}
theorem et_ca {te t1 t2 t3 : TE} {d d1 d2 d3 : PyData} {E : XK} {n : Nat} {k : Int} {flt : Flt} (h1 : EvD K t1 σ G d1) (h2 : EvD K t2 σ G d2) (h3 : EvD K t3 σ G d3) (hd : EvD K te σ G d) (sy : Sys G) (ok : DataOk n d1 d2 d3) (hf : faultF d1 d2 d3 = some flt) (hk : (kindF flt : Int) = k) (he : fltD [d1, d2, d3] flt = d) (okb : okB d = true) :
    EvT (tTest (tOp (rNeD K) (tCall (spCa K n) [] E (tCons t1 (tCons t2 (tCons t3 tNil)))) (tLst (tCons (tC (.int k)) (tCons (tCB (rRepr K) (tCons te tNil)) tNil))))) σ G false := by
  have so : PySem.PyData.strOk d.shown = true := by
    unfold okB at okb
    simp only [Bool.and_eq_true] at okb
    exact okb.2
  have dd : ∀ i : Int, (PyData.list [.int i, .str d.shown]).hasDict = false := fun i => by simp only [PyData.hasDict, PyData.hasDictAll, Bool.or_self]
  have ss : ∀ i : Int, SeqAt.shaped (PyData.list [.int i, .str d.shown]) = true := fun i => by
    unfold SeqAt.shaped
    simp [PyData.canLay0, PyData.canLayAll0, so, PyData.depth, PyData.depthAll]
  have c := ed_ca (E := E) h1 h2 h3 sy ok hf (by rw [he]; exact okB_ok okb)
  rw [he, hk] at c
  have r : EvD K (tLst (tCons (tC (.int k)) (tCons (tCB (rRepr K) (tCons te tNil)) tNil))) σ G (.list [.int k, .str d.shown]) := ed_lst (da_cons ed_int (da_cons (ed_ev (ed_repr hd sy (okB_ok okb)) (.str _)) eda_nil)) (Nat.le_of_ble_eq_true rfl)
  have := et_neD c r (dd _) (dd _) (ss _) (ss _)
  rw [eqv_self (dd _)] at this
  exact this
end
end Lx

set_option Elab.async false
set_option maxRecDepth 100000
set_option linter.all false
set_option maxHeartbeats 2000000
/-! KitW: more statements, read with data. -/
namespace Kx
open PySem PySem.Spec PyProof.Rows L2 Evl
section
variable {K : PySem.W.Frag} {σ : L2.St} {G H : Hp} {ta tb : TE} {d e : PyData} {u : TS} {D : Ends} {i j : Nat}
theorem rd_spar (h1 : EvD K ta σ G d) (h2 : EvD K tb σ G e) (x0 : Ex G H) (q : ∀ v w G2 H2, Ext G H G2 H2 → Dq K G2 v d → Dq K G2 w e → u D ((σ.set i (some v)).set j (some w)) H2) : tSeq (tPar i j (tCons ta (tCons tb tNil))) u D σ H :=
  (da_cons h1 (da_cons h2 eda_nil) : EvDA K _ σ G [d, e]) H x0 (fun vs H1 => ∃ v w, vs = [v, w] ∧ u D ((σ.set i (some v)).set j (some w)) H1) fun vs G2 H2 x hd => by
    cases hd with
    | cons g1 hd =>
    cases hd with
    | cons g2 hd =>
    cases hd
    exact ⟨_, _, rfl, q _ _ G2 H2 x g1 g2⟩
end
end Kx

set_option Elab.async false
set_option maxRecDepth 100000
set_option linter.all false
set_option maxHeartbeats 2000000
/-! KitX: slices, items, repetitions, choices, tuple(..) of data. -/
namespace Kx
open PySem PySem.Spec PyProof.Rows L2 Evl
section
variable {K : PySem.W.Frag} {σ : L2.St} {G H : Hp} {te ta tb ti : TE} {d e : PyData} {ds : List PyData} {t : TT}
theorem dqa_drop {H : Hp} : ∀ {vs : List V} {ds : List PyData} (i : Nat), DqA K H vs ds → DqA K H (vs.drop i) (ds.drop i)
  | _, _, 0, h => h
  | _, _, i + 1, .nil => .nil
  | _, _, i + 1, .cons a b => dqa_drop i b
/-- the data of a slice -/
def cutD (ds : List PyData) (lo hi : Option Int) : List PyData := (ds.drop (HT.sIx ds.length 0 lo)).take (HT.sIx ds.length ds.length hi - HT.sIx ds.length 0 lo)
theorem ed_sl {tl th : TO} {lo hi : Option Int} (h : EvD K te σ G (.list ds)) (h1 : ∀ G', Ex G G' → EvO tl σ G' lo) (h2 : ∀ G', Ex G G' → EvO th σ G' hi) : EvD K (tSl (rSlL K) te tl th) σ G (.list (cutD ds lo hi)) := fun H1 x Q q =>
  h H1 x _ fun v G2 H2 y hd => by
    cases hd with
    | @lst a xs _ ha hx =>
    have hl := dqa_len hx
    refine h1 H2 (x.trans y.hh) H2 (Ex.refl H2) _ fun H3 e3 => h2 H3 (x.trans (y.hh.trans e3)) H3 (Ex.refl H3) _ fun H4 e4 => ?_
    have e34 := e3.trans e4
    refine ⟨a, xs, rfl, SqL.of (e34 _ _ (y.gh _ _ ha)), fun p hp => ?_⟩
    have y4 : Ext G H1 G2 H4 := ⟨y.hh.trans e34, y.gg, y.gh.trans e34, y.ag⟩
    refine q _ _ _ (y4.more (o := .lst (cutV xs lo hi)) hp (Ex.new hp) upd_same) (.lst upd_same ?_)
    refine DqA.mono (same_ex (Ex.new (fresh_back y4.gh hp))) ?_
    unfold cutV cutD
    rw [hl]
    exact dqa_take _ (dqa_drop _ hx)
theorem dqa_nth {H : Hp} : ∀ {vs : List V} {ds : List PyData} {i : Nat} {d : PyData}, DqA K H vs ds → ds[i]? = some d → ∃ v, vs[i]? = some v ∧ Dq K H v d
  | _, _, 0, _, .cons a _, h => ⟨_, rfl, by simp only [List.getElem?_cons_zero] at h; rw [← Option.some.inj h]; exact a⟩
  | _, _, i + 1, _, .cons _ b, h => by
    simp only [List.getElem?_cons_succ] at h ⊢
    exact dqa_nth b h
theorem ed_ixL {i : Nat} (h : EvD K te σ G (.list ds)) (hi : Ev ti σ G (.int (i : Int))) (hd : ds[i]? = some d) : EvD K (tOp (rIxL K) te ti) σ G d := fun H1 x Q q =>
  h H1 x _ fun v G2 H2 y hx => hi H2 (x.trans y.hh) _ fun H3 e3 => by
    cases hx with
    | @lst a xs _ ha hx =>
    obtain ⟨u, hu, gu⟩ := dqa_nth hx hd
    exact ⟨a, xs, _, u, rfl, rfl, SqL.of (e3 _ _ (y.gh _ _ ha)), atI_nat hu, q u G2 H3 ⟨y.hh.trans e3, y.gg, y.gh.trans e3, y.ag⟩ gu⟩
theorem ed_ixT {i : Nat} (h : EvD K te σ G (.tuple ds)) (hi : Ev ti σ G (.int (i : Int))) (hd : ds[i]? = some d) : EvD K (tOp (rIxT K) te ti) σ G d := fun H1 x Q q =>
  h H1 x _ fun v G2 H2 y hx => hi H2 (x.trans y.hh) _ fun H3 e3 => by
    cases hx with
    | @tup a xs _ ha hx =>
    obtain ⟨u, hu, gu⟩ := dqa_nth hx hd
    exact ⟨a, xs, _, u, rfl, rfl, sqt_ex (same_ex (y.gh.trans e3)) ha, atI_nat hu, q u G2 H3 ⟨y.hh.trans e3, y.gg, y.gh.trans e3, y.ag⟩ gu⟩
theorem dqa_rep {H : Hp} {vs : List V} {ds : List PyData} (h : DqA K H vs ds) : ∀ n : Nat, DqA K H (List.replicate n vs).flatten (List.replicate n ds).flatten
  | 0 => .nil
  | n + 1 => by
    simp only [List.replicate_succ, List.flatten_cons]
    exact ed_cat.dqa_cat h (dqa_rep h n)
theorem ed_rep {n : Nat} (h : EvD K te σ G (.list ds)) (hi : Ev ti σ G (.int (n : Int))) (hl : ds.length * n ≤ 100000) (hn : n ≤ 100000) : EvD K (tOp rRep te ti) σ G (.list (List.replicate n ds).flatten) := fun H1 x Q q =>
  h H1 x _ fun v G2 H2 y hx => hi H2 (x.trans y.hh) _ fun H3 e3 => by
    cases hx with
    | @lst a xs _ ha hx =>
    have l1 := dqa_len hx
    have y3 : Ext G H1 G2 H3 := ⟨y.hh.trans e3, y.gg, y.gh.trans e3, y.ag⟩
    refine ⟨a, _, xs, rfl, rfl, e3 _ _ (y.gh _ _ ha), by omega, by omega, by rw [Int.toNat_natCast, l1]; exact sz_of hl, fun p hp => ?_⟩
    rw [Int.toNat_natCast]
    exact q _ _ _ (y3.more (o := .lst (List.replicate n xs).flatten) hp (Ex.new hp) upd_same) (.lst upd_same ((dqa_rep hx n).mono (same_ex (Ex.new (fresh_back y3.gh hp)))))
theorem ed_if {b : Bool} (h : EvT t σ G b) (h1 : b = true → EvD K ta σ G d) (h2 : b = false → EvD K tb σ G d) : EvD K (tIf t ta tb) σ G d := fun H1 x Q q =>
  h H1 x _ fun H2 e2 => by
    cases b with
    | true => exact h1 rfl H2 (x.trans e2) Q fun v G2 H3 y hd => q v G2 H3 ⟨e2.trans y.hh, y.gg, y.gh, fun a o ha => y.ag a o (e2 _ _ ha)⟩ hd
    | false => exact h2 rfl H2 (x.trans e2) Q fun v G2 H3 y hd => q v G2 H3 ⟨e2.trans y.hh, y.gg, y.gh, fun a o ha => y.ag a o (e2 _ _ ha)⟩ hd
theorem ed_tupOf (h : EvD K te σ G (.list ds)) : EvD K (tThen te (kTup K)) σ G (.tuple ds) := fun H1 x Q q =>
  h H1 x _ fun v G2 H2 y hx => by
    cases hx with
    | @lst a xs _ ha hx =>
    refine .inl ⟨a, xs, rfl, SqL.of (y.gh _ _ ha), fun p hp => ?_⟩
    exact q _ _ _ (y.more (o := .tup xs) hp (Ex.new hp) upd_same) (.tup (.inl (.inl upd_same)) (hx.mono (same_ex (Ex.new (fresh_back y.gh hp)))))
end
end Kx

set_option Elab.async false
set_option maxRecDepth 100000
set_option linter.all false
set_option maxHeartbeats 2000000
namespace Kx
open PySem PySem.Spec PyProof.Rows L2 Evl
section
variable {K : PySem.W.Frag} {σ : L2.St} {G H : Hp} {te tl : TE} {ds es : List PyData} {tb u : TS} {D : Ends} {j : Nat}
theorem cutD_take (ds : List PyData) (k : Nat) : cutD ds none (some (k : Int)) = ds.take k := by
  have h1 : HT.sIx ds.length 0 none = 0 := rfl
  have h2 : HT.sIx ds.length ds.length (some (k : Int)) = min k ds.length := by
    unfold HT.sIx
    simp only
    split <;> omega
  unfold cutD
  rw [h1, h2, List.drop_zero, Nat.sub_zero, List.take_eq_take_iff]
  omega
theorem ed_take {th : TO} {i : Int} (k : Nat) (h : EvD K te σ G (.list ds)) (h2 : ∀ G', Ex G G' → EvO th σ G' (some i)) (hi : i = (k : Int) := by rfl) : EvD K (tSl (rSlL K) te tNoPart th) σ G (.list (ds.take k)) := by
  subst hi
  have := ed_sl (lo := none) (hi := some (k : Int)) h (fun _ _ => eo_none) h2
  rw [cutD_take] at this
  exact this
/-- a loop over range(n), n written -/
theorem rd_rng (R : L2.St → Prop) {n : Nat} {i : Int} (hi : i = (n : Int) := by rfl) (hn : n ≤ 1000 := by decide) (r0 : R σ)
    (hb : ∀ (i : Nat) σ' H', i < n → R σ' → Ex H H' → tb { D with nx := fun σ2 H2 => R σ2 ∧ Ex H H2, ct := fun σ2 H2 => R σ2 ∧ Ex H H2, bk := D.nx } (σ'.set j (some (.int (i : Int)))) H')
    (hd : ∀ σ' H', R σ' → Ex H H' → D.nx σ' H') : tFor (iRng1 (tCons (tC (.int i)) tNil)) (gName j) tb D σ H := by
  subst hi
  refine ⟨(n : Int), rfl, by omega, by omega, ?_⟩
  rw [Int.toNat_natCast]
  refine for_range (lo := 0) (n := n) (fun _ σ' H' => R σ' ∧ Ex H H') ⟨r0, Ex.refl H⟩ (fun i σ' H' hi p => ?_) (fun σ' H' p => hd σ' H' p.1 p.2)
  rw [Int.zero_add]
  exact hb i σ' H' hi p.1 p.2
theorem rd_srng (R : L2.St → Prop) {n : Nat} {i : Int} (hi : i = (n : Int) := by rfl) (hn : n ≤ 1000 := by decide) (r0 : R σ)
    (hb : ∀ (i : Nat) σ' H', i < n → R σ' → Ex H H' → tb { D with nx := fun σ2 H2 => R σ2 ∧ Ex H H2, ct := fun σ2 H2 => R σ2 ∧ Ex H H2, bk := u D } (σ'.set j (some (.int (i : Int)))) H')
    (hd : ∀ σ' H', R σ' → Ex H H' → u D σ' H') : tSeq (tFor (iRng1 (tCons (tC (.int i)) tNil)) (gName j) tb) u D σ H :=
  rd_rng (D := { D with nx := u D }) R hi hn r0 hb hd
end
end Kx

set_option Elab.async false
set_option maxRecDepth 100000
set_option linter.all false
set_option maxHeartbeats 4000000
namespace Lx
open PySem PySem.Spec PyProof.Rows L2 Evl Kx
theorem rd_op {r : R2} {ta tb : TE} {σ : L2.St} {H : Hp} {Q : VK} (h : ta σ H fun x H1 => tb σ H1 fun y H2 => r x y H2 Q) : tOp r ta tb σ H Q := h
def krR : List Str := ["abcdefgh", "ijklmnop", "qrstuvwx", "yz"]
def krB : List Stp := [.check "yz"]
def krS : List Stp := [.either krB krB, .loop krB]
def krQ : Prt := ⟨krR, [("yz", krR), ("qrstuvwx", [])], [("exec", "yz", krS)]⟩
theorem krGood : Good 12 4 krQ where
  ok := dataOk_of (by decide +kernel)
  no := by
    have : (faultF (strsD krQ.rs) (.list (krQ.os.map ownD)) (.list (krQ.fs.map fnD))).isNone = true := by decide +kernel
    exact Option.isNone_iff_eq_none.mp this
  le := ⟨by decide, by decide, by decide⟩
  sh := ⟨by decide +kernel, by decide +kernel, by decide +kernel⟩
theorem lk_no {a1 a2 a3 : Addr} {m : Str} (h1 : (m == ("_rights" : Str)) = false) (h2 : (m == ("_owners" : Str)) = false) (h3 : (m == ("_functions" : Str)) = false) : (progF a1 a2 a3).lookup m = none := by
  unfold progF
  simp only [List.lookup, h1, h2, h3]
section
variable {P : Program} {w : World} {K : PySem.W.Frag} {mg : Str → Option Value} {base : Heap} {f : Addr} {fd : FuncData}
abbrev sKr : Stmt := top 50
theorem scKr : FnScope ["rights", "body", "owners", "steps", "program", "told"] [] (defScope sKr) := ⟨rfl, rfl, rfl, by decide +kernel, rfl, by decide +kernel, by decide +kernel⟩
structure spKr (vs : List V) (H : Hp) (Q : VK) (E_ : XK) : Prop where
  mk' ::
  out : vs = [] ∧ ∀ H2, Ex H H2 → Q (.bl true) H2
theorem ok_kr {C CL CI fI fR fO fF : Addr} {fdI fdR fdO fdF : FuncData} (F : Fun K "_law_known_right" "_law_known_right" sKr f fd) (T : PTxt K mg C)
    (M0 : Mk K C fI) (FI : FnOk P w K mg base (L2.CX P w) 43 fI fdI ["self", "rights", "owners", "functions"] (spInit K 12 4 C CL CI)) (bI : Binds K fdI ["self", "rights", "owners", "functions"] [])
    (FR : FnOk P w K mg base CX0 1 fR fdR ["self"] (spRi K C)) (mR : Meth K C "rights" fR) (bR : Binds K fdR ["self"] [])
    (FO : FnOk P w K mg base CX0 2 fO fdO ["self"] (spOs K C)) (mO : Meth K C "owners" fO) (bO : Binds K fdO ["self"] [])
    (FF : FnOk P w K mg base CX0 13 fF fdF ["self"] (spFs K C 4)) (mF : Meth K C "functions" fF) (bF : Binds K fdF ["self"] []) : FnOk P w K mg base CX0 45 f fd [] spKr := by
  refine F.ok scKr (fun vs H Q E h => ?_) (fun cdv A outer s H vs Q E hr h => ?_)
  · obtain ⟨rfl, _⟩ := h
    rfl
  · obtain ⟨rfl, q⟩ := h
    have hu := hr.units
    have r1 := hr.mono (j := 1) (by decide)
    have r2 := hr.mono (j := 2) (by decide)
    have r13 := hr.mono (j := 13) (by decide)
    refine ⟨_, pss_cons (ps_par (i := 0) (j := 1) (by rfl) scKr.nd rfl rfl (by decide) rfl rfl (pa_cons (pe_lst (pa_cons pe_str (pa_cons pe_str (pa_cons pe_str (pa_cons pe_str pa_nil))))) (pa_cons (pe_lst (pa_cons (pe_tup (pa_cons pe_str (pa_cons pe_str pa_nil))) pa_nil)) pa_nil)) (by rfl))
      (pss_cons (ps_par (i := 2) (j := 3) (by rfl) scKr.nd rfl rfl (by decide) rfl rfl (pa_cons (pe_lst (pa_cons (pe_tup (pa_cons pe_str (pa_cons (pv 0) pa_nil))) (pa_cons (pe_tup (pa_cons pe_str (pa_cons (pe_lst pa_nil) pa_nil))) pa_nil)))
          (pa_cons (pe_lst (pa_cons (pe_tup (pa_cons pe_str (pa_cons (pv 1) (pa_cons (pv 1) pa_nil)))) (pa_cons (pe_tup (pa_cons pe_str (pa_cons (pv 1) pa_nil))) pa_nil))) pa_nil)) (by rfl))
      (pss_cons (ps_set (i := 4) scKr.nd rfl (Or.inl rfl) (pe_make M0 FI hr rfl T.mgC bI .nil (no_passes rfl rfl) (pa_cons (pv 0) (pa_cons (pv 2) (pa_cons (pe_lst (pa_cons (pe_tup (pa_cons pe_str (pa_cons pe_str (pa_cons (pv 3) pa_nil)))) pa_nil)) pa_nil)))))
      (pss_cons (ps_set (i := 5) scKr.nd rfl (Or.inl rfl) (pe_meth0 (pv 4) T.cl mF FF r13 bF .nil pass0))
      (pss_cons (ps_expr (pe_bm PySem.F.plainAttrs_list PySem.F.slot_list_append PySem.F.type_list_append mt_append (pe_ix ix_tup (pe_ix ix_list (pe_ix ix_tup (pe_ix ix_list (pv 5) pe_int (fun _ _ => rfl)) pe_int (fun _ _ => rfl)) pe_int (fun _ _ => rfl)) pe_int (fun _ _ => rfl)) (pa_cons pe_non pa_nil)))
      (pss_cons (ps_if (PW.pt (pw_or (pt_cmpR (op_neD hu) (pe_ix ix_tup (pe_ix ix_list (pe_ix ix_tup (pe_ix ix_list (pv 5) pe_int (fun _ _ => rfl)) pe_int (fun _ _ => rfl)) pe_int (fun _ _ => rfl)) pe_int (fun _ _ => rfl)) (pe_lst (pa_cons (pe_tup (pa_cons pe_str (pa_cons pe_str pa_nil))) pa_nil)) (nomark _))
          (pw_or1 (pt_cmpR (op_neD hu) (pe_ix ix_tup (pe_ix ix_list (pe_ix ix_tup (pe_ix ix_list (pv 5) pe_int (fun _ _ => rfl)) pe_int (fun _ _ => rfl)) pe_int (fun _ _ => rfl)) pe_int (fun _ _ => rfl)) (pe_lst (pa_cons (pe_tup (pa_cons pe_str (pa_cons pe_str pa_nil))) pa_nil)) (nomark _))))) (pss_one (ps_ret pe_bl)) pss_nil)
      (pss_one (ps_ret (pe_and (pe_cmpR (op_eqD hu) (pe_meth0 (pv 4) T.cl mR FR r1 bR .nil pass0) (pv 0) (nomark _)) (pe_one (pe_cmpR (op_eqD hu) (pe_meth0 (pv 4) T.cl mO FO r2 bO .nil pass0) (pe_lst (pa_cons (pe_tup (pa_cons pe_str (pa_cons (pv 0) pa_nil))) (pa_cons (pe_tup (pa_cons pe_str (pa_cons (pe_lst pa_nil) pa_nil))) pa_nil))) (nomark _))))))))))), ?_⟩
    refine rd_spar (K := K) (G := emp) (d := strsD krR) (e := .list (bodyD krB)) (ed_lst (da_cons ed_str (da_cons ed_str (da_cons ed_str (da_cons ed_str eda_nil)))) (Nat.le_of_ble_eq_true rfl)) (by
      simp only [krB, bodyD, stpD]
      exact ed_lst (da_cons (ed_tup (da_cons ed_str (da_cons ed_str eda_nil)) (Nat.le_of_ble_eq_true rfl)) eda_nil) (Nat.le_of_ble_eq_true rfl)) ex_emp fun v0 v1 G0 H0 x0 d0 d1 => ?_
    refine rd_spar (K := K) (G := G0) (d := .list (krQ.os.map ownD)) (e := .list (bodyD krS)) (ed_lst (da_cons (ed_tup (da_cons ed_str (da_cons (ed_var rfl d0) eda_nil)) (Nat.le_of_ble_eq_true rfl)) (da_cons (ed_tup (da_cons ed_str (da_cons (ed_lst eda_nil (Nat.le_of_ble_eq_true rfl)) eda_nil)) (Nat.le_of_ble_eq_true rfl)) eda_nil)) (Nat.le_of_ble_eq_true rfl)) (by
      simp only [krS, bodyD, stpD]
      exact ed_lst (da_cons (ed_tup (da_cons ed_str (da_cons (ed_var rfl d1) (da_cons (ed_var rfl d1) eda_nil))) (Nat.le_of_ble_eq_true rfl)) (da_cons (ed_tup (da_cons ed_str (da_cons (ed_var rfl d1) eda_nil)) (Nat.le_of_ble_eq_true rfl)) eda_nil)) (Nat.le_of_ble_eq_true rfl)) x0.gh fun v2 v3 G1 H1 x1 d2 d3 => ?_
    obtain ⟨a0, xs0, rfl, g0, s0⟩ := dq_list d0 rfl
    have e0 := strs_back (ss := krR) s0
    subst e0
    obtain ⟨a2, xs2, rfl, g2, s2⟩ := dq_list d2 rfl
    have x01 := x0.trans x1
    refine ⟨_, rfl, _, rfl, _, rfl, by show 3 ≤ sizeLine; decide, fun t nt => ⟨by show 1 ≤ sizeLine; decide, fun l nl => fun p dx np nd ne => ?_⟩⟩
    have xl : Ex H1 (upd (upd H1 t (.tup [.str "exec", .str "yz", v3])) l (.lst [.ref t])) := (Ex.new nt).trans (Ex.new nl)
    have ht : (upd (upd H1 t (.tup [.str "exec", .str "yz", v3])) l (.lst [.ref t])) t = some (.tup [.str "exec", .str "yz", v3]) := Ex.new nl _ _ upd_same
    refine init_k (q := krQ) np nd ne krGood (xl _ _ (x1.gh _ _ (x1.gg _ _ g0))) (d2.mono (same_ex (x1.gh.trans xl))) (.lst upd_same (.cons (.tup (.inl (.inl ht)) (.cons (.str _) (.cons (.str _) (.cons (d3.mono (same_ex (x1.gh.trans xl))) .nil)))) .nil)) fun H2 M k2 hp => ⟨rfl, ?_⟩
    have hp' := hp
    obtain ⟨dx', b1, b2, b3, i0, i1, i2, i3⟩ := hp
    have kr2 := k2.mh
    refine ⟨_, rfl, p, dx', _, rfl, kr2 _ _ i0, lk_no (by decide +kernel) (by decide +kernel) (by decide +kernel), ?_⟩
    show spFs K C 4 [.ref p] H2 _ _

    refine ⟨p, krQ, rfl, hp'.mono kr2, krGood.le, fun l2 H3 M3 k3 fr => ?_⟩
    obtain ⟨as, fr1, nod, new⟩ := fr
    simp only [krQ, List.map_cons, List.map_nil, fnD, krS, bodyD, stpD] at fr1
    obtain ⟨_, ys0, as0, e, hL, fr2, rfl⟩ := inv_lst fr1
    cases e
    obtain ⟨t0, _, c0, c1, rfl, f0, fr3, rfl⟩ := inv_cons fr2
    obtain ⟨rfl, rfl⟩ := inv_nil fr3
    obtain ⟨t0, ys1, rfl, hT0, fr4⟩ := inv_tup f0
    obtain ⟨n0, _, c2, c3, rfl, _, fr5, rfl⟩ := inv_cons fr4
    obtain ⟨n1, _, c4, c5, rfl, _, fr6, rfl⟩ := inv_cons fr5
    obtain ⟨s0', _, c6, c7, rfl, f1, fr7, rfl⟩ := inv_cons fr6
    obtain ⟨rfl, rfl⟩ := inv_nil fr7
    obtain ⟨s0', ys2, as1, rfl, hS0, fr8, rfl⟩ := inv_lst f1
    obtain ⟨u0, _, c8, c9, rfl, f2, fr9, rfl⟩ := inv_cons fr8
    obtain ⟨u1, _, c10, c11, rfl, f3, fr10, rfl⟩ := inv_cons fr9
    obtain ⟨rfl, rfl⟩ := inv_nil fr10
    obtain ⟨u0, ys3, rfl, hU0, fr11⟩ := inv_tup f2
    obtain ⟨n2, _, c12, c13, rfl, _, fr12, rfl⟩ := inv_cons fr11
    obtain ⟨w1, _, c14, c15, rfl, f4, fr13, rfl⟩ := inv_cons fr12
    obtain ⟨w2, _, c16, c17, rfl, f5, fr14, rfl⟩ := inv_cons fr13
    obtain ⟨rfl, rfl⟩ := inv_nil fr14
    obtain ⟨u1, ys4, rfl, hU1, fr15⟩ := inv_tup f3
    obtain ⟨n3, _, c18, c19, rfl, _, fr16, rfl⟩ := inv_cons fr15
    obtain ⟨w3, _, c20, c21, rfl, f6, fr17, rfl⟩ := inv_cons fr16
    obtain ⟨rfl, rfl⟩ := inv_nil fr17
    obtain ⟨w1, zs1, as2, rfl, hW1, g4, rfl⟩ := inv_lst f4
    have l1 := dqa_len g4.dq
    have m3 := k3.mh
    have e3z : (5 : Nat) < sizeLine := by decide
    have nw1 : H2 w1 = none := new w1 (by simp)
    refine ⟨_, rfl, l2, _, _, _, rfl, rfl, SqL.of (m3 _ _ hL), rfl, t0, _, _, _, rfl, rfl, .inl (.inl (m3 _ _ hT0)), rfl, s0', _, _, _, rfl, rfl, SqL.of (m3 _ _ hS0), rfl, u0, _, _, _, rfl, rfl, .inl (.inl (m3 _ _ hU0)), rfl, .inl ⟨rfl, _, SqL.of (m3 _ _ hW1)⟩, w1, _, .non, rfl, rfl, m3 _ _ hW1, by rw [l1, bodyD_map, List.length_map]; show 1 < sizeLine; decide, ?_⟩
    simp only [List.append_nil] at nod
    obtain ⟨q1, nod⟩ := List.nodup_cons.mp nod
    have n_l : l2 ≠ w1 := fun e => q1 (by rw [e]; simp)
    obtain ⟨q2, nod⟩ := List.nodup_cons.mp (List.nodup_append.mp (List.nodup_append.mp nod).2.1).2.1
    have n_s : s0' ≠ w1 := fun e => q2 (by rw [e]; simp)
    obtain ⟨q3, _, q4⟩ := List.nodup_append.mp nod
    have n_2 : ∀ a ∈ c16, a ≠ w1 := fun a ha e => (List.nodup_append.mp (List.nodup_append.mp q3).2.1).2.2 w1 (List.mem_cons_self ..) a ha e.symm
    have n_3 : ∀ a ∈ c20, a ≠ w1 := fun a ha e => q4 w1 (by simp) a (List.mem_append_right _ ha) e.symm
    have hw3 := m3 _ _ hW1
    have ntup : ∀ {a : Addr} {ys : List V}, H3 a = some (.tup ys) → a ≠ w1 := fun h => ne_of h hw3 (by intro z; cases z)
    have f5' := ((f5.mono m3).agree (H' := upd H3 w1 (.lst (zs1 ++ [.non]))) (fun a ys h => by rw [upd_ne (ntup h)]; exact h) fun a ha => upd_ne (n_2 a ha)).dq
    have f6' := ((f6.mono m3).agree (H' := upd H3 w1 (.lst (zs1 ++ [.non]))) (fun a ys h => by rw [upd_ne (ntup h)]; exact h) fun a ha => upd_ne (n_3 a ha)).dq
    have eH : Ex H2 (upd H3 w1 (.lst (zs1 ++ [.non]))) := fun a o h => by
      rw [upd_ne (ne_of_none h nw1)]
      exact k3.hh a o h
    have pL : (upd H3 w1 (.lst (zs1 ++ [.non]))) l2 = some (.lst [V.ref t0]) := by rw [upd_ne n_l]; exact m3 _ _ hL
    have pT : (upd H3 w1 (.lst (zs1 ++ [.non]))) t0 = some (.tup [n0, n1, .ref s0']) := by rw [upd_ne (ntup (m3 _ _ hT0))]; exact m3 _ _ hT0
    have pS : (upd H3 w1 (.lst (zs1 ++ [.non]))) s0' = some (.lst [.ref u0, .ref u1]) := by rw [upd_ne n_s]; exact m3 _ _ hS0
    have pU : (upd H3 w1 (.lst (zs1 ++ [.non]))) u0 = some (.tup [n2, .ref w1, w2]) := by rw [upd_ne (ntup (m3 _ _ hU0))]; exact m3 _ _ hU0
    have pU1 : (upd H3 w1 (.lst (zs1 ++ [.non]))) u1 = some (.tup [n3, w3]) := by rw [upd_ne (ntup (m3 _ _ hU1))]; exact m3 _ _ hU1
    generalize upd H3 w1 (.lst (zs1 ++ [.non])) = H4 at f5' f6' eH pL pT pS pU pU1 ⊢
    have shB : SeqAt.shaped (.list (bodyD krB)) = true := by decide +kernel
    have eB : PyData.eqv (.list (bodyD krB)) (.list (bodyD krB)) = true := eqv_self (shaped_noDict shB)
    have dB : ∀ {H5 : Hp} {t l : Addr}, H5 t = some (.tup [.str "check", .str "yz"]) → H5 l = some (.lst [.ref t]) → Dq K H5 (.ref l) (.list (bodyD krB)) := fun h1 h2 => by
      simp only [krB, bodyD, stpD]
      exact .lst h2 (.cons (.tup (.inl (.inl h1)) (.cons (.str _) (.cons (.str _) .nil))) .nil)
    refine ⟨_, rfl, l2, _, _, _, rfl, rfl, SqL.of pL, rfl, t0, _, _, _, rfl, rfl, .inl (.inl pT), rfl, s0', _, _, _, rfl, rfl, SqL.of pS, rfl, u0, _, _, _, rfl, rfl, .inl (.inl pU), rfl, by show 2 ≤ sizeLine; decide, fun t5 n5 => ⟨by show 1 ≤ sizeLine; decide, fun l5 m5 => ?_⟩⟩
    have e5 := (Ex.new (o := .tup [.str "check", .str "yz"]) n5).trans (Ex.new (o := .lst [.ref t5]) m5)
    refine ⟨_, _, dp_of (f5'.mono (same_ex e5)) (shaped_noDict shB), dp_of (dB (Ex.new m5 _ _ upd_same) upd_same) (shaped_noDict shB), shB, shB, _, rfl, ?_⟩
    rw [eB]
    refine iteF ?_
    refine ⟨_, rfl, l2, _, _, _, rfl, rfl, SqL.of (e5 _ _ pL), rfl, t0, _, _, _, rfl, rfl, .inl (.inl (e5 _ _ pT)), rfl, s0', _, _, _, rfl, rfl, SqL.of (e5 _ _ pS), rfl, u1, _, _, _, rfl, rfl, .inl (.inl (e5 _ _ pU1)), rfl, by show 2 ≤ sizeLine; decide, fun t6 n6 => ⟨by show 1 ≤ sizeLine; decide, fun l6 m6 => ?_⟩⟩
    have e6 := (Ex.new (o := .tup [.str "check", .str "yz"]) n6).trans (Ex.new (o := .lst [.ref t6]) m6)
    refine ⟨_, _, dp_of (f6'.mono (same_ex (e5.trans e6))) (shaped_noDict shB), dp_of (dB (Ex.new m6 _ _ upd_same) upd_same) (shaped_noDict shB), shB, shB, _, rfl, ?_⟩
    rw [eB]
    refine iteF ?_
    have e56 := eH.trans (e5.trans e6)
    generalize upd (upd (upd (upd H4 t5 (.tup [.str "check", .str "yz"])) l5 (.lst [.ref t5])) t6 (.tup [.str "check", .str "yz"])) l6 (.lst [.ref t6]) = H6 at e56 ⊢
    have hp6 := hp'.mono (kr2.trans e56)
    have r0 : H6 a0 = some (.lst (krR.map V.str)) := e56 _ _ (k2.hh _ _ (xl _ _ (x1.gh _ _ (x1.gg _ _ g0))))
    have shR := krGood.sh.r
    have shO := krGood.sh.o
    refine ⟨_, rfl, p, dx', _, rfl, e56 _ _ (kr2 _ _ i0), lk_no (by decide +kernel) (by decide +kernel) (by decide +kernel), ?_⟩
    show spRi K C [.ref p] H6 _ _

    refine ⟨p, krQ, rfl, hp6, fun l7 H7 M7 k7 hl7 => ⟨_, rfl, ?_⟩⟩
    refine ⟨strsD krR, strsD krR, dp_of (dq_strs (k7.mh _ _ hl7)) (shaped_noDict shR), dp_of (dq_strs (k7.hh _ _ r0)) (shaped_noDict shR), shR, shR, ?_⟩
    have eR : PyData.eqv (strsD krR) (strsD krR) = true := eqv_self (shaped_noDict shR)
    rw [eR]
    refine ⟨_, rfl, iteT ?_⟩
    refine ⟨_, rfl, p, dx', _, rfl, k7.hh _ _ (e56 _ _ (kr2 _ _ i0)), lk_no (by decide +kernel) (by decide +kernel) (by decide +kernel), ?_⟩
    show spOs K C [.ref p] H7 _ _

    refine ⟨p, krQ, rfl, hp6.mono k7.hh, by decide, fun l8 H8 M8 k8 hl8 => ?_⟩
    have r8 := k8.hh _ _ (k7.hh _ _ r0)
    refine ⟨_, rfl, by show 2 ≤ sizeLine; decide, fun t1 z1 => ⟨by show 0 ≤ sizeLine; decide, fun l1 z2 => ⟨by show 2 ≤ sizeLine; decide, fun t2 z3 => ⟨by show 2 ≤ sizeLine; decide, fun l3 z4 => ?_⟩⟩⟩⟩
    have y1 := Ex.new (o := .tup [.str "yz", .ref a0]) z1
    have y2 := Ex.new (o := .lst []) z2
    have y3 := Ex.new (o := .tup [.str "qrstuvwx", .ref l1]) z3
    have y4 := Ex.new (o := .lst [.ref t1, .ref t2]) z4
    have y34 := y3.trans y4
    have y234 := y2.trans y34
    refine ⟨.list (krQ.os.map ownD), .list (krQ.os.map ownD), dp_of (hl8.dq.mono (same_ex (k8.mh.trans (y1.trans y234)))) (shaped_noDict shO), dp_of (.lst upd_same (.cons (.tup (.inl (.inl (y234 _ _ upd_same))) (.cons (.str _) (.cons (dq_strs ((y1.trans y234) _ _ r8)) .nil))) (.cons (.tup (.inl (.inl (y4 _ _ upd_same))) (.cons (.str _) (.cons (.lst (y34 _ _ upd_same) .nil) .nil))) .nil))) (shaped_noDict shO), shO, shO, ?_⟩
    rw [eqv_self (shaped_noDict shO)]
    exact q _ ((x01.hh.trans (xl.trans (k2.hh.trans e56))).trans ((k7.hh.trans k8.hh).trans (y1.trans y234)))
end
end Lx

set_option Elab.async false
set_option maxRecDepth 100000
set_option linter.all false
set_option maxHeartbeats 4000000
namespace Lx
open PySem PySem.Spec PyProof.Rows L2 Evl Kx
section
variable {P : Program} {w : World} {K : PySem.W.Frag} {mg : Str → Option Value} {base : Heap} {f : Addr} {fd : FuncData}
abbrev sFr : Stmt := top 48
theorem scFr : FnScope ["bads", "bad", "one", "good", "step"] [] (defScope sFr) := ⟨rfl, rfl, rfl, by decide +kernel, rfl, by decide +kernel, by decide +kernel⟩
structure spFr (vs : List V) (H : Hp) (Q : VK) (E_ : XK) : Prop where
  mk' ::
  out : vs = [] ∧ Sys H ∧ ∀ H2, Ex H H2 → Q (.bl true) H2
theorem ok_fr {fB fC : Addr} {fdB fdC : FuncData} (F : Fun K "_law_functions_refused" "_law_functions_refused" sFr f fd)
    (FBs : FnOk P w K mg base CX0 1 fB fdB [] (spBs K)) (mBs : mg "_law_bad_steps" = some (.ref fB)) (kBs : PySem.W.keepIn K (.ref fB) = true) (bBs : Binds K fdB [] [])
    (FC : GnOk P w K mg base CX0 45 fC fdC ["rights", "owners", "functions"] (spCa K 12)) (mC : mg "_law_caught" = some (.ref fC)) (kC : PySem.W.keepIn K (.ref fC) = true) (bC : Binds K fdC ["rights", "owners", "functions"] [])
    (mRep : mg "repr" = none) : GnOk P w K mg base CX0 46 f fd [] spFr := by
  refine gn_ok F scFr (fun vs H Q E h => ?_) (fun cdv A outer s H vs Q E hg hr h => ?_)
  · obtain ⟨rfl, _⟩ := h
    rfl
  · obtain ⟨rfl, sy, q⟩ := h
    have hu := hr.units
    have r1 := hr.mono (j := 1) (by decide)
    have hgu : (A.deeper (envOfC "_law_functions_refused" (defScope sFr) s.heap.objs.size f cdv)).guards = some [] := hg
    refine ⟨_, pss_cons (ps_set (i := 0) scFr.nd rfl (Or.inl rfl) (pe_lst (pa_cons pe_non (pa_cons pe_int (pa_cons pe_str (pa_cons (pe_tup (pa_cons pe_str (pa_cons pe_str pa_nil))) (pa_cons (pe_tup (pa_cons pe_str (pa_cons pe_str (pa_cons (pe_lst pa_nil) pa_nil)))) (pa_cons (pe_lst (pa_cons pe_str (pa_cons pe_str (pa_cons (pe_lst pa_nil) pa_nil)))) (pa_cons (pe_tup (pa_cons pe_str (pa_cons pe_str (pa_cons (pe_lst pa_nil) pa_nil)))) pa_nil)))))))))
      (pss_cons (ps_set (i := 0) scFr.nd rfl (Or.inl rfl) (pe_op op_cat (pv 0) (pe_lst (pa_cons (pe_tup (pa_cons pe_str (pa_cons pe_non (pa_cons (pe_lst pa_nil) pa_nil)))) (pa_cons (pe_tup (pa_cons pe_str (pa_cons pe_str (pa_cons pe_non pa_nil)))) (pa_cons (pe_tup (pa_cons pe_str (pa_cons pe_str (pa_cons (pe_tup pa_nil) pa_nil)))) (pa_cons (pe_tup (pa_cons pe_str (pa_cons pe_str (pa_cons (pe_lst pa_nil) (pa_cons pe_int pa_nil))))) (pa_cons pe_dnewK pa_nil))))))))
      (pss_cons (ps_set (i := 0) scFr.nd rfl (Or.inl rfl) (pe_op op_cat (pe_op op_cat (pv 0) (pe_lc (own := [("step", 4)]) (g := gName 4) rfl scFr.nd (pi_list (pe_call0 FBs r1 rfl mBs kBs bBs .nil pass0)) (blkOk_by (own := [("step", 4)]) (N := ["bads", "bad", "one", "good", "step"]) (sc := defScope sFr) (by decide +kernel))
            (fun _ _ _ _ _ => pg_name (i := 4) scFr.nd rfl (Or.inl rfl)) (fun _ _ _ _ _ => pts_nil) (fun _ _ _ _ _ => (pe_tup (pa_cons pe_str (pa_cons pe_str (pa_cons (pe_lst (pa_cons (pv 4) pa_nil)) pa_nil))))))) (pe_lst (pa_cons (pe_tup (pa_cons (pe_lst (pa_cons pe_str pa_nil)) (pa_cons pe_str (pa_cons (pe_lst pa_nil) pa_nil)))) (pa_cons (pe_tup (pa_cons pe_non (pa_cons pe_str (pa_cons (pe_lst pa_nil) pa_nil)))) pa_nil)))))
      (pss_cons (ps_set (i := 0) scFr.nd rfl (Or.inl rfl) (pe_op op_cat (pv 0) (pe_lc (own := [("step", 4)]) (g := gName 4) rfl scFr.nd (pi_list (pe_call0 FBs r1 rfl mBs kBs bBs .nil pass0)) (blkOk_by (own := [("step", 4)]) (N := ["bads", "bad", "one", "good", "step"]) (sc := defScope sFr) (by decide +kernel))
            (fun _ _ _ _ _ => pg_name (i := 4) scFr.nd rfl (Or.inl rfl)) (fun _ _ _ _ _ => pts_nil) (fun _ _ _ _ _ => (pe_tup (pa_cons pe_str (pa_cons pe_str (pa_cons (pe_lst (pa_cons (pv 4) (pa_cons (pe_tup (pa_cons pe_str pa_nil)) pa_nil))) pa_nil))))))))
      (pss_cons (ps_set (i := 0) scFr.nd rfl (Or.inl rfl) (pe_op op_cat (pv 0) (pe_lst (pa_cons (pe_tup (pa_cons pe_str (pa_cons pe_str (pa_cons (pe_lst pa_nil) pa_nil)))) (pa_cons (pe_tup (pa_cons pe_str (pa_cons pe_str (pa_cons (pe_lst pa_nil) pa_nil)))) pa_nil)))))
      (pss_cons (ps_for PassesOwn.never rfl (pi_list (pe_op op_cat (pv 0) (pe_lst (pa_cons (pe_tup (pa_cons pe_str (pa_cons (pe_lst (pa_cons pe_str pa_nil)) (pa_cons (pe_lst pa_nil) pa_nil)))) (pa_cons (pe_tup (pa_cons pe_str (pa_cons pe_str (pa_cons (pe_lst (pa_cons (pe_tup (pa_cons pe_str pa_nil)) pa_nil)) pa_nil)))) pa_nil))))) (pg_name (i := 1) scFr.nd rfl (Or.inl rfl)) (pss_one (ps_if (pt_cmpR (op_neD hu) (pe_callG FC hgu hr rfl mC kC bC .nil pass0 (pa_cons (pe_lst (pa_cons pe_str pa_nil)) (pa_cons (pe_lst (pa_cons (pe_tup (pa_cons pe_str (pa_cons (pe_lst pa_nil) pa_nil))) pa_nil)) (pa_cons (pe_lst (pa_cons (pe_tup (pa_cons pe_str (pa_cons pe_str (pa_cons (pe_lst pa_nil) pa_nil)))) (pa_cons (pv 1) (pa_cons pe_non pa_nil)))) pa_nil)))) (pe_lst (pa_cons pe_int (pa_cons (pe_callB (call_repr hgu hu) (by rfl) mRep PyProof.Rows.boot_repr (pa_cons (pv 1) pa_nil)) pa_nil))) (nomark _)) (pss_one (ps_ret pe_bl)) pss_nil)))
      (pss_cons (ps_par (i := 2) (j := 3) (by rfl) scFr.nd rfl rfl (by decide) rfl rfl (pa_cons (pe_tup (pa_cons pe_str (pa_cons pe_str (pa_cons (pe_lst (pa_cons (pe_tup (pa_cons pe_str (pa_cons pe_str pa_nil))) pa_nil)) pa_nil)))) (pa_cons (pe_lst (pa_cons (pe_tup (pa_cons pe_str (pa_cons (pe_lst pa_nil) pa_nil))) pa_nil)) pa_nil)) (by rfl))
      (pss_cons (ps_for PassesOwn.never rfl (pi_list (pe_lst (pa_cons (pe_tup (pa_cons pe_str (pa_cons pe_str (pa_cons pe_non pa_nil)))) (pa_cons (pe_tup (pa_cons pe_str (pa_cons pe_str (pa_cons (pe_lst pa_nil) pa_nil)))) (pa_cons (pe_tup (pa_cons pe_str (pa_cons pe_non (pa_cons pe_int pa_nil)))) pa_nil))))) (pg_name (i := 1) scFr.nd rfl (Or.inl rfl)) (pss_one (ps_if (pt_cmpR (op_neD hu) (pe_callG FC hgu hr rfl mC kC bC .nil pass0 (pa_cons (pe_lst (pa_cons pe_str pa_nil)) (pa_cons (pv 3) (pa_cons (pe_lst (pa_cons (pv 2) (pa_cons (pv 1) pa_nil))) pa_nil)))) (pe_lst (pa_cons pe_int (pa_cons (pe_callB (call_repr hgu hu) (by rfl) mRep PyProof.Rows.boot_repr (pa_cons (pv 1) pa_nil)) pa_nil))) (nomark _)) (pss_one (ps_ret pe_bl)) pss_nil)))
      (pss_cons (ps_for PassesOwn.never rfl (pi_list (pe_lst (pa_cons (pe_tup (pa_cons pe_str pa_nil)) (pa_cons (pe_tup (pa_cons pe_str (pa_cons pe_str pa_nil))) (pa_cons (pe_lst (pa_cons pe_str (pa_cons pe_str (pa_cons (pe_lst pa_nil) pa_nil)))) (pa_cons (pe_tup (pa_cons pe_str (pa_cons pe_str (pa_cons (pe_lst pa_nil) (pa_cons pe_int pa_nil))))) pa_nil)))))) (pg_name (i := 1) scFr.nd rfl (Or.inl rfl)) (pss_one (ps_if (pt_cmpR (op_neD hu) (pe_callG FC hgu hr rfl mC kC bC .nil pass0 (pa_cons (pe_lst (pa_cons pe_str pa_nil)) (pa_cons (pv 3) (pa_cons (pe_lst (pa_cons (pv 2) (pa_cons (pv 1) pa_nil))) pa_nil)))) (pe_lst (pa_cons pe_int (pa_cons (pe_callB (call_repr hgu hu) (by rfl) mRep PyProof.Rows.boot_repr (pa_cons (pv 2) pa_nil)) pa_nil))) (nomark _)) (pss_one (ps_ret pe_bl)) pss_nil)))
      (pss_one (ps_ret pe_bl)))))))))), ?_⟩
    obtain ⟨so, su, sys⟩ := sy
    have sy0 : Sys (upd emp sysModules (.frz so su)) := ⟨so, su, upd_same⟩
    have e00 : Ex (upd emp sysModules (.frz so su)) H := fun a o h => by
      by_cases z : a = sysModules
      · rw [z, upd_same] at h
        rw [z, sys]
        exact h
      · rw [upd_ne z] at h
        cases h
    generalize upd emp sysModules (.frz so su) = GS at sy0 e00
    refine rd_sset (K := K) (G := GS) (d := .list frA) (ed_lst (da_cons ed_non (da_cons ed_int (da_cons ed_str (da_cons (ed_tup (da_cons ed_str (da_cons ed_str eda_nil)) (Nat.le_of_ble_eq_true rfl)) (da_cons (ed_tup (da_cons ed_str (da_cons ed_str (da_cons (ed_lst eda_nil (Nat.le_of_ble_eq_true rfl)) eda_nil))) (Nat.le_of_ble_eq_true rfl)) (da_cons (ed_lst (da_cons ed_str (da_cons ed_str (da_cons (ed_lst eda_nil (Nat.le_of_ble_eq_true rfl)) eda_nil))) (Nat.le_of_ble_eq_true rfl)) (da_cons (ed_tup (da_cons ed_str (da_cons ed_str (da_cons (ed_lst eda_nil (Nat.le_of_ble_eq_true rfl)) eda_nil))) (Nat.le_of_ble_eq_true rfl)) eda_nil))))))) (Nat.le_of_ble_eq_true rfl)) e00 fun v0 G0 H0 x0 d0 => ?_
    refine rd_sset (K := K) (G := G0) (d := .list frB) (ed_cat (ed_var rfl d0) (ed_lst (da_cons (ed_tup (da_cons ed_str (da_cons ed_non (da_cons (ed_lst eda_nil (Nat.le_of_ble_eq_true rfl)) eda_nil))) (Nat.le_of_ble_eq_true rfl)) (da_cons (ed_tup (da_cons ed_str (da_cons ed_str (da_cons ed_non eda_nil))) (Nat.le_of_ble_eq_true rfl)) (da_cons (ed_tup (da_cons ed_str (da_cons ed_str (da_cons (ed_tup eda_nil (Nat.le_of_ble_eq_true rfl)) eda_nil))) (Nat.le_of_ble_eq_true rfl)) (da_cons (ed_tup (da_cons ed_str (da_cons ed_str (da_cons (ed_lst eda_nil (Nat.le_of_ble_eq_true rfl)) (da_cons ed_int eda_nil)))) (Nat.le_of_ble_eq_true rfl)) (da_cons ed_dict eda_nil))))) (Nat.le_of_ble_eq_true rfl)) (by decide +kernel)) x0.gh fun v1 G1 H1 y1 d1 => ?_
    have x1 := x0.trans y1
    refine rd_sset (K := K) (G := G1) (d := .list frC) (ed_cat (ed_cat (ed_var rfl d1) (ed_lcD frF1 ed_bs (by decide +kernel) (fun _ => rfl) fun e x G1 g1 hm hd => (ed_tup (da_cons ed_str (da_cons ed_str (da_cons (ed_lst (da_cons (ed_var rfl hd) eda_nil) (Nat.le_of_ble_eq_true rfl)) eda_nil))) (Nat.le_of_ble_eq_true rfl))) (by decide +kernel)) (ed_lst (da_cons (ed_tup (da_cons (ed_lst (da_cons ed_str eda_nil) (Nat.le_of_ble_eq_true rfl)) (da_cons ed_str (da_cons (ed_lst eda_nil (Nat.le_of_ble_eq_true rfl)) eda_nil))) (Nat.le_of_ble_eq_true rfl)) (da_cons (ed_tup (da_cons ed_non (da_cons ed_str (da_cons (ed_lst eda_nil (Nat.le_of_ble_eq_true rfl)) eda_nil))) (Nat.le_of_ble_eq_true rfl)) eda_nil)) (Nat.le_of_ble_eq_true rfl)) (by decide +kernel)) x1.gh fun v2 G2 H2 y2 d2 => ?_
    have x2 := x1.trans y2
    refine rd_sset (K := K) (G := G2) (d := .list frD) (ed_cat (ed_var rfl d2) (ed_lcD frF2 ed_bs (by decide +kernel) (fun _ => rfl) fun e x G1 g1 hm hd => (ed_tup (da_cons ed_str (da_cons ed_str (da_cons (ed_lst (da_cons (ed_var rfl hd) (da_cons (ed_tup (da_cons ed_str eda_nil) (Nat.le_of_ble_eq_true rfl)) eda_nil)) (Nat.le_of_ble_eq_true rfl)) eda_nil))) (Nat.le_of_ble_eq_true rfl))) (by decide +kernel)) x2.gh fun v3 G3 H3 y3 d3 => ?_
    have x3 := x2.trans y3
    refine rd_sset (K := K) (G := G3) (d := .list frE) (ed_cat (ed_var rfl d3) (ed_lst (da_cons (ed_tup (da_cons ed_str (da_cons ed_str (da_cons (ed_lst eda_nil (Nat.le_of_ble_eq_true rfl)) eda_nil))) (Nat.le_of_ble_eq_true rfl)) (da_cons (ed_tup (da_cons ed_str (da_cons ed_str (da_cons (ed_lst eda_nil (Nat.le_of_ble_eq_true rfl)) eda_nil))) (Nat.le_of_ble_eq_true rfl)) eda_nil)) (Nat.le_of_ble_eq_true rfl)) (by decide +kernel)) x3.gh fun v4 G4 H4 y4 d4 => ?_
    have x4 := x3.trans y4
    have sy4 : Sys G4 := sy0.mono (same_ex x4.gg)
    refine rd_sfor (K := K) (G := G4) (es := frG) (fun σ' => ∃ o, σ' = [some v4, o, none, none, none]) (ed_cat (ed_var rfl d4) (ed_lst (da_cons (ed_tup (da_cons ed_str (da_cons (ed_lst (da_cons ed_str eda_nil) (Nat.le_of_ble_eq_true rfl)) (da_cons (ed_lst eda_nil (Nat.le_of_ble_eq_true rfl)) eda_nil))) (Nat.le_of_ble_eq_true rfl)) (da_cons (ed_tup (da_cons ed_str (da_cons ed_str (da_cons (ed_lst (da_cons (ed_tup (da_cons ed_str eda_nil) (Nat.le_of_ble_eq_true rfl)) eda_nil) (Nat.le_of_ble_eq_true rfl)) eda_nil))) (Nat.le_of_ble_eq_true rfl)) eda_nil)) (Nat.le_of_ble_eq_true rfl)) (by decide +kernel)) x4.gh ⟨_, rfl⟩ ?_ ?_
    · rintro H5 G5 x5 i d x σ' H' hd hx ⟨o, rfl⟩ e5
      have chk := List.all_eq_true.mp frG_ok d (List.mem_of_getElem? hd)
      simp only [Bool.and_eq_true] at chk
      obtain ⟨⟨c1, c2⟩, c3⟩ := chk
      exact rd_ifF (G := G5) (et_ca (n := 12) (d1 := fr1) (d2 := fr2) (d3 := fr3 d) (flt := .itm 2 1) (ed_lst (da_cons ed_str eda_nil) (Nat.le_of_ble_eq_true rfl)) (ed_lst (da_cons (ed_tup (da_cons ed_str (da_cons (ed_lst eda_nil (Nat.le_of_ble_eq_true rfl)) eda_nil)) (Nat.le_of_ble_eq_true rfl)) eda_nil) (Nat.le_of_ble_eq_true rfl)) (ed_lst (da_cons (ed_tup (da_cons ed_str (da_cons ed_str (da_cons (ed_lst eda_nil (Nat.le_of_ble_eq_true rfl)) eda_nil))) (Nat.le_of_ble_eq_true rfl)) (da_cons (ed_var rfl hx) (da_cons ed_non eda_nil))) (Nat.le_of_ble_eq_true rfl)) (ed_var rfl hx) (sy4.mono (same_ex x5.gg)) (dataOk_of c3) (isF_eq c1) rfl rfl c2) (x5.gh.trans e5) fun H6 e6 => ⟨⟨_, rfl⟩, e5.trans e6⟩
    rintro σ' H' ⟨o, rfl⟩ e
    refine rd_spar (K := K) (G := G4) (d := frOne) (e := frGood) (ed_tup (da_cons ed_str (da_cons ed_str (da_cons (ed_lst (da_cons (ed_tup (da_cons ed_str (da_cons ed_str eda_nil)) (Nat.le_of_ble_eq_true rfl)) eda_nil) (Nat.le_of_ble_eq_true rfl)) eda_nil))) (Nat.le_of_ble_eq_true rfl)) (ed_lst (da_cons (ed_tup (da_cons ed_str (da_cons (ed_lst eda_nil (Nat.le_of_ble_eq_true rfl)) eda_nil)) (Nat.le_of_ble_eq_true rfl)) eda_nil) (Nat.le_of_ble_eq_true rfl)) (x4.gh.trans e) fun one good G5 H5 y5 dO dG => ?_
    have sy5 : Sys G5 := sy4.mono (same_ex y5.gg)
    refine rd_sfor (K := K) (G := G5) (es := frH) (fun σ' => ∃ o, σ' = [some v4, o, some one, some good, none]) (ed_lst (da_cons (ed_tup (da_cons ed_str (da_cons ed_str (da_cons ed_non eda_nil))) (Nat.le_of_ble_eq_true rfl)) (da_cons (ed_tup (da_cons ed_str (da_cons ed_str (da_cons (ed_lst eda_nil (Nat.le_of_ble_eq_true rfl)) eda_nil))) (Nat.le_of_ble_eq_true rfl)) (da_cons (ed_tup (da_cons ed_str (da_cons ed_non (da_cons ed_int eda_nil))) (Nat.le_of_ble_eq_true rfl)) eda_nil))) (Nat.le_of_ble_eq_true rfl)) y5.gh ⟨_, rfl⟩ ?_ ?_
    · rintro H6 G6 x6 i d x σ' H' hd hx ⟨o, rfl⟩ e6
      have chk := List.all_eq_true.mp frH_ok d (List.mem_of_getElem? hd)
      simp only [Bool.and_eq_true] at chk
      obtain ⟨⟨c1, c2⟩, c3⟩ := chk
      exact rd_ifF (G := G6) (et_ca (n := 12) (d1 := fr1) (d2 := frGood) (d3 := .list [frOne, d]) (flt := .itm 2 1) (ed_lst (da_cons ed_str eda_nil) (Nat.le_of_ble_eq_true rfl)) (ed_var rfl (dG.mono (same_ex x6.gg))) (ed_lst (da_cons (ed_var rfl (dO.mono (same_ex x6.gg))) (da_cons (ed_var rfl hx) eda_nil)) (Nat.le_of_ble_eq_true rfl)) (ed_var rfl hx) (sy5.mono (same_ex x6.gg)) (dataOk_of c3) (isF_eq c1) rfl rfl c2) (x6.gh.trans e6) fun H7 e7 => ⟨⟨_, rfl⟩, e6.trans e7⟩
    rintro σ' H6 ⟨o, rfl⟩ e6
    refine rd_sfor (K := K) (G := G5) (es := frI) (fun σ' => ∃ o, σ' = [some v4, o, some one, some good, none]) (ed_lst (da_cons (ed_tup (da_cons ed_str eda_nil) (Nat.le_of_ble_eq_true rfl)) (da_cons (ed_tup (da_cons ed_str (da_cons ed_str eda_nil)) (Nat.le_of_ble_eq_true rfl)) (da_cons (ed_lst (da_cons ed_str (da_cons ed_str (da_cons (ed_lst eda_nil (Nat.le_of_ble_eq_true rfl)) eda_nil))) (Nat.le_of_ble_eq_true rfl)) (da_cons (ed_tup (da_cons ed_str (da_cons ed_str (da_cons (ed_lst eda_nil (Nat.le_of_ble_eq_true rfl)) (da_cons ed_int eda_nil)))) (Nat.le_of_ble_eq_true rfl)) eda_nil)))) (Nat.le_of_ble_eq_true rfl)) (y5.gh.trans e6) ⟨_, rfl⟩ ?_ ?_
    · rintro H7 G7 x7 i d x σ' H' hd hx ⟨o, rfl⟩ e7
      have chk := List.all_eq_true.mp frI_ok d (List.mem_of_getElem? hd)
      simp only [Bool.and_eq_true] at chk
      obtain ⟨⟨c1, c2⟩, c3⟩ := chk
      exact rd_ifF (G := G7) (et_ca (n := 12) (d := frOne) (d1 := fr1) (d2 := frGood) (d3 := .list [frOne, d]) (flt := .itm 2 0) (ed_lst (da_cons ed_str eda_nil) (Nat.le_of_ble_eq_true rfl)) (ed_var rfl (dG.mono (same_ex x7.gg))) (ed_lst (da_cons (ed_var rfl (dO.mono (same_ex x7.gg))) (da_cons (ed_var rfl hx) eda_nil)) (Nat.le_of_ble_eq_true rfl)) (ed_var rfl (dO.mono (same_ex x7.gg))) (sy5.mono (same_ex x7.gg)) (dataOk_of c3) (isF_eq c1) rfl rfl c2) (x7.gh.trans e7) fun H8 e8 => ⟨⟨_, rfl⟩, e7.trans e8⟩
    rintro σ' H7 ⟨o, rfl⟩ e7
    exact q H7 (((x4.hh.trans e).trans y5.hh).trans (e6.trans e7))
end
end Lx

set_option Elab.async false
set_option maxRecDepth 100000
set_option linter.all false
set_option maxHeartbeats 4000000
namespace Lx
open PySem PySem.Spec PyProof.Rows L2 Evl Kx
theorem flt0 {d1 d2 d3 : PyData} (h : sizeF 5 d1 = false) : faultF d1 d2 d3 = some (.lst 0) := by simp only [faultF, h, if_true]
theorem flt1 {d1 d2 d3 : PyData} (h : sizeF 5 d1 = true) (h1 : rBad [] (items d1) = none) (h2 : sizeF 5 d2 = false) : faultF d1 d2 d3 = some (.lst 1) := by simp only [faultF, h, h1, h2, Bool.true_eq_false, if_false, if_true]
theorem flt2 {d1 d2 d3 : PyData} (h : sizeF 5 d1 = true) (h1 : rBad [] (items d1) = none) (h2 : sizeF 5 d2 = true) (h3 : oBad ((items d1).map unS) [] (items d2) = none) (h4 : sizeF 6 d3 = false) : faultF d1 d2 d3 = some (.lst 2) := by
  simp only [faultF, h, h1, h2, h3, h4, Bool.true_eq_false, if_false, if_true]
theorem fit0 {d1 d2 d3 : PyData} {i : Nat} (h : sizeF 5 d1 = true) (h1 : rBad [] (items d1) = some i) : faultF d1 d2 d3 = some (.itm 0 i) := by simp only [faultF, h, h1, Bool.true_eq_false, if_false]
theorem fit1 {d1 d2 d3 : PyData} {i : Nat} (h : sizeF 5 d1 = true) (h1 : rBad [] (items d1) = none) (h2 : sizeF 5 d2 = true) (h3 : oBad ((items d1).map unS) [] (items d2) = some i) : faultF d1 d2 d3 = some (.itm 1 i) := by
  simp only [faultF, h, h1, h2, h3, Bool.true_eq_false, if_false]
structure NoFlt (d1 d2 d3 : PyData) : Prop where
  s1 : sizeF 5 d1 = true
  b1 : rBad [] (items d1) = none
  s2 : sizeF 5 d2 = true
  b2 : oBad ((items d1).map unS) [] (items d2) = none
  s3 : sizeF 6 d3 = true
  b3 : fBad ((items d2).map headS) (namesF (items d3)) ((items d1).map unS) [] (items d3) = none
theorem noFlt {d1 d2 d3 : PyData} (h : faultF d1 d2 d3 = none) : NoFlt d1 d2 d3 := by
  unfold faultF at h
  split at h
  · cases h
  · rename_i s1
    split at h
    · cases h
    · rename_i b1
      split at h
      · cases h
      · rename_i s2
        split at h
        · cases h
        · rename_i b2
          split at h
          · cases h
          · rename_i s3
            split at h
            · cases h
            · rename_i b3
              exact ⟨by simpa using s1, b1, by simpa using s2, b2, by simpa using s3, b3⟩
theorem strs_unS (rs : List Str) : (items (strsD rs)).map unS = rs := by simp [strsD, items, unS, List.map_map, Function.comp_def]
/-- owners that fit stand ahead of what does not -/
theorem oBad_pre {rs : List Str} {r : List PyData} : ∀ {os : List PyData} {kn : List Str}, oBad rs kn os = none → oBad rs kn (os ++ r) = (oBad rs (kn ++ os.map headS) r).map (· + os.length)
  | [], kn, _ => by
    simp only [List.nil_append, List.map_nil, List.append_nil, List.length_nil, Nat.add_zero]
    try cases oBad rs kn r <;> rfl
  | d :: os, kn, h => by
    simp only [oBad] at h
    split at h
    · cases h
    · rename_i h1
      simp only [Option.map_eq_none_iff] at h
      rw [List.cons_append]
      simp only [oBad, h1, if_false]
      rw [oBad_pre h, Option.map_map]
      simp only [List.map_cons, List.length_cons, List.append_assoc, List.cons_append, List.nil_append]
      congr 1
theorem oBad_hit {rs kn : List Str} {d : PyData} {r : List PyData} (h : (!ownerF rs d || kn.any (eqS (.str (headS d)))) = true) : oBad rs kn (d :: r) = some 0 := by simp only [oBad, h, if_true]
theorem own_head (os : List Own) : (os.map ownD).map headS = os.map (·.1) := by simp [List.map_map, Function.comp_def, ownD, headS]
/-- all lists of rights that an owner may have -/
def allSub : List (List Str) := [[]] ++ rights3.map (fun a => [a]) ++ rights3.flatMap (fun a => rights3.map fun b => [a, b]) ++ rights3.flatMap (fun a => rights3.flatMap fun b => rights3.map fun c => [a, b, c])
theorem sub_mem {l : List Str} (hn : l.Nodup) (h : ∀ r ∈ l, r ∈ rights3) : l ∈ allSub := by
  have hl := sub_len hn h
  have h3 : rights3.length = 3 := rfl
  unfold allSub
  match l, h with
  | [], _ => simp
  | [a], h => simp [h a]
  | [a, b], h => simp [h a, h b]
  | [a, b, c], h =>
    refine List.mem_append_right _ (List.mem_flatMap.mpr ⟨a, h a (by simp), List.mem_flatMap.mpr ⟨b, h b (by simp), List.mem_map.mpr ⟨c, h c (by simp), rfl⟩⟩⟩)
  | _ :: _ :: _ :: _ :: _, _ => simp only [List.length_cons] at hl; omega
def ownP (n : Str) (l : List Str) : Bool := okB (ownD (n, l))
theorem all_cut {p : List Str → Bool} {l : List (List Str)} (k : Nat) (h1 : (l.take k).all p = true) (h2 : (l.drop k).all p = true) : l.all p = true := by
  rw [← List.take_append_drop k l, List.all_append, h1, h2]
  rfl
theorem own_0a : ((allSub.take 20).all (ownP (names3.getD 0 ""))) = true := by decide +kernel
theorem own_0b : ((allSub.drop 20).all (ownP (names3.getD 0 ""))) = true := by decide +kernel
theorem own_1a : ((allSub.take 20).all (ownP (names3.getD 1 ""))) = true := by decide +kernel
theorem own_1b : ((allSub.drop 20).all (ownP (names3.getD 1 ""))) = true := by decide +kernel
theorem own_2a : ((allSub.take 20).all (ownP (names3.getD 2 ""))) = true := by decide +kernel
theorem own_2b : ((allSub.drop 20).all (ownP (names3.getD 2 ""))) = true := by decide +kernel
theorem allOwn_ok : (names3.all fun n => allSub.all fun l => okB (ownD (n, l))) = true := by
  show ([names3.getD 0 "", names3.getD 1 "", names3.getD 2 ""].all fun n => allSub.all (ownP n)) = true
  simp only [List.all_cons, List.all_nil, all_cut 20 own_0a own_0b, all_cut 20 own_1a own_1b, all_cut 20 own_2a own_2b, Bool.and_self]
theorem own_okB {rs : List Str} {o : Own} (hr : ∀ r ∈ rs, r ∈ rights3) (h : ownOk rs o) : okB (ownD o) = true := by
  have h1 := List.all_eq_true.mp allOwn_ok o.1 h.1
  exact List.all_eq_true.mp h1 o.2 (sub_mem h.2.1 fun r hr' => hr r (h.2.2 r hr'))
def rfA : List PyData := [.none, .int 3, .str "", .str "Write", .str "abcdefghi", .list [.str "write"], .tuple [.str "write"], .dict [], .bool true, .str "a b", .str "a1", .str "a\n", .str "a_b"]
def rsD (k : Nat) : List PyData := (rights3.take (k + 1)).map PyData.str
def rfA_chk (k : Nat) (d : PyData) : Bool := (rBad [] ((rsD k).take 3 ++ [d, .none]) == some (k + 1)) && (rBad [] ([d] ++ (rsD k).take 2) == some 0) && (rBad [] [d] == some 0) && strOkB d && okB d
theorem all_3 {p : Nat → Bool} (h0 : p 0 = true) (h1 : p 1 = true) (h2 : p 2 = true) : [0, 1, 2].all p = true := by simp only [List.all_cons, List.all_nil, h0, h1, h2, Bool.and_self]
def rfA_okP (k : Nat) : Bool := rfA.all fun d => rfA_chk k d
theorem rfA_ok0 : rfA_okP 0 = true := by decide +kernel
theorem rfA_ok1 : rfA_okP 1 = true := by decide +kernel
theorem rfA_ok2 : rfA_okP 2 = true := by decide +kernel
theorem rfA_ok : ([0, 1, 2].all fun k => rfA.all fun d => rfA_chk k d) = true := all_3 (p := rfA_okP) rfA_ok0 rfA_ok1 rfA_ok2
def rsD_okP (k : Nat) : Bool := (rsD k).all strOkB && (rBad [] ((rsD k).take 3 ++ [(rsD k).getD 0 .none, .none]) == some (k + 1)) && okB ((rsD k).getD 0 .none) && ((rsD k).length == k + 1)
theorem rsD_ok0 : rsD_okP 0 = true := by decide +kernel
theorem rsD_ok1 : rsD_okP 1 = true := by decide +kernel
theorem rsD_ok2 : rsD_okP 2 = true := by decide +kernel
theorem rsD_ok : ([0, 1, 2].all fun k => (rsD k).all strOkB && (rBad [] ((rsD k).take 3 ++ [(rsD k).getD 0 .none, .none]) == some (k + 1)) && okB ((rsD k).getD 0 .none) && ((rsD k).length == k + 1)) = true := all_3 (p := rsD_okP) rsD_ok0 rsD_ok1 rsD_ok2
/-- owners that are refused, whatever the owners -/
def rfB (rs : List PyData) : List PyData := [.none, .int 3, .str "app", .tuple [.str "new"], .tuple [.str "new", .list [], .int 0], .list [.str "new", .list []], .tuple [.str "", .list []], .tuple [.str "New", .list []], .tuple [.none, .list []], .tuple [.str "new", .none]]
def rfC (rs : List PyData) : List PyData := [.tuple [.str "new", .tuple []], .tuple [.str "new", .list [.str "zz"]], .tuple [.str "new", .list (List.replicate 2 [rs.getD 0 .none]).flatten], .tuple [.str "new", .list [.none]], .tuple [.str "new", .list [.list [rs.getD 0 .none]]]]
def rfD (rs : List PyData) : PyData := .tuple [.str "new", .list [rs.getD 0 .none, .str "zz"]]
def rfE : List PyData := [.tuple [.str "a1", .list []], .tuple [.str "a\n", .list []]]
def rfF : List PyData := [.tuple [.list [.str "new"], .list []], .dict [], .tuple [], .tuple [.str "new", .str "write"]]
def rfO_okP (k : Nat) : Bool := (rfB (rsD k) ++ rfC (rsD k) ++ [rfD (rsD k)] ++ rfE ++ rfF).all fun d => !ownerF (rights3.take (k + 1)) d && headOkB d && okB d
theorem rfO_ok0 : rfO_okP 0 = true := by decide +kernel
theorem rfO_ok1 : rfO_okP 1 = true := by decide +kernel
theorem rfO_ok2 : rfO_okP 2 = true := by decide +kernel
theorem rfO_ok : ([0, 1, 2].all fun k => (rfB (rsD k) ++ rfC (rsD k) ++ [rfD (rsD k)] ++ rfE ++ rfF).all fun d => !ownerF (rights3.take (k + 1)) d && headOkB d && okB d) = true := all_3 (p := rfO_okP) rfO_ok0 rfO_ok1 rfO_ok2
end Lx

set_option Elab.async false
set_option maxRecDepth 100000
set_option linter.all false
set_option maxHeartbeats 4000000
namespace Lx
open PySem PySem.Spec PyProof.Rows L2 Evl Kx
def rf8 (rs : List PyData) : List PyData := [.none, (.int 3), (.list []), (.tuple []), (.tuple rs), (.str "rights"), (.dict []), (.bool true)]
def rf8c (k : Nat) (d : PyData) : Bool := okB d && !sizeF 5 d && !sizeF 6 d && (items d).isEmpty
theorem rf8_ok : ([0, 1, 2].all fun k => (rf8 (rsD k)).all (rf8c k)) = true := by decide +kernel
def six6 : List PyData := [(.str "a"), (.str "b"), (.str "c"), (.str "d"), (.str "e"), (.str "f")]
def sevenS : List PyData := [(.str "a"), (.str "b"), (.str "c"), (.str "d"), (.str "e"), (.str "f"), (.str "g")]
def sevenF (e : PyData) : PyData := (.tuple [e, (.str "app"), (.list [])])
def seven7 : List PyData := sevenS.map sevenF
def manyF (e : PyData) : PyData := (.tuple [e, (.list [])])
def many6 : List PyData := six6.map manyF
theorem six_ok : (okB (.list six6) && !sizeF 5 (.list six6) && six6.all strOkB) = true := by decide +kernel
theorem many_ok : (okB (.list many6) && !sizeF 5 (.list many6) && many6.all headOkB) = true := by decide +kernel
theorem seven_ok : (okB (.list seven7) && !sizeF 6 (.list seven7) && seven7.all fun d => headOkB d && decide (d.depth ≤ 13)) = true := by decide +kernel
theorem names3_ok : (names3.all fun n => strOkB (.str n)) = true := by decide +kernel
theorem allSh_ok : (allSub.all fun l => SeqAt.shaped (strsD l)) = true := by decide +kernel
structure RfOk (d : Nat) (q : Prt) (k : Nat) : Prop where
  g : Good 12 d q
  hk : k < 3
  rs : q.rs = rights3.take (k + 1)
  os : OwnsOk q.rs q.os
theorem all3 {p : Nat → Bool} (h : ([0, 1, 2].all p) = true) {k : Nat} (hk : k < 3) : p k = true := List.all_eq_true.mp h k (by
  match k, hk with
  | 0, _ => simp
  | 1, _ => simp
  | 2, _ => simp)
theorem RfOk.rsD {d k : Nat} {q : Prt} (r : RfOk d q k) : strsD q.rs = .list (rsD k) := by rw [r.rs]; rfl
theorem dok_1 {d k : Nat} {q : Prt} (r : RfOk d q k) {d2 d3 : PyData} (h2 : ∀ x ∈ items d2, headOk x) (h3 : ∀ x ∈ items d3, headOk x ∧ x.depth ≤ 12 + 1) : DataOk 12 (strsD q.rs) d2 d3 := ⟨r.g.ok.r, h2, h3⟩
theorem no_items {d : PyData} (h : (items d).isEmpty = true) {P : PyData → Prop} : ∀ x ∈ items d, P x := fun x hx => by
  rw [List.isEmpty_iff.mp h] at hx
  cases hx
theorem none_items {P : PyData → Prop} : ∀ x ∈ items PyData.none, P x := fun x hx => nomatch hx
theorem rd_sif {σ : L2.St} {G H : Hp} {c : TT} {t u : TS} {D : Ends} (h : EvT c σ G false) (e : Ex G H) (q : ∀ H2, Ex H H2 → u D σ H2) : tSeq (tIfS c t tNext) u D σ H := h H e _ fun H2 e2 => q H2 e2
theorem s1_get {k : Nat} (hk : k < 3) (d : PyData) : ((rsD k).take 3 ++ [d, .none]).getD (k + 1) .none = d := by
  match k, hk with
  | 0, _ => rfl
  | 1, _ => rfl
  | 2, _ => rfl
theorem s1_size {k : Nat} (hk : k < 3) (d : PyData) : sizeF 5 (.list ((rsD k).take 3 ++ [d, .none])) = true ∧ sizeF 5 (.list ([d] ++ (rsD k).take 2)) = true := by
  match k, hk with
  | 0, _ => exact ⟨rfl, rfl⟩
  | 1, _ => exact ⟨rfl, rfl⟩
  | 2, _ => exact ⟨rfl, rfl⟩
theorem rs_0 {k : Nat} (hk : k < 3) : (rsD k)[0]? = some ((rsD k).getD 0 .none) := by
  match k, hk with
  | 0, _ => rfl
  | 1, _ => rfl
  | 2, _ => rfl
theorem rs_sub {k : Nat} : ∀ r ∈ rights3.take (k + 1), r ∈ rights3 := fun r h => List.mem_of_mem_take h
theorem rs_strOk {k : Nat} (hk : k < 3) : ∀ x ∈ rsD k, strOk x := fun x hx => by
  have h := all3 rsD_ok hk
  simp only [Bool.and_eq_true] at h
  exact strOk_of (List.all_eq_true.mp h.1.1.1 x hx)
/-- the second of the owners that are refused beside the first -/
def own2 (k : Nat) (o : Own) : PyData := .tuple [.str o.1, bif (!PyData.eqv (strsD o.2) (.list [])) then .list [] else .list ((rsD k).take 1)]
theorem own2_ow {k : Nat} (hk : k < 3) (o : Own) : ∃ l, own2 k o = ownD (o.1, l) ∧ l.Nodup ∧ ∀ r ∈ l, r ∈ rights3.take (k + 1) := by
  unfold own2
  cases PyData.eqv (strsD o.2) (.list []) with
  | false => exact ⟨[], rfl, List.nodup_nil, fun r h => nomatch h⟩
  | true =>
    refine ⟨rights3.take 1, ?_, by decide, fun r hr => ?_⟩
    · match k, hk with
      | 0, _ => rfl
      | 1, _ => rfl
      | 2, _ => rfl
    · have : r = "write" := List.mem_singleton.mp hr
      subst this
      match k, hk with
      | 0, _ => simp [rights3]
      | 1, _ => simp [rights3]
      | 2, _ => simp [rights3]
section
variable {P : Program} {w : World} {K : PySem.W.Frag} {mg : Str → Option Value} {base : Heap} {f : Addr} {fd : FuncData}
abbrev sRf : Stmt := top 47
theorem scRf : FnScope ["parts", "rights", "owners", "functions", "six", "seven", "bad", "door", "lists", "many", "bads", "some", "name"] ["parts"] (defScope sRf) := ⟨rfl, rfl, rfl, by decide +kernel, rfl, by decide +kernel, by decide +kernel⟩
structure spRf (K : PySem.W.Frag) (d : Nat) (vs : List V) (H : Hp) (Q : VK) (E_ : XK) : Prop where
  mk' ::
  out : ∃ (pp : Addr) (G : Hp) (q : Prt) (k : Nat), vs = [.ref pp] ∧ Ex G H ∧ Sys G ∧ Dq K G (.ref pp) (prtD q) ∧ RfOk d q k ∧ ∀ H2, Ex H H2 → Q (.bl true) H2
theorem ok_rf {d : Nat} {fC fF : Addr} {fdC fdF : FuncData} (F : Fun K "_law_refused" "_law_refused" sRf f fd)
    (FC : GnOk P w K mg base CX0 45 fC fdC ["rights", "owners", "functions"] (spCa K 12)) (mC : mg "_law_caught" = some (.ref fC)) (kC : PySem.W.keepIn K (.ref fC) = true) (bC : Binds K fdC ["rights", "owners", "functions"] [])
    (FF : GnOk P w K mg base CX0 46 fF fdF [] spFr) (mF : mg "_law_functions_refused" = some (.ref fF)) (kF : PySem.W.keepIn K (.ref fF) = true) (bF : Binds K fdF [] [])
    (mRep : mg "repr" = none) (mT : mg "tuple" = none) (mRng : mg "range" = none) : GnOk P w K mg base CX0 47 f fd ["parts"] (spRf K d) := by
  refine gn_ok F scRf (fun vs H Q E h => ?_) (fun cdv A outer s H vs Q E hg hr h => ?_)
  · obtain ⟨_, _, _, _, rfl, _⟩ := h
    rfl
  · obtain ⟨pp, G, q, k, rfl, eG, sy, hp, r, fin⟩ := h
    have hu := hr.units
    have r45 := hr.mono (j := 45) (by decide)
    have hgu : (A.deeper (envOfC "_law_refused" (defScope sRf) s.heap.objs.size f cdv)).guards = some [] := hg
    refine ⟨_, pss_cons (ps_asg (pv 0) (pg_unl rfl (pgs_cons (pg_name (i := 1) scRf.nd rfl (Or.inl rfl)) (pgs_cons (pg_name (i := 2) scRf.nd rfl (Or.inl rfl)) (pgs_cons (pg_name (i := 3) scRf.nd rfl (Or.inl rfl)) pgs_nil)))))
      (pss_cons (ps_par (i := 4) (j := 5) (by rfl) scRf.nd rfl rfl (by decide) rfl rfl (pa_cons (pe_lst (pa_cons pe_str (pa_cons pe_str (pa_cons pe_str (pa_cons pe_str (pa_cons pe_str (pa_cons pe_str pa_nil))))))) (pa_cons (pe_lc (own := [("name", 12)]) (g := gName 12) rfl scRf.nd (pi_list (pe_lst (pa_cons pe_str (pa_cons pe_str (pa_cons pe_str (pa_cons pe_str (pa_cons pe_str (pa_cons pe_str (pa_cons pe_str pa_nil))))))))) (blkOk_by (own := [("name", 12)]) (N := ["parts", "rights", "owners", "functions", "six", "seven", "bad", "door", "lists", "many", "bads", "some", "name"]) (sc := defScope sRf) (by decide +kernel))
            (fun _ _ _ _ _ => pg_name (i := 12) scRf.nd rfl (Or.inl rfl)) (fun _ _ _ _ _ => pts_nil) (fun _ _ _ _ _ => (pe_tup (pa_cons (pv 12) (pa_cons pe_str (pa_cons (pe_lst pa_nil) pa_nil)))))) pa_nil)) (by rfl))
      (pss_cons (ps_for PassesOwn.never rfl (pi_list (pe_lst (pa_cons pe_non (pa_cons pe_int (pa_cons (pe_lst pa_nil) (pa_cons (pe_tup pa_nil) (pa_cons (pe_tupleOf (by rfl) mT (pv 1)) (pa_cons pe_str (pa_cons pe_dnewK (pa_cons pe_bl pa_nil)))))))))) (pg_name (i := 6) scRf.nd rfl (Or.inl rfl)) (pss_one (ps_for PassesOwn.never rfl (pi_range1 (by rfl) mRng (pa_cons pe_int pa_nil)) (pg_name (i := 7) scRf.nd rfl (Or.inl rfl)) (pss_cons (ps_set (i := 8) scRf.nd rfl (Or.inl rfl) (pe_op op_cat (pe_op op_cat (pe_slice sl_list (pe_lst (pa_cons (pv 1) (pa_cons (pv 2) (pa_cons (pv 3) pa_nil)))) po_none (po_some (pv 7))) (pe_lst (pa_cons (pv 6) pa_nil))) (pe_op op_rep (pe_lst (pa_cons pe_non pa_nil)) (pe_op op_sub pe_int (pv 7))))) (pss_one (ps_if (pt_cmpR (op_neD hu) (pe_callG FC hgu r45 rfl mC kC bC .nil pass0 (pa_cons (pe_ix ix_list (pv 8) pe_int (fun _ _ => rfl)) (pa_cons (pe_ix ix_list (pv 8) pe_int (fun _ _ => rfl)) (pa_cons (pe_ix ix_list (pv 8) pe_int (fun _ _ => rfl)) pa_nil)))) (pe_lst (pa_cons pe_int (pa_cons (pe_callB (call_repr hgu hu) (by rfl) mRep PyProof.Rows.boot_repr (pa_cons (pv 6) pa_nil)) pa_nil))) (nomark _)) (pss_one (ps_ret pe_bl)) pss_nil))))))
      (pss_cons (ps_setLc (i := 9) (own := [("name", 12)]) (g := gName 12) rfl scRf.nd rfl rfl (sw_true rfl rfl rfl (by decide +kernel)) (pi_list (pv 4)) (blkOk_by (own := [("name", 12)]) (N := ["parts", "rights", "owners", "functions", "six", "seven", "bad", "door", "lists", "many", "bads", "some", "name"]) (sc := defScope sRf) (by decide +kernel))
            (fun _ _ _ _ _ => pg_name (i := 12) scRf.nd rfl (Or.inl rfl)) (fun _ _ _ _ _ => pts_nil) (fun _ _ _ _ _ => (pe_tup (pa_cons (pv 12) (pa_cons (pe_lst pa_nil) pa_nil)))))
      (pss_cons (ps_if (PW.pt (pw_or (pt_cmpR (op_neD hu) (pe_callG FC hgu r45 rfl mC kC bC .nil pass0 (pa_cons (pv 4) (pa_cons pe_non (pa_cons pe_non pa_nil)))) (pe_lst (pa_cons pe_int (pa_cons (pe_callB (call_repr hgu hu) (by rfl) mRep PyProof.Rows.boot_repr (pa_cons (pv 4) pa_nil)) pa_nil))) (nomark _)) (pw_or1 (pt_cmpR (op_neD hu) (pe_callG FC hgu r45 rfl mC kC bC .nil pass0 (pa_cons (pv 1) (pa_cons (pv 9) (pa_cons pe_non pa_nil)))) (pe_lst (pa_cons pe_int (pa_cons (pe_callB (call_repr hgu hu) (by rfl) mRep PyProof.Rows.boot_repr (pa_cons (pv 9) pa_nil)) pa_nil))) (nomark _))))) (pss_one (ps_ret pe_bl)) pss_nil)
      (pss_cons (ps_if (pt_cmpR (op_neD hu) (pe_callG FC hgu r45 rfl mC kC bC .nil pass0 (pa_cons (pv 1) (pa_cons (pv 2) (pa_cons (pv 5) pa_nil)))) (pe_lst (pa_cons pe_int (pa_cons (pe_callB (call_repr hgu hu) (by rfl) mRep PyProof.Rows.boot_repr (pa_cons (pv 5) pa_nil)) pa_nil))) (nomark _)) (pss_one (ps_ret pe_bl)) pss_nil)
      (pss_cons (ps_set (i := 10) scRf.nd rfl (Or.inl rfl) (pe_lst (pa_cons pe_non (pa_cons pe_int (pa_cons pe_str (pa_cons pe_str (pa_cons pe_str (pa_cons (pe_lst (pa_cons pe_str pa_nil)) (pa_cons (pe_tup (pa_cons pe_str pa_nil)) (pa_cons pe_dnewK (pa_cons pe_bl (pa_cons pe_str (pa_cons pe_str (pa_cons pe_str (pa_cons pe_str pa_nil)))))))))))))))
      (pss_cons (ps_for PassesOwn.never rfl (pi_list (pv 10)) (pg_name (i := 6) scRf.nd rfl (Or.inl rfl)) (pss_one (ps_for PassesOwn.never rfl (pi_list (pe_lst (pa_cons (pe_op op_cat (pe_slice sl_list (pv 1) po_none (po_some pe_int)) (pe_lst (pa_cons (pv 6) (pa_cons pe_non pa_nil)))) (pa_cons (pe_op op_cat (pe_lst (pa_cons (pv 6) pa_nil)) (pe_slice sl_list (pv 1) po_none (po_some pe_int))) (pa_cons (pe_lst (pa_cons (pv 6) pa_nil)) pa_nil))))) (pg_name (i := 11) scRf.nd rfl (Or.inl rfl)) (pss_one (ps_if (pt_cmpR (op_neD hu) (pe_callG FC hgu r45 rfl mC kC bC .nil pass0 (pa_cons (pv 11) (pa_cons pe_non (pa_cons pe_non pa_nil)))) (pe_lst (pa_cons pe_int (pa_cons (pe_callB (call_repr hgu hu) (by rfl) mRep PyProof.Rows.boot_repr (pa_cons (pv 6) pa_nil)) pa_nil))) (nomark _)) (pss_one (ps_ret pe_bl)) pss_nil)))))
      (pss_cons (ps_if (pt_cmpR (op_neD hu) (pe_callG FC hgu r45 rfl mC kC bC .nil pass0 (pa_cons (pe_op op_cat (pe_slice sl_list (pv 1) po_none (po_some pe_int)) (pe_lst (pa_cons (pe_ix ix_list (pv 1) pe_int (fun _ _ => rfl)) (pa_cons pe_non pa_nil)))) (pa_cons pe_non (pa_cons pe_non pa_nil)))) (pe_lst (pa_cons pe_int (pa_cons (pe_callB (call_repr hgu hu) (by rfl) mRep PyProof.Rows.boot_repr (pa_cons (pe_ix ix_list (pv 1) pe_int (fun _ _ => rfl)) pa_nil)) pa_nil))) (nomark _)) (pss_one (ps_ret pe_bl)) pss_nil)
      (pss_cons (ps_set (i := 10) scRf.nd rfl (Or.inl rfl) (pe_lst (pa_cons pe_non (pa_cons pe_int (pa_cons pe_str (pa_cons (pe_tup (pa_cons pe_str pa_nil)) (pa_cons (pe_tup (pa_cons pe_str (pa_cons (pe_lst pa_nil) (pa_cons pe_int pa_nil)))) (pa_cons (pe_lst (pa_cons pe_str (pa_cons (pe_lst pa_nil) pa_nil))) (pa_cons (pe_tup (pa_cons pe_str (pa_cons (pe_lst pa_nil) pa_nil))) (pa_cons (pe_tup (pa_cons pe_str (pa_cons (pe_lst pa_nil) pa_nil))) (pa_cons (pe_tup (pa_cons pe_non (pa_cons (pe_lst pa_nil) pa_nil))) (pa_cons (pe_tup (pa_cons pe_str (pa_cons pe_non pa_nil))) pa_nil))))))))))))
      (pss_cons (ps_set (i := 10) scRf.nd rfl (Or.inl rfl) (pe_op op_cat (pv 10) (pe_lst (pa_cons (pe_tup (pa_cons pe_str (pa_cons (pe_tup pa_nil) pa_nil))) (pa_cons (pe_tup (pa_cons pe_str (pa_cons (pe_lst (pa_cons pe_str pa_nil)) pa_nil))) (pa_cons (pe_tup (pa_cons pe_str (pa_cons (pe_op op_rep (pe_lst (pa_cons (pe_ix ix_list (pv 1) pe_int (fun _ _ => rfl)) pa_nil)) pe_int) pa_nil))) (pa_cons (pe_tup (pa_cons pe_str (pa_cons (pe_lst (pa_cons pe_non pa_nil)) pa_nil))) (pa_cons (pe_tup (pa_cons pe_str (pa_cons (pe_lst (pa_cons (pe_lst (pa_cons (pe_ix ix_list (pv 1) pe_int (fun _ _ => rfl)) pa_nil)) pa_nil)) pa_nil))) pa_nil))))))))
      (pss_cons (ps_set (i := 10) scRf.nd rfl (Or.inl rfl) (pe_op op_cat (pv 10) (pe_lst (pa_cons (pe_ix ix_list (pv 2) pe_int (fun _ _ => rfl)) (pa_cons (pe_tup (pa_cons (pe_ix ix_tup (pe_ix ix_list (pv 2) pe_int (fun _ _ => rfl)) pe_int (fun _ _ => rfl)) (pa_cons (pe_ifExp (pt_cmpR (op_neD hu) (pe_ix ix_tup (pe_ix ix_list (pv 2) pe_int (fun _ _ => rfl)) pe_int (fun _ _ => rfl)) (pe_lst pa_nil) (nomark _)) (pe_lst pa_nil) (pe_slice sl_list (pv 1) po_none (po_some pe_int))) pa_nil))) (pa_cons (pe_tup (pa_cons pe_str (pa_cons (pe_lst (pa_cons (pe_ix ix_list (pv 1) pe_int (fun _ _ => rfl)) (pa_cons pe_str pa_nil))) pa_nil))) pa_nil))))))
      (pss_cons (ps_set (i := 10) scRf.nd rfl (Or.inl rfl) (pe_op op_cat (pv 10) (pe_lst (pa_cons (pe_tup (pa_cons pe_str (pa_cons (pe_lst pa_nil) pa_nil))) (pa_cons (pe_tup (pa_cons pe_str (pa_cons (pe_lst pa_nil) pa_nil))) pa_nil)))))
      (pss_cons (ps_for PassesOwn.never rfl (pi_list (pe_op op_cat (pv 10) (pe_lst (pa_cons (pe_tup (pa_cons (pe_lst (pa_cons pe_str pa_nil)) (pa_cons (pe_lst pa_nil) pa_nil))) (pa_cons pe_dnewK (pa_cons (pe_tup pa_nil) (pa_cons (pe_tup (pa_cons pe_str (pa_cons pe_str pa_nil))) pa_nil))))))) (pg_name (i := 6) scRf.nd rfl (Or.inl rfl)) (pss_one (ps_if (pt_cmpR (op_neD hu) (pe_callG FC hgu r45 rfl mC kC bC .nil pass0 (pa_cons (pv 1) (pa_cons (pe_op op_cat (pe_slice sl_list (pv 2) po_none (po_some pe_int)) (pe_lst (pa_cons (pv 6) (pa_cons pe_non pa_nil)))) (pa_cons pe_non pa_nil)))) (pe_lst (pa_cons pe_int (pa_cons (pe_callB (call_repr hgu hu) (by rfl) mRep PyProof.Rows.boot_repr (pa_cons (pv 6) pa_nil)) pa_nil))) (nomark _)) (pss_one (ps_ret pe_bl)) pss_nil)))
      (pss_one (ps_ret (pe_callG0 FF hgu hr rfl mF kF bF .nil pass0)))))))))))))))), ?_⟩
    obtain ⟨a1, a2, a3, h0, h1, h2, h3⟩ := prt_at hp
    have nf := noFlt r.g.no
    have hR : Dq K G (.ref a1) (.list (rsD k)) := by rw [← r.rsD]; exact dq_strs h1
    refine ⟨_, rfl, pp, _, rfl, SqL.of (eG _ _ h0), rfl, _, _, rfl, _, _, rfl, _, _, rfl, rfl, ?_⟩
    refine rd_nx ?_
    refine rd_spar (K := K) (G := G) (d := .list six6) (e := .list seven7) (ed_lst (da_cons ed_str (da_cons ed_str (da_cons ed_str (da_cons ed_str (da_cons ed_str (da_cons ed_str eda_nil)))))) (Nat.le_of_ble_eq_true rfl)) (ed_lcD sevenF (ed_lst (da_cons ed_str (da_cons ed_str (da_cons ed_str (da_cons ed_str (da_cons ed_str (da_cons ed_str (da_cons ed_str eda_nil))))))) (Nat.le_of_ble_eq_true rfl)) (by decide +kernel) (fun _ => rfl) fun e x G1 g1 hm hd => (ed_tup (da_cons (ed_var rfl hd) (da_cons ed_str (da_cons (ed_lst eda_nil (Nat.le_of_ble_eq_true rfl)) eda_nil))) (Nat.le_of_ble_eq_true rfl))) eG fun v6 v7 G0 H0 x0 d6 d7 => ?_
    have nfk : NoFlt (.list (rsD k)) (.list (q.os.map ownD)) (.list (q.fs.map fnD)) := by rw [← r.rsD]; exact nf
    have nfd : DataOk 12 (.list (rsD k)) (.list (q.os.map ownD)) (.list (q.fs.map fnD)) := by rw [← r.rsD]; exact r.g.ok
    have hR0 := hR.mono (same_ex x0.gg)
    have hO0 := h2.mono (same_ex x0.gg)
    have hF0 := h3.mono (same_ex x0.gg)
    have sy0 := sy.mono (same_ex x0.gg)
    refine rd_sfor (K := K) (G := G0) (es := rf8 (rsD k)) (fun σ' => ∃ o6 o7 o8, σ' = [some (.ref pp), some (.ref a1), some (.ref a2), some (.ref a3), some v6, some v7, o6, o7, o8, none, none, none, none]) (ed_lst (da_cons ed_non (da_cons ed_int (da_cons (ed_lst eda_nil (Nat.le_of_ble_eq_true rfl)) (da_cons (ed_tup eda_nil (Nat.le_of_ble_eq_true rfl)) (da_cons (ed_tupOf (ed_var rfl hR0)) (da_cons ed_str (da_cons ed_dict (da_cons ed_bl eda_nil)))))))) (Nat.le_of_ble_eq_true rfl)) x0.gh ⟨_, _, _, rfl⟩ ?_ ?_
    · rintro H1 G1 x1 i d x σ' H' hd hx ⟨o6, o7, o8, rfl⟩ e1
      have chk := List.all_eq_true.mp (all3 rf8_ok r.hk) d (List.mem_of_getElem? hd)
      simp only [rf8c, Bool.and_eq_true, Bool.not_eq_true'] at chk
      obtain ⟨⟨⟨c1, c2⟩, c3⟩, c4⟩ := chk
      have hR1 := hR0.mono (same_ex x1.gg)
      have hO1 := hO0.mono (same_ex x1.gg)
      have hF1 := hF0.mono (same_ex x1.gg)
      have sy1 := sy0.mono (same_ex x1.gg)
      refine rd_rng (n := 3) (fun σ'' => ∃ o7 o8, σ'' = [some (.ref pp), some (.ref a1), some (.ref a2), some (.ref a3), some v6, some v7, some x, o7, o8, none, none, none, none]) rfl (by decide) ⟨_, _, rfl⟩ ?_ ?_
      · rintro door σ'' H2 hdoor ⟨o7, o8, rfl⟩ e2
        match door, hdoor with
        | 0, _ =>
          refine rd_sset (K := K) (G := G1) (d := .list (([.list (rsD k), .list (q.os.map ownD), .list (q.fs.map fnD)].take 0 ++ [d]) ++ (List.replicate 2 [PyData.none]).flatten)) (ed_cat (ed_cat (ed_take 0 (ed_lst (da_cons (ed_var rfl hR1) (da_cons (ed_var rfl hO1) (da_cons (ed_var rfl hF1) eda_nil))) (Nat.le_of_ble_eq_true rfl)) (fun _ _ => eo_some (ev_var rfl))) (ed_lst (da_cons (ed_var rfl hx) eda_nil) (Nat.le_of_ble_eq_true rfl)) (Nat.le_of_ble_eq_true rfl)) (ed_rep (n := 2) (ed_lst (da_cons ed_non eda_nil) (Nat.le_of_ble_eq_true rfl)) (ev_is (ev_op ev_c (ev_var rfl) (fun H1 e Q q => ⟨_, _, rfl, rfl, q H1 (Ex.refl H1)⟩)) rfl) (by decide) (by decide)) (Nat.le_of_ble_eq_true rfl)) (x1.gh.trans (e1.trans e2)) fun v8 G3 H3 x3 d8 => ?_
          exact rd_ifF (G := G3) (et_ca (n := 12) (d := d) (flt := .lst 0) (ed_ixL (i := 0) (ed_var rfl d8) ev_c rfl) (ed_ixL (i := 1) (ed_var rfl d8) ev_c rfl) (ed_ixL (i := 2) (ed_var rfl d8) ev_c rfl) (ed_var rfl (hx.mono (same_ex x3.gg))) (sy1.mono (same_ex x3.gg)) ⟨no_items c4, none_items, none_items⟩ (flt0 c2) rfl rfl c1) x3.gh fun H4 e4 => ⟨⟨_, _, rfl⟩, e2.trans (x3.hh.trans e4)⟩
        | 1, _ =>
          refine rd_sset (K := K) (G := G1) (d := .list (([.list (rsD k), .list (q.os.map ownD), .list (q.fs.map fnD)].take 1 ++ [d]) ++ (List.replicate 1 [PyData.none]).flatten)) (ed_cat (ed_cat (ed_take 1 (ed_lst (da_cons (ed_var rfl hR1) (da_cons (ed_var rfl hO1) (da_cons (ed_var rfl hF1) eda_nil))) (Nat.le_of_ble_eq_true rfl)) (fun _ _ => eo_some (ev_var rfl))) (ed_lst (da_cons (ed_var rfl hx) eda_nil) (Nat.le_of_ble_eq_true rfl)) (Nat.le_of_ble_eq_true rfl)) (ed_rep (n := 1) (ed_lst (da_cons ed_non eda_nil) (Nat.le_of_ble_eq_true rfl)) (ev_is (ev_op ev_c (ev_var rfl) (fun H1 e Q q => ⟨_, _, rfl, rfl, q H1 (Ex.refl H1)⟩)) rfl) (by decide) (by decide)) (Nat.le_of_ble_eq_true rfl)) (x1.gh.trans (e1.trans e2)) fun v8 G3 H3 x3 d8 => ?_
          exact rd_ifF (G := G3) (et_ca (n := 12) (d := d) (flt := .lst 1) (ed_ixL (i := 0) (ed_var rfl d8) ev_c rfl) (ed_ixL (i := 1) (ed_var rfl d8) ev_c rfl) (ed_ixL (i := 2) (ed_var rfl d8) ev_c rfl) (ed_var rfl (hx.mono (same_ex x3.gg))) (sy1.mono (same_ex x3.gg)) ⟨nfd.r, no_items c4, none_items⟩ (flt1 nfk.s1 nfk.b1 c2) rfl rfl c1) x3.gh fun H4 e4 => ⟨⟨_, _, rfl⟩, e2.trans (x3.hh.trans e4)⟩
        | 2, _ =>
          refine rd_sset (K := K) (G := G1) (d := .list (([.list (rsD k), .list (q.os.map ownD), .list (q.fs.map fnD)].take 2 ++ [d]) ++ (List.replicate 0 [PyData.none]).flatten)) (ed_cat (ed_cat (ed_take 2 (ed_lst (da_cons (ed_var rfl hR1) (da_cons (ed_var rfl hO1) (da_cons (ed_var rfl hF1) eda_nil))) (Nat.le_of_ble_eq_true rfl)) (fun _ _ => eo_some (ev_var rfl))) (ed_lst (da_cons (ed_var rfl hx) eda_nil) (Nat.le_of_ble_eq_true rfl)) (Nat.le_of_ble_eq_true rfl)) (ed_rep (n := 0) (ed_lst (da_cons ed_non eda_nil) (Nat.le_of_ble_eq_true rfl)) (ev_is (ev_op ev_c (ev_var rfl) (fun H1 e Q q => ⟨_, _, rfl, rfl, q H1 (Ex.refl H1)⟩)) rfl) (by decide) (by decide)) (Nat.le_of_ble_eq_true rfl)) (x1.gh.trans (e1.trans e2)) fun v8 G3 H3 x3 d8 => ?_
          exact rd_ifF (G := G3) (et_ca (n := 12) (d := d) (flt := .lst 2) (ed_ixL (i := 0) (ed_var rfl d8) ev_c rfl) (ed_ixL (i := 1) (ed_var rfl d8) ev_c rfl) (ed_ixL (i := 2) (ed_var rfl d8) ev_c rfl) (ed_var rfl (hx.mono (same_ex x3.gg))) (sy1.mono (same_ex x3.gg)) ⟨nfd.r, nfd.o, no_items c4⟩ (flt2 nfk.s1 nfk.b1 nfk.s2 nfk.b2 c3) rfl rfl c1) x3.gh fun H4 e4 => ⟨⟨_, _, rfl⟩, e2.trans (x3.hh.trans e4)⟩
      · rintro σ'' H2 ⟨o7, o8, rfl⟩ e2
        exact ⟨⟨_, _, _, rfl⟩, e1.trans e2⟩
    rintro σ' H1 ⟨o6, o7, o8, rfl⟩ e1
    refine rd_sset (K := K) (G := G0) (d := .list many6) (ed_lcD manyF (ed_var rfl d6) (by decide +kernel) (fun _ => rfl) fun e x G1 g1 hm hd => (ed_tup (da_cons (ed_var rfl hd) (da_cons (ed_lst eda_nil (Nat.le_of_ble_eq_true rfl)) eda_nil)) (Nat.le_of_ble_eq_true rfl))) (x0.gh.trans e1) fun v9 G2 H2 x2 d9 => ?_
    have sy2 := sy0.mono (same_ex x2.gg)
    have hR2 := hR0.mono (same_ex x2.gg)
    have hO2 := hO0.mono (same_ex x2.gg)
    have d62 := d6.mono (same_ex x2.gg)
    have d72 := d7.mono (same_ex x2.gg)
    have c6 := six_ok
    simp only [Bool.and_eq_true, Bool.not_eq_true'] at c6
    have c9 := many_ok
    simp only [Bool.and_eq_true, Bool.not_eq_true'] at c9
    have c7 := seven_ok
    simp only [Bool.and_eq_true, Bool.not_eq_true'] at c7
    refine rd_sif (G := G2) (et_or (et_ca (n := 12) (d := .list six6) (d1 := .list six6) (d2 := .none) (d3 := .none) (flt := .lst 0) (ed_var rfl d62) ed_non ed_non (ed_var rfl d62) sy2 ⟨fun x hx => strOk_of (List.all_eq_true.mp c6.2 x hx), none_items, none_items⟩ (flt0 c6.1.2) rfl rfl c6.1.1)
      (fun _ => et_ca (n := 12) (d := .list many6) (d1 := .list (rsD k)) (d2 := .list many6) (d3 := .none) (flt := .lst 1) (ed_var rfl hR2) (ed_var rfl d9) ed_non (ed_var rfl d9) sy2 ⟨nfd.r, fun x hx => headOk_of (List.all_eq_true.mp c9.2 x hx), none_items⟩ (flt1 nfk.s1 nfk.b1 c9.1.2) rfl rfl c9.1.1)) x2.gh fun H3 e3 => ?_
    refine rd_sif (G := G2) (et_ca (n := 12) (d := .list seven7) (d1 := .list (rsD k)) (d2 := .list (q.os.map ownD)) (d3 := .list seven7) (flt := .lst 2) (ed_var rfl hR2) (ed_var rfl hO2) (ed_var rfl d72) (ed_var rfl d72) sy2 ⟨nfd.r, nfd.o, fun x hx => by
        have := List.all_eq_true.mp c7.2 x hx
        simp only [Bool.and_eq_true, decide_eq_true_eq] at this
        exact ⟨headOk_of this.1, this.2⟩⟩ (flt2 nfk.s1 nfk.b1 nfk.s2 nfk.b2 c7.1.2) rfl rfl c7.1.1) (x2.gh.trans e3) fun H4 e4 => ?_
    refine rd_sset (K := K) (G := G2) (d := .list rfA) (ed_lst (da_cons ed_non (da_cons ed_int (da_cons ed_str (da_cons ed_str (da_cons ed_str (da_cons (ed_lst (da_cons ed_str eda_nil) (Nat.le_of_ble_eq_true rfl)) (da_cons (ed_tup (da_cons ed_str eda_nil) (Nat.le_of_ble_eq_true rfl)) (da_cons ed_dict (da_cons ed_bl (da_cons ed_str (da_cons ed_str (da_cons ed_str (da_cons ed_str eda_nil))))))))))))) (Nat.le_of_ble_eq_true rfl)) (x2.gh.trans (e3.trans e4)) fun v10 G5 H5 x5 d10 => ?_
    have hR5 := hR2.mono (same_ex x5.gg)
    have hO5 := hO2.mono (same_ex x5.gg)
    have sy5 := sy2.mono (same_ex x5.gg)
    refine rd_sfor (K := K) (G := G5) (es := rfA) (fun σ' => ∃ o6 o11, σ' = [some (.ref pp), some (.ref a1), some (.ref a2), some (.ref a3), some v6, some v7, o6, o7, o8, some v9, some v10, o11, none]) (ed_var rfl d10) x5.gh ⟨_, _, rfl⟩ ?_ ?_
    · rintro H6 G6 x6 i d x σ' H' hd hx ⟨o6, o11, rfl⟩ e6
      have chk := List.all_eq_true.mp (all3 rfA_ok r.hk) d (List.mem_of_getElem? hd)
      simp only [rfA_chk, Bool.and_eq_true, beq_iff_eq] at chk
      obtain ⟨⟨⟨⟨c1, c2⟩, c3⟩, c4⟩, c5⟩ := chk
      have hR6 := hR5.mono (same_ex x6.gg)
      have ssz := s1_size r.hk d
      have sok : ∀ (l : List PyData), (∀ y ∈ l, y = d ∨ y = .none ∨ y ∈ rsD k) → DataOk 12 (.list l) .none .none := fun l h => ⟨fun y hy => by
        rcases h y hy with rfl | rfl | hy
        · exact strOk_of c4
        · exact fun z hz => nomatch hz
        · exact rs_strOk r.hk y hy, none_items, none_items⟩
      refine rd_for (K := K) (G := G6) (es := [.list ((rsD k).take 3 ++ [d, .none]), .list ([d] ++ (rsD k).take 2), .list [d]]) (fun σ'' => ∃ o11, σ'' = [some (.ref pp), some (.ref a1), some (.ref a2), some (.ref a3), some v6, some v7, some x, o7, o8, some v9, some v10, o11, none]) (ed_lst (da_cons (ed_cat (ed_take 3 (ed_var rfl hR6) (fun _ _ => eo_some ev_c)) (ed_lst (da_cons (ed_var rfl hx) (da_cons ed_non eda_nil)) (Nat.le_of_ble_eq_true rfl)) (by simp; omega)) (da_cons (ed_cat (ed_lst (da_cons (ed_var rfl hx) eda_nil) (Nat.le_of_ble_eq_true rfl)) (ed_take 2 (ed_var rfl hR6) (fun _ _ => eo_some ev_c)) (by simp; omega)) (da_cons (ed_lst (da_cons (ed_var rfl hx) eda_nil) (Nat.le_of_ble_eq_true rfl)) eda_nil))) (Nat.le_of_ble_eq_true rfl)) (x6.gh.trans e6) ⟨_, rfl⟩ ?_ ?_
      · rintro H7 G7 x7 i7 s y σ'' H'' hs hy ⟨o11, rfl⟩ e7
        have hx7 := hx.mono (same_ex x7.gg)
        have sy7 := (sy5.mono (same_ex x6.gg)).mono (same_ex x7.gg)
        match i7, hs with
        | 0, hs =>
          cases hs
          exact rd_ifF (G := G7) (et_ca (n := 12) (d := d) (d2 := .none) (d3 := .none) (flt := .itm 0 (k + 1)) (ed_var rfl hy) ed_non ed_non (ed_var rfl hx7) sy7 (sok _ fun z hz => by
            rcases List.mem_append.mp hz with hz | hz
            · exact .inr (.inr (List.mem_of_mem_take hz))
            · simp only [List.mem_cons, List.not_mem_nil, or_false] at hz
              rcases hz with hz | hz
              · exact .inl hz
              · exact .inr (.inl hz)) (fit0 ssz.1 c1) rfl (s1_get r.hk d) c5) (x7.gh.trans e7) fun H8 e8 => ⟨⟨_, rfl⟩, e7.trans e8⟩
        | 1, hs =>
          cases hs
          exact rd_ifF (G := G7) (et_ca (n := 12) (d := d) (d2 := .none) (d3 := .none) (flt := .itm 0 0) (ed_var rfl hy) ed_non ed_non (ed_var rfl hx7) sy7 (sok _ fun z hz => by
            rcases List.mem_append.mp hz with hz | hz
            · exact .inl (List.mem_singleton.mp hz)
            · exact .inr (.inr (List.mem_of_mem_take hz))) (fit0 ssz.2 c2) rfl rfl c5) (x7.gh.trans e7) fun H8 e8 => ⟨⟨_, rfl⟩, e7.trans e8⟩
        | 2, hs =>
          cases hs
          exact rd_ifF (G := G7) (et_ca (n := 12) (d := d) (d2 := .none) (d3 := .none) (flt := .itm 0 0) (ed_var rfl hy) ed_non ed_non (ed_var rfl hx7) sy7 (sok _ fun z hz => .inl (List.mem_singleton.mp hz)) (fit0 rfl c3) rfl rfl c5) (x7.gh.trans e7) fun H8 e8 => ⟨⟨_, rfl⟩, e7.trans e8⟩
        | n + 3, hs => cases hs
      · rintro σ'' H7 ⟨o11, rfl⟩ e7
        exact ⟨⟨_, _, rfl⟩, e6.trans e7⟩
    rintro σ' H6 ⟨o6', o11, rfl⟩ e6
    have ck0 := all3 rsD_ok r.hk
    simp only [Bool.and_eq_true, beq_iff_eq] at ck0
    obtain ⟨⟨⟨s0, b0⟩, k0⟩, l0⟩ := ck0
    have r0 := rs_0 r.hk
    generalize hw : (rsD k).getD 0 .none = w0 at r0 b0 k0
    have m0 : w0 ∈ rsD k := List.mem_of_getElem? r0
    refine rd_sif (G := G5) (et_ca (n := 12) (d := w0) (d1 := .list ((rsD k).take 3 ++ [w0, .none])) (d2 := .none) (d3 := .none) (flt := .itm 0 (k + 1)) (ed_cat (ed_take 3 (ed_var rfl hR5) (fun _ _ => eo_some ev_c)) (ed_lst (da_cons (ed_ixL (i := 0) (ed_var rfl hR5) ev_c r0) (da_cons ed_non eda_nil)) (Nat.le_of_ble_eq_true rfl)) (by simp; omega)) ed_non ed_non (ed_ixL (i := 0) (ed_var rfl hR5) ev_c r0) sy5 ⟨fun z hz => by
            rcases List.mem_append.mp hz with hz | hz
            · exact rs_strOk r.hk z (List.mem_of_mem_take hz)
            · simp only [List.mem_cons, List.not_mem_nil, or_false] at hz
              rcases hz with rfl | rfl
              · exact rs_strOk r.hk _ m0
              · exact (fun z hz => by cases hz), none_items, none_items⟩ (fit0 (s1_size r.hk w0).1 b0) rfl (s1_get r.hk w0) k0) (x5.gh.trans e6) fun H7 e7 => ?_
    obtain ⟨o0, orest, hos⟩ : ∃ o0 orest, q.os = o0 :: orest := by
      cases h : q.os with
      | nil => exact (r.os.ne h).elim
      | cons a b => exact ⟨a, b, rfl⟩
    have ho0 : (q.os.map ownD)[0]? = some (ownD o0) := by rw [hos]; rfl
    refine rd_sset (K := K) (G := G5) (d := .list (rfB (rsD k))) (ed_lst (da_cons ed_non (da_cons ed_int (da_cons ed_str (da_cons (ed_tup (da_cons ed_str eda_nil) (Nat.le_of_ble_eq_true rfl)) (da_cons (ed_tup (da_cons ed_str (da_cons (ed_lst eda_nil (Nat.le_of_ble_eq_true rfl)) (da_cons ed_int eda_nil))) (Nat.le_of_ble_eq_true rfl)) (da_cons (ed_lst (da_cons ed_str (da_cons (ed_lst eda_nil (Nat.le_of_ble_eq_true rfl)) eda_nil)) (Nat.le_of_ble_eq_true rfl)) (da_cons (ed_tup (da_cons ed_str (da_cons (ed_lst eda_nil (Nat.le_of_ble_eq_true rfl)) eda_nil)) (Nat.le_of_ble_eq_true rfl)) (da_cons (ed_tup (da_cons ed_str (da_cons (ed_lst eda_nil (Nat.le_of_ble_eq_true rfl)) eda_nil)) (Nat.le_of_ble_eq_true rfl)) (da_cons (ed_tup (da_cons ed_non (da_cons (ed_lst eda_nil (Nat.le_of_ble_eq_true rfl)) eda_nil)) (Nat.le_of_ble_eq_true rfl)) (da_cons (ed_tup (da_cons ed_str (da_cons ed_non eda_nil)) (Nat.le_of_ble_eq_true rfl)) eda_nil)))))))))) (Nat.le_of_ble_eq_true rfl)) (x5.gh.trans (e6.trans e7)) fun v10b G8 H8 x8 d10b => ?_
    have hR8 := hR5.mono (same_ex x8.gg)
    have hO8 := hO5.mono (same_ex x8.gg)
    have sy8 := sy5.mono (same_ex x8.gg)
    have hw' : (rsD k)[0]? = some ((rsD k).getD 0 .none) := rs_0 r.hk
    refine rd_sset (K := K) (G := G8) (d := .list (rfB (rsD k) ++ rfC (rsD k))) (ed_cat (ed_var rfl d10b) (ed_lst (da_cons (ed_tup (da_cons ed_str (da_cons (ed_tup eda_nil (Nat.le_of_ble_eq_true rfl)) eda_nil)) (Nat.le_of_ble_eq_true rfl)) (da_cons (ed_tup (da_cons ed_str (da_cons (ed_lst (da_cons ed_str eda_nil) (Nat.le_of_ble_eq_true rfl)) eda_nil)) (Nat.le_of_ble_eq_true rfl)) (da_cons (ed_tup (da_cons ed_str (da_cons (ed_rep (n := 2) (ed_lst (da_cons (ed_ixL (i := 0) (ed_var rfl hR8) ev_c hw') eda_nil) (Nat.le_of_ble_eq_true rfl)) ev_c (by show 1 * 2 ≤ 100000; decide) (by decide)) eda_nil)) (Nat.le_of_ble_eq_true rfl))
      (da_cons (ed_tup (da_cons ed_str (da_cons (ed_lst (da_cons ed_non eda_nil) (Nat.le_of_ble_eq_true rfl)) eda_nil)) (Nat.le_of_ble_eq_true rfl)) (da_cons (ed_tup (da_cons ed_str (da_cons (ed_lst (da_cons (ed_lst (da_cons (ed_ixL (i := 0) (ed_var rfl hR8) ev_c hw') eda_nil) (Nat.le_of_ble_eq_true rfl)) eda_nil) (Nat.le_of_ble_eq_true rfl)) eda_nil)) (Nat.le_of_ble_eq_true rfl)) eda_nil))))) (Nat.le_of_ble_eq_true rfl)) (Nat.le_of_ble_eq_true rfl)) x8.gh fun v10c G9 H9 x9 d10c => ?_
    have hR9 := hR8.mono (same_ex x9.gg)
    have hO9 := hO8.mono (same_ex x9.gg)
    have sy9 := sy8.mono (same_ex x9.gg)
    have ow0 := r.os.ok o0 (by rw [hos]; exact List.mem_cons_self ..)
    have sh0 : SeqAt.shaped (strsD o0.2) = true := by
      have := allSh_ok
      exact List.all_eq_true.mp this o0.2 (sub_mem ow0.2.1 fun x hx => rs_sub (k := k) x (by rw [← r.rs]; exact ow0.2.2 x hx))
    refine rd_sset (K := K) (G := G9) (d := .list ((rfB (rsD k) ++ rfC (rsD k)) ++ [ownD o0, own2 k o0, rfD (rsD k)])) (ed_cat (ed_var rfl d10c) (ed_lst (da_cons (ed_ixL (i := 0) (ed_var rfl hO9) ev_c ho0) (da_cons (ed_tup (da_cons (ed_ixT (i := 0) (ds := [.str o0.1, strsD o0.2]) (ed_ixL (i := 0) (ed_var rfl hO9) ev_c ho0) ev_c rfl) (da_cons (ed_if (b := !PyData.eqv (strsD o0.2) (.list []))
        (et_neD (ed_ixT (i := 1) (ds := [.str o0.1, strsD o0.2]) (ed_ixL (i := 0) (ed_var rfl hO9) ev_c ho0) ev_c rfl) (ed_lst eda_nil (Nat.le_of_ble_eq_true rfl)) (shaped_noDict sh0) rfl sh0 (by decide +kernel))
        (fun h => by rw [h]; exact ed_lst eda_nil (Nat.le_of_ble_eq_true rfl)) (fun h => by rw [h]; exact ed_take 1 (ed_var rfl hR9) (fun _ _ => eo_some ev_c))) eda_nil)) (Nat.le_of_ble_eq_true rfl)) (da_cons (ed_tup (da_cons ed_str (da_cons (ed_lst (da_cons (ed_ixL (i := 0) (ed_var rfl hR9) ev_c hw') (da_cons ed_str eda_nil)) (Nat.le_of_ble_eq_true rfl)) eda_nil)) (Nat.le_of_ble_eq_true rfl)) eda_nil))) (Nat.le_of_ble_eq_true rfl)) (Nat.le_of_ble_eq_true rfl)) x9.gh fun v10d G10 H10 x10 d10d => ?_
    have hR10 := hR9.mono (same_ex x10.gg)
    have hO10 := hO9.mono (same_ex x10.gg)
    have sy10 := sy9.mono (same_ex x10.gg)
    refine rd_sset (K := K) (G := G10) (d := .list (((rfB (rsD k) ++ rfC (rsD k)) ++ [ownD o0, own2 k o0, rfD (rsD k)]) ++ rfE)) (ed_cat (ed_var rfl d10d) (ed_lst (da_cons (ed_tup (da_cons ed_str (da_cons (ed_lst eda_nil (Nat.le_of_ble_eq_true rfl)) eda_nil)) (Nat.le_of_ble_eq_true rfl)) (da_cons (ed_tup (da_cons ed_str (da_cons (ed_lst eda_nil (Nat.le_of_ble_eq_true rfl)) eda_nil)) (Nat.le_of_ble_eq_true rfl)) eda_nil)) (Nat.le_of_ble_eq_true rfl)) (Nat.le_of_ble_eq_true rfl)) x10.gh fun v10e G11 H11 x11 d10e => ?_
    have hR11 := hR10.mono (same_ex x11.gg)
    have hO11 := hO10.mono (same_ex x11.gg)
    have sy11 := sy10.mono (same_ex x11.gg)
    refine rd_sfor (K := K) (G := G11) (es := (((rfB (rsD k) ++ rfC (rsD k)) ++ [ownD o0, own2 k o0, rfD (rsD k)]) ++ rfE) ++ rfF) (fun σ' => ∃ o6, σ' = [some (.ref pp), some (.ref a1), some (.ref a2), some (.ref a3), some v6, some v7, o6, o7, o8, some v9, some v10e, o11, none]) (ed_cat (ed_var rfl d10e) (ed_lst (da_cons (ed_tup (da_cons (ed_lst (da_cons ed_str eda_nil) (Nat.le_of_ble_eq_true rfl)) (da_cons (ed_lst eda_nil (Nat.le_of_ble_eq_true rfl)) eda_nil)) (Nat.le_of_ble_eq_true rfl)) (da_cons ed_dict (da_cons (ed_tup eda_nil (Nat.le_of_ble_eq_true rfl)) (da_cons (ed_tup (da_cons ed_str (da_cons ed_str eda_nil)) (Nat.le_of_ble_eq_true rfl)) eda_nil)))) (Nat.le_of_ble_eq_true rfl)) (Nat.le_of_ble_eq_true rfl)) x11.gh ⟨_, rfl⟩ ?_ ?_
    · rintro H12 G12 x12 i d x σ' H' hd hx ⟨o6, rfl⟩ e12
      have hR12 := hR11.mono (same_ex x12.gg)
      have hO12 := hO11.mono (same_ex x12.gg)
      have bad : okB d = true ∧ headOkB d = true ∧ (!ownerF q.rs d || (q.os.map (·.1)).any (eqS (.str (headS d)))) = true := by
        have hm := List.mem_of_getElem? hd
        have chk := all3 rfO_ok r.hk
        have own : ∀ l : List Str, l.Nodup → (∀ r' ∈ l, r' ∈ rights3.take (k + 1)) → okB (ownD (o0.1, l)) = true ∧ headOkB (ownD (o0.1, l)) = true ∧ (!ownerF q.rs (ownD (o0.1, l)) || (q.os.map (·.1)).any (eqS (.str (headS (ownD (o0.1, l)))))) = true := fun l n1 n2 => by
          refine ⟨own_okB (rs := rights3.take (k + 1)) rs_sub ⟨ow0.1, n1, n2⟩, ?_, ?_⟩
          · exact List.all_eq_true.mp names3_ok o0.1 ow0.1
          · rw [hos, Bool.or_eq_true]
            refine .inr ?_
            rw [any_eqS, decide_eq_true_eq]
            exact List.mem_cons_self ..
        have cc : d ∈ rfB (rsD k) ++ rfC (rsD k) ++ [rfD (rsD k)] ++ rfE ++ rfF → okB d = true ∧ headOkB d = true ∧ (!ownerF q.rs d || (q.os.map (·.1)).any (eqS (.str (headS d)))) = true := fun h => by
          have := List.all_eq_true.mp chk d h
          simp only [Bool.and_eq_true] at this
          rw [r.rs]
          exact ⟨this.2, this.1.2, by rw [this.1.1]; rfl⟩
        simp only [List.mem_append, List.mem_cons, List.not_mem_nil, or_false] at hm cc
        rcases hm with ((((hm | hm) | (hm | hm | hm)) | hm) | hm)
        · exact cc (.inl (.inl (.inl (.inl hm))))
        · exact cc (.inl (.inl (.inl (.inr hm))))
        · rw [hm]
          exact own o0.2 ow0.2.1 fun x hx => by rw [← r.rs]; exact ow0.2.2 x hx
        · obtain ⟨l, e1, e2, e3⟩ := own2_ow r.hk o0
          rw [hm, e1]
          exact own l e2 e3
        · exact cc (.inl (.inl (.inr hm)))
        · exact cc (.inl (.inr hm))
        · exact cc (.inr hm)
      obtain ⟨c1, c2, c3⟩ := bad
      have ol : (q.os.map ownD).length ≤ 3 := by rw [List.length_map]; exact r.os.le
      have ot : (q.os.map ownD).take 3 = q.os.map ownD := List.take_of_length_le ol
      have bb : oBad ((items (.list (rsD k))).map unS) [] (q.os.map ownD ++ [d, .none]) = some q.os.length := by
        have h2 : oBad ((items (.list (rsD k))).map unS) [] (q.os.map ownD) = none := nfk.b2
        have er : (items (.list (rsD k))).map unS = q.rs := by rw [← r.rsD]; exact strs_unS q.rs
        rw [er] at h2 ⊢
        rw [oBad_pre h2, own_head, List.nil_append, oBad_hit c3]
        simp
      refine rd_ifF (G := G12) (et_ca (n := 12) (d := d) (d1 := .list (rsD k)) (d2 := .list (q.os.map ownD ++ [d, .none])) (d3 := .none) (flt := .itm 1 q.os.length) (ed_var rfl hR12) (by
          have := ed_cat (K := K) (σ := [some (.ref pp), some (.ref a1), some (.ref a2), some (.ref a3), some v6, some v7, some x, o7, o8, some v9, some v10e, o11, none]) (ed_take 3 (ed_var (i := 2) rfl hO12) (fun _ _ => eo_some ev_c)) (ed_lst (da_cons (ed_var (i := 6) rfl hx) (da_cons ed_non eda_nil)) (Nat.le_of_ble_eq_true rfl)) (by simp; omega)
          rw [ot] at this
          exact this) ed_non (ed_var rfl hx) (sy11.mono (same_ex x12.gg)) ⟨nfd.r, fun z hz => by
            rcases List.mem_append.mp hz with hz | hz
            · exact nfd.o z hz
            · simp only [List.mem_cons, List.not_mem_nil, or_false] at hz
              rcases hz with rfl | rfl
              · exact headOk_of c2
              · exact (fun x r h => by cases h), none_items⟩ (fit1 nfk.s1 nfk.b1 ?_ bb) rfl ?_ c1) (x12.gh.trans e12) fun H13 e13 => ⟨⟨_, rfl⟩, e12.trans e13⟩
      · simp only [sizeF, List.length_append, List.length_cons, List.length_nil, Bool.and_eq_true, decide_eq_true_eq]
        omega
      · simp [fltD, items]
    rintro σ' H12 ⟨o6, rfl⟩ e12
    show spFr [] H12 Q E0

    exact ⟨rfl, sy11.mono (same_ex (x11.gh.trans e12)), fun H13 e13 => fin H13 (((((x0.hh.trans e1).trans x2.hh).trans (e3.trans e4)).trans x5.hh).trans (((e6.trans e7).trans x8.hh).trans ((x9.hh.trans x10.hh).trans (x11.hh.trans (e12.trans e13)))))⟩
end
end Lx

set_option Elab.async false
set_option maxRecDepth 100000
set_option linter.all false
set_option maxHeartbeats 4000000
namespace Lx
open PySem PySem.Spec PyProof.Rows L2 Evl Kx
/-! ### equal data without numbers are the same -/
mutual
def pureD : PyData → Bool
  | .none => true
  | .bool _ => true
  | .int _ => false
  | .str _ => true
  | .list xs => pureA xs
  | .tuple xs => pureA xs
  | .dict _ => false
def pureA : List PyData → Bool
  | [] => true
  | x :: xs => pureD x && pureA xs
end
mutual
theorem eqv_eq : ∀ {d e : PyData}, pureD d = true → pureD e = true → PyData.eqv d e = true → d = e
  | .none, .none, _, _, _ => rfl
  | .bool a, .bool b, _, _, h => by simp only [PyData.eqv, beq_iff_eq] at h; rw [h]
  | .str a, .str b, _, _, h => by simp only [PyData.eqv, beq_iff_eq] at h; rw [h]
  | .list xs, .list ys, p, q, h => by
    simp only [pureD] at p q
    simp only [PyData.eqv] at h
    rw [eqvA_eq p q h]
  | .tuple xs, .tuple ys, p, q, h => by
    simp only [pureD] at p q
    simp only [PyData.eqv] at h
    rw [eqvA_eq p q h]
  | .int _, _, p, _, _ => by simp only [pureD] at p; cases p
  | .dict _, _, p, _, _ => by simp only [pureD] at p; cases p
  | _, .int _, _, q, _ => by simp only [pureD] at q; cases q
  | _, .dict _, _, q, _ => by simp only [pureD] at q; cases q
  | .none, .bool _, _, _, h => by simp only [PyData.eqv] at h; cases h
  | .none, .str _, _, _, h => by simp only [PyData.eqv] at h; cases h
  | .none, .list _, _, _, h => by simp only [PyData.eqv] at h; cases h
  | .none, .tuple _, _, _, h => by simp only [PyData.eqv] at h; cases h
  | .bool _, .none, _, _, h => by simp only [PyData.eqv] at h; cases h
  | .bool _, .str _, _, _, h => by simp only [PyData.eqv] at h; cases h
  | .bool _, .list _, _, _, h => by simp only [PyData.eqv] at h; cases h
  | .bool _, .tuple _, _, _, h => by simp only [PyData.eqv] at h; cases h
  | .str _, .none, _, _, h => by simp only [PyData.eqv] at h; cases h
  | .str _, .bool _, _, _, h => by simp only [PyData.eqv] at h; cases h
  | .str _, .list _, _, _, h => by simp only [PyData.eqv] at h; cases h
  | .str _, .tuple _, _, _, h => by simp only [PyData.eqv] at h; cases h
  | .list _, .none, _, _, h => by simp only [PyData.eqv] at h; cases h
  | .list _, .bool _, _, _, h => by simp only [PyData.eqv] at h; cases h
  | .list _, .str _, _, _, h => by simp only [PyData.eqv] at h; cases h
  | .list _, .tuple _, _, _, h => by simp only [PyData.eqv] at h; cases h
  | .tuple _, .none, _, _, h => by simp only [PyData.eqv] at h; cases h
  | .tuple _, .bool _, _, _, h => by simp only [PyData.eqv] at h; cases h
  | .tuple _, .str _, _, _, h => by simp only [PyData.eqv] at h; cases h
  | .tuple _, .list _, _, _, h => by simp only [PyData.eqv] at h; cases h
theorem eqvA_eq : ∀ {xs ys : List PyData}, pureA xs = true → pureA ys = true → PyData.eqvAll xs ys = true → xs = ys
  | [], [], _, _, _ => rfl
  | x :: xs, y :: ys, p, q, h => by
    simp only [pureA, Bool.and_eq_true] at p q
    simp only [PyData.eqvAll, Bool.and_eq_true] at h
    rw [eqv_eq p.1 q.1 h.1, eqvA_eq p.2 q.2 h.2]
  | [], _ :: _, _, _, h => by simp only [PyData.eqvAll] at h; cases h
  | _ :: _, [], _, _, h => by simp only [PyData.eqvAll] at h; cases h
end
theorem pureA_of : ∀ {xs : List PyData}, (∀ x ∈ xs, pureD x = true) → pureA xs = true
  | [], _ => by simp only [pureA]
  | x :: xs, h => by simp only [pureA, h x (List.mem_cons_self ..), pureA_of fun y hy => h y (List.mem_cons_of_mem _ hy), Bool.and_self]
theorem pure_strs (ss : List Str) : pureD (strsD ss) = true := by
  simp only [strsD, pureD]
  exact pureA_of fun x hx => by
    obtain ⟨s, _, rfl⟩ := List.mem_map.mp hx
    simp only [pureD]
theorem pure_own (o : Own) : pureD (ownD o) = true := by
  simp only [ownD, pureD, pureA, pure_strs, Bool.and_self]
mutual
theorem pure_stp : ∀ s : Stp, pureD (stpD s) = true
  | .call _ => by simp only [stpD, pureD, pureA, Bool.and_self]
  | .tail _ => by simp only [stpD, pureD, pureA, Bool.and_self]
  | .check _ => by simp only [stpD, pureD, pureA, Bool.and_self]
  | .back => by simp only [stpD, pureD, pureA, Bool.and_self]
  | .either a b => by simp only [stpD, pureD, pureA, pure_body a, pure_body b, Bool.and_self]
  | .loop b => by simp only [stpD, pureD, pureA, pure_body b, Bool.and_self]
  | .block _ b => by simp only [stpD, pureD, pureA, pure_body b, Bool.and_self]
theorem pure_body : ∀ b : List Stp, pureA (bodyD b) = true
  | [] => by simp only [bodyD, pureA]
  | s :: r => by simp only [bodyD, pureA, pure_stp s, pure_body r, Bool.and_self]
end
theorem pure_fn (g : Fn) : pureD (fnD g) = true := by
  simp only [fnD, pureD, pureA, pure_body, Bool.and_self]
mutual
theorem stp_inj : ∀ {s t : Stp}, stpD s = stpD t → s = t
  | .call a, t, h => by
    cases t with
    | call b => simp [stpD] at h; rw [h]
    | tail b => simp [stpD] at h; exact absurd h.1 (by decide +kernel)
    | check b => simp [stpD] at h; exact absurd h.1 (by decide +kernel)
    | _ => simp [stpD] at h
  | .tail a, t, h => by
    cases t with
    | call b => simp [stpD] at h; exact absurd h.1 (by decide +kernel)
    | tail b => simp [stpD] at h; rw [h]
    | check b => simp [stpD] at h; exact absurd h.1 (by decide +kernel)
    | _ => simp [stpD] at h
  | .check a, t, h => by
    cases t with
    | call b => simp [stpD] at h; exact absurd h.1 (by decide +kernel)
    | tail b => simp [stpD] at h; exact absurd h.1 (by decide +kernel)
    | check b => simp [stpD] at h; rw [h]
    | _ => simp [stpD] at h
  | .back, t, h => by cases t <;> simp_all [stpD]
  | .either a b, t, h => by
    cases t with
    | either c d =>
      simp only [stpD, PyData.tuple.injEq, List.cons.injEq, PyData.list.injEq, and_true, true_and] at h
      rw [body_inj h.1, body_inj h.2]
    | _ => simp [stpD] at h
  | .loop b, t, h => by
    cases t with
    | loop d =>
      simp only [stpD, PyData.tuple.injEq, List.cons.injEq, PyData.list.injEq, and_true, true_and] at h
      rw [body_inj h]
    | _ => simp [stpD] at h
  | .block m b, t, h => by
    cases t with
    | block n d =>
      simp only [stpD, PyData.tuple.injEq, List.cons.injEq, PyData.list.injEq, PyData.bool.injEq, and_true, true_and] at h
      rw [h.1, body_inj h.2]
    | _ => simp [stpD] at h
theorem body_inj : ∀ {a b : List Stp}, bodyD a = bodyD b → a = b
  | [], [], _ => rfl
  | [], _ :: _, h => by simp only [bodyD] at h; cases h
  | _ :: _, [], h => by simp only [bodyD] at h; cases h
  | s :: a, t :: b, h => by
    simp only [bodyD, List.cons.injEq] at h
    rw [stp_inj h.1, body_inj h.2]
end
theorem map_inj {α : Type} {f : α → PyData} (hf : ∀ a b, f a = f b → a = b) : ∀ {xs ys : List α}, xs.map f = ys.map f → xs = ys
  | [], [], _ => rfl
  | [], _ :: _, h => by cases h
  | _ :: _, [], h => by cases h
  | x :: xs, y :: ys, h => by
    simp only [List.map_cons, List.cons.injEq] at h
    rw [hf _ _ h.1, map_inj hf h.2]
theorem strs_inj {a b : List Str} (h : strsD a = strsD b) : a = b := by
  simp only [strsD, PyData.list.injEq] at h
  exact map_inj (fun a b h => by simpa using h) h
theorem own_inj (a b : Own) (h : ownD a = ownD b) : a = b := by
  simp only [ownD, PyData.tuple.injEq, List.cons.injEq, PyData.str.injEq, and_true] at h
  exact Prod.ext h.1 (strs_inj h.2)
theorem fn_inj (a b : Fn) (h : fnD a = fnD b) : a = b := by
  simp only [fnD, PyData.tuple.injEq, List.cons.injEq, PyData.str.injEq, PyData.list.injEq, and_true] at h
  exact Prod.ext h.1 (Prod.ext h.2.1 (body_inj h.2.2))
theorem same_eq {q o : Prt} (h : sameP q o = true) : q.rs = o.rs ∧ q.os = o.os ∧ q.fs = o.fs := by
  unfold sameP at h
  simp only [Bool.and_eq_true] at h
  refine ⟨strs_inj (eqv_eq (pure_strs _) (pure_strs _) h.1.1), ?_, ?_⟩
  · have := eqv_eq (by simp only [pureD]; exact pureA_of fun x hx => by obtain ⟨s, _, rfl⟩ := List.mem_map.mp hx; exact pure_own s) (by simp only [pureD]; exact pureA_of fun x hx => by obtain ⟨s, _, rfl⟩ := List.mem_map.mp hx; exact pure_own s) h.1.2
    exact map_inj own_inj (by simpa using this)
  · have := eqv_eq (by simp only [pureD]; exact pureA_of fun x hx => by obtain ⟨s, _, rfl⟩ := List.mem_map.mp hx; exact pure_fn s) (by simp only [pureD]; exact pureA_of fun x hx => by obtain ⟨s, _, rfl⟩ := List.mem_map.mp hx; exact pure_fn s) h.2
    exact map_inj fn_inj (by simpa using this)
theorem rev_ne {α : Type} {l : List α} (hn : l.Nodup) (h : 1 < l.length) : l.reverse ≠ l := fun e => by
  have h0 : l[0]? = l.reverse[0]? := by rw [e]
  rw [List.getElem?_reverse (by omega)] at h0
  have h1 : 0 < l.length := by omega
  have h2 : l.length - 1 - 0 < l.length := by omega
  rw [List.getElem?_eq_getElem h1, List.getElem?_eq_getElem h2] at h0
  exact (List.pairwise_iff_getElem.mp hn) 0 (l.length - 1 - 0) h1 h2 (by omega) (Option.some.inj h0)
end Lx

set_option Elab.async false
set_option maxRecDepth 100000
set_option linter.all false
set_option maxHeartbeats 4000000
namespace Lx
open PySem PySem.Spec PyProof.Rows L2 Evl Kx
def rightsN : List Str := rights3 ++ [("zz" : Str)]
def namesO : List Str := names3 ++ [("zz" : Str)]
def namesG : List Str := names4 ++ [("zz" : Str)]
structure Nice (q : Prt) : Prop where
  rn : q.rs.Nodup
  re : 1 ≤ q.rs.length
  rl : q.rs.length ≤ 5
  rm : ∀ r ∈ q.rs, r ∈ rightsN
  on : (q.os.map (·.1)).Nodup
  oe : 1 ≤ q.os.length
  ol : q.os.length ≤ 5
  om : ∀ o ∈ q.os, o.1 ∈ namesO ∧ o.2.Nodup ∧ ∀ r ∈ o.2, r ∈ q.rs
  fn : (q.fs.map (·.1)).Nodup
  fe : 1 ≤ q.fs.length
  fl : q.fs.length ≤ 6
  fm : ∀ g ∈ q.fs, g.1 ∈ namesG ∧ g.2.1 ∈ q.os.map (·.1) ∧ Kx.okB q.rs (q.fs.map (·.1)) false g.2.2 = true ∧ nstB g.2.2 ≤ 4 ∧ cntB g.2.2 ≤ 100
def goodS (x : Str) : Bool := strOkB (.str x) && nameD (.str x) && PySem.PyData.strOk x
theorem all_names : ((rightsN ++ namesO ++ namesG).all goodS) = true := by decide +kernel
theorem good_of {x : Str} (h : x ∈ rightsN ∨ x ∈ namesO ∨ x ∈ namesG) : strOk (.str x) ∧ nameD (.str x) = true ∧ PySem.PyData.strOk x = true := by
  have := List.all_eq_true.mp all_names x (by
    simp only [List.mem_append]
    rcases h with h | h | h
    · exact .inl (.inl h)
    · exact .inl (.inr h)
    · exact .inr h)
  simp only [goodS, Bool.and_eq_true] at this
  exact ⟨strOk_of this.1.1, this.1.2, this.2⟩
mutual
theorem dep_stp : ∀ s : Stp, (stpD s).depth ≤ 2 * nstS s + 2
  | .call _ => by simp [stpD, PyData.depth, PyData.depthAll]
  | .tail _ => by simp [stpD, PyData.depth, PyData.depthAll]
  | .check _ => by simp [stpD, PyData.depth, PyData.depthAll]
  | .back => by simp [stpD, PyData.depth, PyData.depthAll]
  | .either a b => by
    have h1 := dep_body a
    have h2 := dep_body b
    simp only [stpD, PyData.depth, PyData.depthAll, nstS]
    omega
  | .loop b => by
    have h2 := dep_body b
    simp only [stpD, PyData.depth, PyData.depthAll, nstS]
    omega
  | .block _ b => by
    have h2 := dep_body b
    simp only [stpD, PyData.depth, PyData.depthAll, nstS]
    omega
theorem dep_body : ∀ b : List Stp, PyData.depthAll (bodyD b) ≤ 2 * nstB b + 2
  | [] => by simp [bodyD, PyData.depthAll]
  | s :: r => by
    have h1 := dep_stp s
    have h2 := dep_body r
    simp only [bodyD, PyData.depthAll, nstB]
    omega
end
mutual
theorem lay_stp {rs ns : List Str} (hr : ∀ r ∈ rs, PySem.PyData.strOk r = true) (hn : ∀ r ∈ ns, PySem.PyData.strOk r = true) : ∀ {mk : Bool} {s : Stp}, okS rs ns mk s = true → (stpD s).canLay0 = true
  | _, .call n, h => by
    simp only [okS, decide_eq_true_eq] at h
    have w : PySem.PyData.strOk ("call" : Str) = true := by decide +kernel
    simp only [stpD, PyData.canLay0, PyData.canLayAll0, hn n h, w, Bool.and_self]
  | _, .tail n, h => by
    simp only [okS, Bool.and_eq_true, decide_eq_true_eq] at h
    have w : PySem.PyData.strOk ("tail" : Str) = true := by decide +kernel
    simp only [stpD, PyData.canLay0, PyData.canLayAll0, hn n h.1, w, Bool.and_self]
  | _, .check r, h => by
    simp only [okS, decide_eq_true_eq] at h
    have w : PySem.PyData.strOk ("check" : Str) = true := by decide +kernel
    simp only [stpD, PyData.canLay0, PyData.canLayAll0, hr r h, w, Bool.and_self]
  | _, .back, h => by
    have w : PySem.PyData.strOk ("back" : Str) = true := by decide +kernel
    simp only [stpD, PyData.canLay0, PyData.canLayAll0, w, Bool.and_self]
  | _, .either a b, h => by
    simp only [okS, Bool.and_eq_true] at h
    have w : PySem.PyData.strOk ("either" : Str) = true := by decide +kernel
    simp only [stpD, PyData.canLay0, PyData.canLayAll0, lay_body hr hn h.1, lay_body hr hn h.2, w, Bool.and_self]
  | _, .loop b, h => by
    simp only [okS] at h
    have w : PySem.PyData.strOk ("loop" : Str) = true := by decide +kernel
    simp only [stpD, PyData.canLay0, PyData.canLayAll0, lay_body hr hn h, w, Bool.and_self]
  | _, .block m b, h => by
    simp only [okS] at h
    have w : PySem.PyData.strOk ("block" : Str) = true := by decide +kernel
    simp only [stpD, PyData.canLay0, PyData.canLayAll0, lay_body hr hn h, w, Bool.and_self]
theorem lay_body {rs ns : List Str} (hr : ∀ r ∈ rs, PySem.PyData.strOk r = true) (hn : ∀ r ∈ ns, PySem.PyData.strOk r = true) : ∀ {mk : Bool} {b : List Stp}, Kx.okB rs ns mk b = true → PyData.canLayAll0 (bodyD b) = true
  | _, [], _ => by simp only [bodyD, PyData.canLayAll0]
  | _, s :: r, h => by
    simp only [Kx.okB, Bool.and_eq_true] at h
    simp only [bodyD, PyData.canLayAll0, lay_stp hr hn h.1, lay_body hr hn h.2, Bool.and_self]
end
theorem layA_of : ∀ {xs : List PyData}, (∀ x ∈ xs, x.canLay0 = true) → PyData.canLayAll0 xs = true
  | [], _ => by simp only [PyData.canLayAll0]
  | x :: xs, h => by simp only [PyData.canLayAll0, h x (List.mem_cons_self ..), layA_of fun y hy => h y (List.mem_cons_of_mem _ hy), Bool.and_self]
theorem depA_of {n : Nat} : ∀ {xs : List PyData}, (∀ x ∈ xs, x.depth ≤ n) → PyData.depthAll xs ≤ n
  | [], _ => by simp only [PyData.depthAll]; omega
  | x :: xs, h => by
    have h1 := h x (List.mem_cons_self ..)
    have h2 := depA_of fun y hy => h y (List.mem_cons_of_mem _ hy)
    simp only [PyData.depthAll]
    omega
theorem dep_strs (ss : List Str) : (strsD ss).depth ≤ 2 := by
  have : PyData.depthAll (ss.map PyData.str) ≤ 1 := depA_of fun x hx => by
    obtain ⟨s, _, rfl⟩ := List.mem_map.mp hx
    simp [PyData.depth]
  simp only [strsD, PyData.depth]
  omega
theorem lay_strs {ss : List Str} (h : ∀ s ∈ ss, PySem.PyData.strOk s = true) : (strsD ss).canLay0 = true := by
  simp only [strsD, PyData.canLay0]
  exact layA_of fun x hx => by
    obtain ⟨s, hs, rfl⟩ := List.mem_map.mp hx
    simp only [PyData.canLay0, h s hs]
theorem dep_own (o : Own) : (ownD o).depth ≤ 4 := by
  have := dep_strs o.2
  simp only [ownD, PyData.depth, PyData.depthAll]
  omega
theorem dep_fn {g : Fn} (h : nstB g.2.2 ≤ 4) : (fnD g).depth ≤ 13 := by
  have := dep_body g.2.2
  simp only [fnD, PyData.depth, PyData.depthAll]
  omega
theorem Nice.good {q : Prt} (n : Nice q) : Good 12 4 q := by
  have ns : ∀ x ∈ q.fs.map (·.1), x ∈ namesG := fun x hx => by
    obtain ⟨g, hg, rfl⟩ := List.mem_map.mp hx
    exact (n.fm g hg).1
  have lr : ∀ r ∈ q.rs, PySem.PyData.strOk r = true := fun r hr => (good_of (.inl (n.rm r hr))).2.2
  have ln : ∀ r ∈ q.fs.map (·.1), PySem.PyData.strOk r = true := fun r hr => (good_of (.inr (.inr (ns r hr)))).2.2
  refine ⟨⟨fun x hx => ?_, fun x hx => ?_, fun x hx => ?_⟩, ?_, ⟨by have := n.ol; omega, by have := n.fl; omega, fun g hg => ⟨(n.fm g hg).2.2.2.1, by have := (n.fm g hg).2.2.2.2; omega⟩⟩, ⟨?_, ?_, ?_⟩⟩
  · obtain ⟨r, hr, rfl⟩ := List.mem_map.mp hx
    exact (good_of (.inl (n.rm r hr))).1
  · obtain ⟨o, ho, rfl⟩ := List.mem_map.mp hx
    intro y r e
    cases e
    exact (good_of (.inr (.inl (n.om o ho).1))).1
  · obtain ⟨g, hg, rfl⟩ := List.mem_map.mp hx
    refine ⟨fun y r e => ?_, dep_fn (n.fm g hg).2.2.2.1⟩
    cases e
    exact (good_of (.inr (.inr (n.fm g hg).1))).1
  · have s1 : sizeF 5 (strsD q.rs) = true := by
      simp only [strsD, sizeF, List.length_map, decide_eq_true n.re, decide_eq_true n.rl, Bool.and_self]
    have s2 : sizeF 5 (.list (q.os.map ownD)) = true := by
      simp only [sizeF, List.length_map, decide_eq_true n.oe, decide_eq_true n.ol, Bool.and_self]
    have s3 : sizeF 6 (.list (q.fs.map fnD)) = true := by
      simp only [sizeF, List.length_map, decide_eq_true n.fe, decide_eq_true n.fl, Bool.and_self]
    have b1 : rBad [] (items (strsD q.rs)) = none := rBad_ok (fun s hs => (good_of (.inl (n.rm s hs))).2.1) (by simpa using n.rn)
    have b2 : oBad ((items (strsD q.rs)).map unS) [] (items (.list (q.os.map ownD))) = none := by
      rw [strs_unS]
      exact oBad_ok (fun o ho => ⟨(good_of (.inr (.inl (n.om o ho).1))).2.1, (n.om o ho).2⟩) (by simpa using n.on)
    have b3 : fBad ((items (.list (q.os.map ownD))).map headS) (namesF (items (.list (q.fs.map fnD)))) ((items (strsD q.rs)).map unS) [] (items (.list (q.fs.map fnD))) = none := by
      rw [strs_unS]
      show fBad ((q.os.map ownD).map headS) (namesF (q.fs.map fnD)) q.rs [] (q.fs.map fnD) = none
      rw [own_head, namesF_ok fun g hg => (good_of (.inr (.inr (n.fm g hg).1))).2.1]
      exact fBad_ok (fun g hg => ⟨(good_of (.inr (.inr (n.fm g hg).1))).2.1, (n.fm g hg).2.1, (n.fm g hg).2.2.1⟩) (by simpa using n.fn)
    simp only [faultF, s1, b1, s2, b2, s3, b3, Bool.true_eq_false, if_false]
  · unfold SeqAt.shaped
    have := dep_strs q.rs
    rw [lay_strs lr, decide_eq_true (by omega)]
    rfl
  · unfold SeqAt.shaped
    have h1 : PyData.depthAll (q.os.map ownD) ≤ 4 := depA_of fun x hx => by
      obtain ⟨o, ho, rfl⟩ := List.mem_map.mp hx
      exact dep_own o
    have h2 : PyData.canLayAll0 (q.os.map ownD) = true := layA_of fun x hx => by
      obtain ⟨o, ho, rfl⟩ := List.mem_map.mp hx
      simp only [ownD, PyData.canLay0, PyData.canLayAll0, (good_of (.inr (.inl (n.om o ho).1))).2.2, lay_strs fun s hs => lr s ((n.om o ho).2.2 s hs), Bool.and_self]
    rw [show (PyData.list _).canLay0 = true by simp only [PyData.canLay0]; exact h2, decide_eq_true (show (PyData.list _).depth ≤ 64 by simp only [PyData.depth]; omega)]
    rfl
  · unfold SeqAt.shaped
    have h1 : PyData.depthAll (q.fs.map fnD) ≤ 13 := depA_of fun x hx => by
      obtain ⟨g, hg, rfl⟩ := List.mem_map.mp hx
      exact dep_fn (n.fm g hg).2.2.2.1
    have h2 : PyData.canLayAll0 (q.fs.map fnD) = true := layA_of fun x hx => by
      obtain ⟨g, hg, rfl⟩ := List.mem_map.mp hx
      have ho : PySem.PyData.strOk g.2.1 = true := by
        obtain ⟨o, ho, e⟩ := List.mem_map.mp (n.fm g hg).2.1
        rw [← e]
        exact (good_of (.inr (.inl (n.om o ho).1))).2.2
      simp only [fnD, PyData.canLay0, PyData.canLayAll0, (good_of (.inr (.inr (n.fm g hg).1))).2.2, ho, lay_body lr ln (n.fm g hg).2.2.1, Bool.and_self]
    rw [show (PyData.list _).canLay0 = true by simp only [PyData.canLay0]; exact h2, decide_eq_true (show (PyData.list _).depth ≤ 64 by simp only [PyData.depth]; omega)]
    rfl
end Lx

set_option Elab.async false
set_option maxRecDepth 100000
set_option linter.all false
set_option maxHeartbeats 4000000
namespace Lx
open PySem PySem.Spec PyProof.Rows L2 Evl Kx
theorem take_nd {α : Type} {l : List α} {n : Nat} (h : l.Nodup) : (l.take n).Nodup := (List.take_sublist n l).nodup h
theorem PrtOk.nice {m : Nat} {q : Prt} (h : PrtOk m q) (h1 : 1 ≤ m) (h4 : m ≤ 4) : Nice q := by
  obtain ⟨k, hk, hr⟩ := h.rs
  have hlf : q.fs.length = m := by
    have := congrArg List.length h.ns
    rw [List.length_map, List.length_take] at this
    have e : names4.length = 4 := rfl
    omega
  refine ⟨?_, ?_, ?_, fun r hr' => ?_, h.os.nd, ?_, by have := h.os.le; omega, fun o ho => ?_, ?_, by omega, by omega, fun g hg => ?_⟩
  · rw [hr]; exact take_nd (by decide)
  · rw [hr, List.length_take]; have e : rights3.length = 3 := rfl; omega
  · rw [hr, List.length_take]; omega
  · rw [hr] at hr'
    exact List.mem_append_left _ (List.mem_of_mem_take hr')
  · exact List.length_pos_iff.mpr h.os.ne
  · obtain ⟨a, b, c⟩ := h.os.ok o ho
    exact ⟨List.mem_append_left _ a, b, c⟩
  · rw [h.ns]; exact take_nd (by decide)
  · obtain ⟨a, b, c, d⟩ := h.fs g hg
    refine ⟨?_, a, by rw [h.ns]; exact b, by omega, by omega⟩
    have : g.1 ∈ q.fs.map (·.1) := List.mem_map.mpr ⟨g, hg, rfl⟩
    rw [h.ns] at this
    exact List.mem_append_left _ (List.mem_of_mem_take this)
/-- another program than q, and one that can be made -/
def Oth (q o : Prt) : Prop := Nice o ∧ sameP q o = false
theorem oth_of {q o : Prt} (n : Nice o) (h : ¬ (q.rs = o.rs ∧ q.os = o.os ∧ q.fs = o.fs)) : Oth q o := ⟨n, by
  cases e : sameP q o with
  | false => rfl
  | true => exact (h (same_eq e)).elim⟩
section
variable {q : Prt} (n : Nice q)
include n
theorem nice_fs {fs : List Fn} (hn : (fs.map (·.1)).Nodup) (he : 1 ≤ fs.length) (hl : fs.length ≤ 6) (hm : ∀ g ∈ fs, g.1 ∈ namesG ∧ g.2.1 ∈ q.os.map (·.1) ∧ Kx.okB q.rs (fs.map (·.1)) false g.2.2 = true ∧ nstB g.2.2 ≤ 4 ∧ cntB g.2.2 ≤ 100) : Nice ⟨q.rs, q.os, fs⟩ :=
  ⟨n.rn, n.re, n.rl, n.rm, n.on, n.oe, n.ol, n.om, hn, he, hl, hm⟩
theorem nice_os {os : List Own} (hn : (os.map (·.1)).Nodup) (he : 1 ≤ os.length) (hl : os.length ≤ 5) (hm : ∀ o ∈ os, o.1 ∈ namesO ∧ o.2.Nodup ∧ ∀ r ∈ o.2, r ∈ q.rs) (hs : ∀ x ∈ q.os.map (·.1), x ∈ os.map (·.1)) : Nice ⟨q.rs, os, q.fs⟩ :=
  ⟨n.rn, n.re, n.rl, n.rm, hn, he, hl, hm, n.fn, n.fe, n.fl, fun g hg => ⟨(n.fm g hg).1, hs _ (n.fm g hg).2.1, (n.fm g hg).2.2⟩⟩
theorem nice_rs {rs : List Str} (hn : rs.Nodup) (he : 1 ≤ rs.length) (hl : rs.length ≤ 5) (hm : ∀ r ∈ rs, r ∈ rightsN) (hs : ∀ x ∈ q.rs, x ∈ rs) : Nice ⟨rs, q.os, q.fs⟩ :=
  ⟨hn, he, hl, hm, n.on, n.oe, n.ol, fun o ho => ⟨(n.om o ho).1, (n.om o ho).2.1, fun r hr => hs r ((n.om o ho).2.2 r hr)⟩, n.fn, n.fe, n.fl, fun g hg => ⟨(n.fm g hg).1, (n.fm g hg).2.1, okB_mono hs (fun _ h => h) (n.fm g hg).2.2.1, (n.fm g hg).2.2.2⟩⟩
/-- the last function with another owner or body -/
theorem oth_last {fi : List Fn} {g : Fn} {o : Str} {b : List Stp} (hf : q.fs = fi ++ [g]) (ho : o ∈ q.os.map (·.1)) (hb : Kx.okB q.rs (q.fs.map (·.1)) false b = true) (h1 : nstB b ≤ 4) (h2 : cntB b ≤ 100) (hne : ¬ (o = g.2.1 ∧ b = g.2.2)) : Oth q ⟨q.rs, q.os, fi ++ [(g.1, o, b)]⟩ := by
  have en : (fi ++ [(g.1, o, b)]).map (·.1) = q.fs.map (·.1) := by rw [hf]; simp
  have el : (fi ++ [(g.1, o, b)]).length = q.fs.length := by rw [hf]; simp
  refine oth_of (nice_fs n (by rw [en]; exact n.fn) (by rw [el]; exact n.fe) (by rw [el]; exact n.fl) fun x hx => ?_) fun ⟨_, _, e⟩ => ?_
  · rw [en]
    rcases List.mem_append.mp hx with hx | hx
    · exact n.fm x (by rw [hf]; exact List.mem_append_left _ hx)
    · rw [List.mem_singleton.mp hx]
      exact ⟨(n.fm g (by rw [hf]; exact List.mem_append_right _ (List.mem_singleton.mpr rfl))).1, ho, hb, h1, h2⟩
  · have e2 : fi ++ [g] = fi ++ [(g.1, o, b)] := hf.symm.trans e
    have e3 := List.append_cancel_left e2
    simp only [List.cons.injEq, and_true] at e3
    exact hne ⟨(congrArg (·.2.1) e3).symm, (congrArg (·.2.2) e3).symm⟩
theorem oth_zzr (hl : q.rs.length ≤ 4) (hz : ("zz" : Str) ∉ q.rs) : Oth q ⟨q.rs ++ [("zz" : Str)], q.os, q.fs⟩ := by
  refine oth_of (nice_rs n ?_ ?_ ?_ (fun r hr => ?_) fun x hx => List.mem_append_left _ hx) fun ⟨e, _⟩ => ?_
  · exact List.nodup_append.mpr ⟨n.rn, by simp, fun a ha b hb e => hz (by rw [← List.mem_singleton.mp hb, ← e]; exact ha)⟩
  · rw [List.length_append]; exact Nat.le_trans n.re (Nat.le_add_right _ _)
  · rw [List.length_append]; show q.rs.length + 1 ≤ 5; omega
  · rcases List.mem_append.mp hr with hr | hr
    · exact n.rm r hr
    · exact List.mem_append_right _ hr
  · have := congrArg List.length e
    simp at this
theorem oth_zzo (hl : q.os.length ≤ 4) (hz : ("zz" : Str) ∉ q.os.map (·.1)) : Oth q ⟨q.rs, q.os ++ [(("zz" : Str), ([] : List Str))], q.fs⟩ := by
  refine oth_of (nice_os n ?_ ?_ ?_ (fun r hr => ?_) fun x hx => by rw [List.map_append]; exact List.mem_append_left _ hx) fun ⟨_, e, _⟩ => ?_
  · rw [List.map_append]
    exact List.nodup_append.mpr ⟨n.on, by simp, fun a ha b hb e => hz (by simp at hb; rw [← hb, ← e]; exact ha)⟩
  · rw [List.length_append]; exact Nat.le_trans n.oe (Nat.le_add_right _ _)
  · rw [List.length_append]; show q.os.length + 1 ≤ 5; omega
  · rcases List.mem_append.mp hr with hr | hr
    · exact n.om r hr
    · rw [List.mem_singleton.mp hr]
      exact ⟨List.mem_append_right _ (List.mem_singleton.mpr rfl), List.nodup_nil, fun r h => nomatch h⟩
  · have := congrArg List.length e
    simp at this
theorem oth_zzf {o : Str} (hl : q.fs.length ≤ 5) (hz : ("zz" : Str) ∉ q.fs.map (·.1)) (ho : o ∈ q.os.map (·.1)) : Oth q ⟨q.rs, q.os, q.fs ++ [(("zz" : Str), o, ([] : List Stp))]⟩ := by
  refine oth_of (nice_fs n ?_ ?_ ?_ fun g hg => ?_) fun ⟨_, _, e⟩ => ?_
  · rw [List.map_append]
    exact List.nodup_append.mpr ⟨n.fn, by simp, fun a ha b hb e => hz (by simp at hb; rw [← hb, ← e]; exact ha)⟩
  · rw [List.length_append]; exact Nat.le_trans n.fe (Nat.le_add_right _ _)
  · rw [List.length_append]; show q.fs.length + 1 ≤ 6; omega
  · rcases List.mem_append.mp hg with hg | hg
    · obtain ⟨a, b, c, d⟩ := n.fm g hg
      exact ⟨a, b, okB_mono (fun _ h => h) (fun x h => by rw [List.map_append]; exact List.mem_append_left _ h) c, d⟩
    · rw [List.mem_singleton.mp hg]
      exact ⟨List.mem_append_right _ (List.mem_singleton.mpr rfl), ho, by simp only [Kx.okB], by simp only [nstB]; omega, by simp only [cntB]; omega⟩
  · have := congrArg List.length e
    simp at this
/-- one owner with other rights -/
theorem oth_own {oi oj : List Own} {o : Own} {l : List Str} (hos : q.os = oi ++ o :: oj) (h1 : l.Nodup) (h2 : ∀ r ∈ l, r ∈ q.rs) (hne : l ≠ o.2) : Oth q ⟨q.rs, oi ++ (o.1, l) :: oj, q.fs⟩ := by
  have en : (oi ++ (o.1, l) :: oj).map (·.1) = q.os.map (·.1) := by rw [hos]; simp
  have el : (oi ++ (o.1, l) :: oj).length = q.os.length := by rw [hos]; simp
  refine oth_of (nice_os n (by rw [en]; exact n.on) (by rw [el]; exact n.oe) (by rw [el]; exact n.ol) (fun x hx => ?_) fun x hx => by rw [en]; exact hx) fun ⟨_, e, _⟩ => ?_
  · rcases List.mem_append.mp hx with hx | hx
    · exact n.om x (by rw [hos]; exact List.mem_append_left _ hx)
    · rcases List.mem_cons.mp hx with rfl | hx
      · exact ⟨(n.om o (by rw [hos]; exact List.mem_append_right _ (List.mem_cons_self ..))).1, h1, h2⟩
      · exact n.om x (by rw [hos]; exact List.mem_append_right _ (List.mem_cons_of_mem _ hx))
  · have e3 := List.append_cancel_left (hos.symm.trans e)
    simp only [List.cons.injEq] at e3
    exact hne (congrArg (·.2) e3.1).symm
theorem oth_revr (h : 1 < q.rs.length) : Oth q ⟨q.rs.reverse, q.os, q.fs⟩ :=
  oth_of (nice_rs n (nodup_rev n.rn) (by rw [List.length_reverse]; exact n.re) (by rw [List.length_reverse]; exact n.rl) (fun r hr => n.rm r (List.mem_reverse.mp hr)) fun x hx => List.mem_reverse.mpr hx) fun ⟨e, _⟩ => rev_ne n.rn h e.symm
theorem oth_revo (h : 1 < q.os.length) : Oth q ⟨q.rs, q.os.reverse, q.fs⟩ :=
  oth_of (nice_os n (by rw [List.map_reverse]; exact nodup_rev n.on) (by rw [List.length_reverse]; exact n.oe) (by rw [List.length_reverse]; exact n.ol) (fun o ho => n.om o (List.mem_reverse.mp ho)) fun x hx => by rw [List.map_reverse]; exact List.mem_reverse.mpr hx) fun ⟨_, e, _⟩ =>
    rev_ne n.on (by rw [List.length_map]; exact h) (by rw [← List.map_reverse]; exact congrArg (List.map _) e.symm)
theorem oth_revf (h : 1 < q.fs.length) : Oth q ⟨q.rs, q.os, q.fs.reverse⟩ :=
  oth_of (nice_fs n (by rw [List.map_reverse]; exact nodup_rev n.fn) (by rw [List.length_reverse]; exact n.fe) (by rw [List.length_reverse]; exact n.fl) (fun g hg => by
    obtain ⟨a, b, c, d⟩ := n.fm g (List.mem_reverse.mp hg)
    exact ⟨a, b, okB_mono (fun _ h => h) (fun x hx => by rw [List.map_reverse]; exact List.mem_reverse.mpr hx) c, d⟩)) fun ⟨_, _, e⟩ =>
    rev_ne n.fn (by rw [List.length_map]; exact h) (by rw [← List.map_reverse]; exact congrArg (List.map _) e.symm)
end
end Lx

set_option Elab.async false
set_option maxRecDepth 100000
set_option linter.all false
set_option maxHeartbeats 2000000
namespace Kx
open PySem PySem.Spec PyProof.Rows L2 Evl
section
variable {K : PySem.W.Frag} {σ : L2.St} {G H : Hp} {te ti : TE} {ds : List PyData} {d : PyData} {c : TT} {t u : TS} {D : Ends} {b : Bool}
theorem cutD_last (ds : List PyData) (d : PyData) : cutD (ds ++ [d]) none (some (-1)) = ds := by
  have h1 : HT.sIx (ds ++ [d]).length 0 none = 0 := rfl
  have h2 : HT.sIx (ds ++ [d]).length (ds ++ [d]).length (some (-1)) = ds.length := by
    unfold HT.sIx
    simp
    omega
  unfold cutD
  rw [h1, h2, List.drop_zero, Nat.sub_zero]
  simp
theorem cutD_from (ds : List PyData) (k : Nat) : cutD ds (some (k : Int)) none = ds.drop k := by
  have h1 : HT.sIx ds.length ds.length none = ds.length := rfl
  have h2 : HT.sIx ds.length 0 (some (k : Int)) = min k ds.length := by
    unfold HT.sIx
    simp only
    split <;> omega
  unfold cutD
  rw [h1, h2]
  by_cases h : k ≤ ds.length
  · rw [Nat.min_eq_left h]
    exact List.take_of_length_le (by rw [List.length_drop]; exact Nat.le_refl _)
  · rw [Nat.min_eq_right (by omega), List.drop_of_length_le (Nat.le_refl _), List.drop_of_length_le (by omega)]
    simp
theorem ed_init {tl th : TO} (h : EvD K te σ G (.list (ds ++ [d]))) (h1 : ∀ G', Ex G G' → EvO tl σ G' none) (h2 : ∀ G', Ex G G' → EvO th σ G' (some (-1))) : EvD K (tSl (rSlL K) te tl th) σ G (.list ds) := by
  have := ed_sl h h1 h2
  rw [cutD_last] at this
  exact this
theorem ed_from {tl th : TO} (k : Nat) (h : EvD K te σ G (.list ds)) (h1 : ∀ G', Ex G G' → EvO tl σ G' (some (k : Int))) (h2 : ∀ G', Ex G G' → EvO th σ G' none) : EvD K (tSl (rSlL K) te tl th) σ G (.list (ds.drop k)) := by
  have := ed_sl h h1 h2
  rw [cutD_from] at this
  exact this
theorem atI_last {α : Type} (xs : List α) (x : α) : atI (xs ++ [x]) (-1) = some x := by
  have h : ixN (xs ++ [x]).length (-1) = some xs.length := by
    unfold ixN
    rw [if_neg (by omega), if_pos (by rw [List.length_append]; show -((xs.length + 1 : Nat) : Int) ≤ -1; omega), List.length_append]
    show some ((-1 : Int) + ((xs.length + 1 : Nat) : Int)).toNat = some xs.length
    congr 1
    omega
  unfold atI
  rw [h]
  simp
theorem dqa_snoc {H : Hp} : ∀ {ds : List PyData} {vs : List V}, DqA K H vs (ds ++ [d]) → ∃ ws w, vs = ws ++ [w] ∧ DqA K H ws ds ∧ Dq K H w d
  | [], vs, h => by
    cases h with
    | cons a b =>
    cases b
    exact ⟨[], _, rfl, .nil, a⟩
  | e :: ds, vs, h => by
    cases h with
    | cons a b =>
    obtain ⟨ws, w, rfl, h1, h2⟩ := dqa_snoc b
    exact ⟨_ :: ws, w, rfl, .cons a h1, h2⟩
theorem ed_ixLast (h : EvD K te σ G (.list (ds ++ [d]))) (hi : Ev ti σ G (.int (-1))) : EvD K (tOp (rIxL K) te ti) σ G d := fun H1 x Q q =>
  h H1 x _ fun v G2 H2 y hx => hi H2 (x.trans y.hh) _ fun H3 e3 => by
    cases hx with
    | @lst a xs _ ha hx =>
    obtain ⟨ws, w, rfl, _, gw⟩ := dqa_snoc hx
    exact ⟨a, _, _, w, rfl, rfl, SqL.of (e3 _ _ (y.gh _ _ ha)), atI_last _ _, q w G2 H3 ⟨y.hh.trans e3, y.gg, y.gh.trans e3, y.ag⟩ gw⟩
theorem ed_rev (h : EvD K te σ G (.list ds)) : EvD K (tRevL K te) σ G (.list ds.reverse) := fun H1 x Q q =>
  h H1 x _ fun v G2 H2 y hx => by
    cases hx with
    | @lst a xs _ ha hx =>
    refine ⟨a, xs, rfl, SqL.of (y.gh _ _ ha), fun p hp => ?_⟩
    exact q _ _ _ (y.more (o := .lst xs.reverse) hp (Ex.new hp) upd_same) (.lst upd_same ((dqa_rv hx).mono (same_ex (Ex.new (fresh_back y.gh hp)))))
where
  dqa_rv {G : Hp} : ∀ {vs : List V} {ds : List PyData}, DqA K G vs ds → DqA K G vs.reverse ds.reverse
  | _, _, .nil => .nil
  | _, _, .cons a b => by
    rw [List.reverse_cons, List.reverse_cons]
    exact dqa_app (dqa_rv b) a
theorem ev_lenD (h : EvD K te σ G (.list ds)) : Ev (tCB (rLenS K) (tCons te tNil)) σ G (.int (ds.length : Int)) := fun H1 x Q q =>
  h H1 x _ fun v G2 H2 y hx => by
    cases hx with
    | @lst a xs _ ha hx =>
    have hl := dqa_len hx
    refine ⟨a, xs, rfl, .inl (SqL.of (y.gh _ _ ha)), ?_⟩
    rw [hl]
    exact q H2 y.hh
theorem rd_sifX (h : EvT c σ G b) (e : Ex G H) (q1 : b = true → ∀ H2, Ex H H2 → t { D with nx := u D } σ H2) (q2 : b = false → ∀ H2, Ex H H2 → u D σ H2) : tSeq (tIfS c t tNext) u D σ H := h H e _ fun H2 e2 => by
  cases b with
  | true => exact q1 rfl H2 e2
  | false => exact q2 rfl H2 e2
theorem rd_ifX (h : EvT c σ G b) (e : Ex G H) (q1 : b = true → ∀ H2, Ex H H2 → t D σ H2) (q2 : b = false → ∀ H2, Ex H H2 → D.nx σ H2) : tIfS c t tNext D σ H := h H e _ fun H2 e2 => by
  cases b with
  | true => exact q1 rfl H2 e2
  | false => exact q2 rfl H2 e2
end
/-- a list of our own that grows at F, holding data that is known -/
structure Fnd (K : PySem.W.Frag) (G0 H0 : Hp) (F : Addr) (ds : List PyData) (G H : Hp) : Prop where
  hh : Ex H0 H
  gg : Ex G0 G
  gh : Ex G H
  gF : G F = none
  h0 : H0 F = none
  ag : ∀ a o, H0 a = some o → G a = G0 a
  at_ : ∃ vs, H F = some (.lst vs) ∧ DqA K G vs ds
section
variable {K : PySem.W.Frag} {σ : L2.St} {G0 H0 G H H2 : Hp} {F : Addr} {ds : List PyData} {d : PyData} {te : TE} {u : TS} {D : Ends} {i : Nat}
theorem Fnd.ex (s : Fnd K G0 H0 F ds G H) (e : Ex H H2) : Fnd K G0 H0 F ds G H2 := ⟨s.hh.trans e, s.gg, s.gh.trans e, s.gF, s.h0, s.ag, let ⟨vs, a, b⟩ := s.at_; ⟨vs, e _ _ a, b⟩⟩
theorem rd_push (s : Fnd K G0 H0 F ds G H) (hσ : σ[i]? = some (some (.ref F))) (h : EvD K te σ G d) (hl : ds.length ≤ 1000) (k : ∀ G2 H2, Fnd K G0 H0 F (ds ++ [d]) G2 H2 → Ex G G2 → D.nx σ H2) : tDrop (tBM K "list" rAppend (tVar i) (tCons te tNil)) D σ H := by
  obtain ⟨vs, hF, hd⟩ := s.at_
  refine ⟨_, hσ, .inl ⟨rfl, _, SqL.of hF⟩, ?_⟩
  refine h H s.gh _ fun v G2 H2 x hv => ?_
  have hF2 := x.hh _ _ hF
  have g2 : G2 F = none := (x.ag _ _ hF).trans s.gF
  have l1 := dqa_len hd
  refine ⟨F, vs, v, rfl, rfl, hF2, sz_lt (by omega), k G2 _ ⟨fun a o e => ?_, s.gg.trans x.gg, fun a o e => ?_, g2, s.h0, fun a o e => (x.ag a o (s.hh a o e)).trans (s.ag a o e), vs ++ [v], upd_same, dqa_app (hd.mono (same_ex x.gg)) hv⟩ x.gg⟩
  · rw [upd_ne (ne_of_none e s.h0)]
    exact x.hh _ _ (s.hh _ _ e)
  · rw [upd_ne (ne_of_none e g2)]
    exact x.gh _ _ e
theorem rd_spush (s : Fnd K G0 H0 F ds G H) (hσ : σ[i]? = some (some (.ref F))) (h : EvD K te σ G d) (hl : ds.length ≤ 1000) (k : ∀ G2 H2, Fnd K G0 H0 F (ds ++ [d]) G2 H2 → Ex G G2 → u D σ H2) : tSeq (tDrop (tBM K "list" rAppend (tVar i) (tCons te tNil))) u D σ H :=
  rd_push (D := { D with nx := u D }) s hσ h hl k
theorem rd_slst {ta : TA} {i : Nat} (h : EvDA K ta σ G ds) (e : Ex G H) (hl : ds.length ≤ 1000) (q : ∀ F G2 H2, Fnd K G H F ds G2 H2 → u D (σ.set i (some (.ref F))) H2) : tSeq (tAsg (tLst ta) (gName i)) u D σ H :=
  h H e (fun xs H1 => xs.length ≤ sizeLine ∧ ∀ p, H1 p = none → u D (σ.set i (some (.ref p))) (upd H1 p (.lst xs))) fun vs G2 H2 x hd => by
    have l1 := dqa_len hd
    exact ⟨sz_of (by omega), fun p hp => q p G2 _ ⟨x.hh.trans (Ex.new hp), x.gg, x.gh.trans (Ex.new hp), fresh_back x.gh hp, fresh_back x.hh hp, x.ag, vs, upd_same, hd⟩⟩
theorem Fnd.done (s : Fnd K G0 H0 F ds G H) : ∃ G2, Ext G0 H0 G2 H ∧ Dq K G2 (.ref F) (.list ds) := by
  obtain ⟨vs, hF, hd⟩ := s.at_
  refine ⟨upd G F (.lst vs), ⟨s.hh, s.gg.trans (Ex.new s.gF), fun a o h => ?_, fun a o h => ?_⟩, .lst upd_same (hd.mono (same_ex (Ex.new s.gF)))⟩
  · by_cases z : a = F
    · rw [z, upd_same] at h
      rw [z, hF]
      exact h
    · rw [upd_ne z] at h
      exact s.gh a o h
  · rw [upd_ne (ne_of_none h s.h0)]
    exact s.ag a o h
theorem ed_eq {e : PyData} (h : EvD K te σ G d) (he : d = e) : EvD K te σ G e := he ▸ h
theorem rd_sasgG {g : TG} (h : te σ H fun x H1 => g x σ H1 (u D)) : tSeq (tAsg te g) u D σ H := h
theorem rd_srngP {n j : Nat} {tb : TS} (Pv : Nat → L2.St → Hp → Prop) (h : Ev te σ G (.int (n : Int))) (e : Ex G H) (hn : n ≤ 1000) (h0 : ∀ H2, Ex H H2 → Pv 0 σ H2)
    (hb : ∀ (i : Nat) σ' H', i < n → Pv i σ' H' → tb { D with nx := Pv (i + 1), ct := Pv (i + 1), bk := u D } (σ'.set j (some (.int (i : Int)))) H') (hd : ∀ σ' H', Pv n σ' H' → u D σ' H') : tSeq (tFor (iRng1 (tCons te tNil)) (gName j) tb) u D σ H :=
  h H e _ fun H2 e2 => by
    refine ⟨(n : Int), rfl, by omega, by omega, ?_⟩
    rw [Int.toNat_natCast]
    refine for_range (lo := 0) (n := n) Pv (h0 H2 e2) (fun i σ' H' hi p => ?_) hd
    rw [Int.zero_add]
    exact hb i σ' H' hi p
end
end Kx

set_option Elab.async false
set_option maxRecDepth 100000
set_option linter.all false
set_option maxHeartbeats 4000000
namespace Lx
open PySem PySem.Spec PyProof.Rows L2 Evl Kx
section
variable {P : Program} {w : World} {K : PySem.W.Frag} {mg : Str → Option Value} {base : Heap} {f : Addr} {fd : FuncData}
abbrev sOt : Stmt := top 44
theorem scOt : FnScope ["parts", "rights", "owners", "functions", "name", "owner", "body", "found", "at", "name_here", "some"] ["parts"] (defScope sOt) := ⟨rfl, rfl, rfl, by decide +kernel, rfl, by decide +kernel, by decide +kernel⟩
structure spOt (K : PySem.W.Frag) (vs : List V) (H : Hp) (Q : VK) (E_ : XK) : Prop where
  mk' ::
  out : ∃ (pp : Addr) (G : Hp) (q : Prt) (m : Nat), vs = [.ref pp] ∧ Ex G H ∧ Dq K G (.ref pp) (prtD q) ∧ PrtOk m q ∧ 1 ≤ m ∧ m ≤ 4 ∧
  ∀ (v : V) (ps : List Prt) G2 H2, Ext G H G2 H2 → Dq K G2 v (.list (ps.map prtD)) → (∀ p ∈ ps, Oth q p) → ps.length ≤ 100 → Q v H2
theorem zz_no {n : Nat} {l : List Str} (h : l = rights3.take n ∨ l = names4.take n) : ("zz" : Str) ∉ l := fun hm => by
  rcases h with rfl | rfl
  · have := List.mem_of_mem_take hm
    exact absurd this (by decide +kernel)
  · have := List.mem_of_mem_take hm
    exact absurd this (by decide +kernel)
theorem fn_in {H : Hp} {v : V} {g : Fn} (h : Dq K H v (fnD g)) : ∃ a pl, v = .ref a ∧ SqT K H a [.str g.1, .str g.2.1, .ref pl] ∧ Dq K H (.ref pl) (.list (bodyD g.2.2)) := by
  cases h with
  | tup hT hy =>
  cases hy with
  | cons g0 hy =>
  cases g0
  cases hy with
  | cons g1 hy =>
  cases g1
  cases hy with
  | cons g2 hy =>
  cases hy
  have g2' := g2
  cases g2 with
  | lst hl hs => exact ⟨_, _, rfl, hT, g2'⟩
theorem own_in {H : Hp} {v : V} {o : Own} (h : Dq K H v (ownD o)) : ∃ a pl, v = .ref a ∧ SqT K H a [.str o.1, .ref pl] ∧ Dq K H (.ref pl) (strsD o.2) := by
  cases h with
  | tup hT hy =>
  cases hy with
  | cons g0 hy =>
  cases g0
  cases hy with
  | cons g1 hy =>
  cases hy
  have g1' := g1
  cases g1 with
  | lst hl hs => exact ⟨_, _, rfl, hT, g1'⟩
theorem rd_ifpush {σ : L2.St} {G0 H0 G H : Hp} {Fa : Addr} {ps : List Prt} {p : Prt} {te : TE} {c : TT} {D : Ends} {b : Bool} {i : Nat} (s : Fnd K G0 H0 Fa (ps.map prtD) G H) (hσ : σ[i]? = some (some (.ref Fa))) (hc : EvT c σ G b) (hE : b = true → EvD K te σ G (prtD p)) (hl : ps.length ≤ 100)
    (k : ∀ qs G2 H2, Fnd K G0 H0 Fa (qs.map prtD) G2 H2 → (qs = ps ∨ (b = true ∧ qs = ps ++ [p])) → D.nx σ H2) : tIfS c (tDrop (tBM K "list" rAppend (tVar i) (tCons te tNil))) tNext D σ H :=
  rd_ifX hc s.gh (fun hb H2 e2 => rd_push (s.ex e2) hσ (hE hb) (by rw [List.length_map]; omega) fun G3 H3 s3 e3 => k (ps ++ [p]) G3 H3 (by rw [List.map_append]; exact s3) (.inr ⟨hb, rfl⟩)) fun _ H2 e2 => k ps G H2 (s.ex e2) (.inl rfl)
theorem rd_sifpush {σ : L2.St} {G0 H0 G H : Hp} {Fa : Addr} {ps : List Prt} {p : Prt} {te : TE} {c : TT} {u : TS} {D : Ends} {b : Bool} {i : Nat} (s : Fnd K G0 H0 Fa (ps.map prtD) G H) (hσ : σ[i]? = some (some (.ref Fa))) (hc : EvT c σ G b) (hE : b = true → EvD K te σ G (prtD p)) (hl : ps.length ≤ 100)
    (k : ∀ qs G2 H2, Fnd K G0 H0 Fa (qs.map prtD) G2 H2 → (qs = ps ∨ (b = true ∧ qs = ps ++ [p])) → u D σ H2) : tSeq (tIfS c (tDrop (tBM K "list" rAppend (tVar i) (tCons te tNil))) tNext) u D σ H := rd_ifpush (D := { D with nx := u D }) s hσ hc hE hl k
theorem oth_more {q : Prt} {ps qs : List Prt} {p : Prt} {b : Bool} (c : ∀ x ∈ ps, Oth q x) (h : qs = ps ∨ (b = true ∧ qs = ps ++ [p])) (ho : b = true → Oth q p) : (∀ x ∈ qs, Oth q x) ∧ qs.length ≤ ps.length + 1 := by
  rcases h with rfl | ⟨hb, rfl⟩
  · exact ⟨c, Nat.le_succ _⟩
  · exact ⟨fun x hx => (List.mem_append.mp hx).elim (c x) fun h => List.mem_singleton.mp h ▸ ho hb, by rw [List.length_append]; exact Nat.le_refl _⟩
theorem ok_ot (F : Fun K "_law_others" "_law_others" sOt f fd) (mLen : mg "len" = none) (mRng : mg "range" = none) : FnOk P w K mg base CX0 1 f fd ["parts"] (spOt K) := by
  refine F.ok scOt (fun vs H Q E h => ?_) (fun cdv A outer s H vs Q E hr h => ?_)
  · obtain ⟨_, _, _, _, rfl, _⟩ := h
    rfl
  · obtain ⟨pp, G0, q, m, rfl, eG, hp, ok, m1, m4, fin⟩ := h
    have hu := hr.units
    refine ⟨_, pss_cons (ps_asg (pv 0) (pg_unl rfl (pgs_cons (pg_name (i := 1) scOt.nd rfl (Or.inl rfl)) (pgs_cons (pg_name (i := 2) scOt.nd rfl (Or.inl rfl)) (pgs_cons (pg_name (i := 3) scOt.nd rfl (Or.inl rfl)) pgs_nil)))))
      (pss_cons (ps_asg (pe_ix ix_list (pv 3) (pe_un un_neg pe_int) (fun _ _ => rfl)) (pg_tup rfl (pgs_cons (pg_name (i := 4) scOt.nd rfl (Or.inl rfl)) (pgs_cons (pg_name (i := 5) scOt.nd rfl (Or.inl rfl)) (pgs_cons (pg_name (i := 6) scOt.nd rfl (Or.inl rfl)) pgs_nil)))))
      (pss_cons (ps_set (i := 7) scOt.nd rfl (Or.inl rfl) (pe_lst (pa_cons (pe_lst (pa_cons (pe_op op_cat (pv 1) (pe_lst (pa_cons pe_str pa_nil))) (pa_cons (pv 2) (pa_cons (pv 3) pa_nil)))) (pa_cons (pe_lst (pa_cons (pv 1) (pa_cons (pe_op op_cat (pv 2) (pe_lst (pa_cons (pe_tup (pa_cons pe_str (pa_cons (pe_lst pa_nil) pa_nil))) pa_nil))) (pa_cons (pv 3) pa_nil)))) pa_nil))))
      (pss_cons (ps_expr (pe_bm PySem.F.plainAttrs_list PySem.F.slot_list_append PySem.F.type_list_append mt_append (pv 7) (pa_cons (pe_lst (pa_cons (pv 1) (pa_cons (pv 2) (pa_cons (pe_op op_cat (pv 3) (pe_lst (pa_cons (pe_tup (pa_cons pe_str (pa_cons (pv 5) (pa_cons (pe_lst pa_nil) pa_nil)))) pa_nil))) pa_nil)))) pa_nil)))
      (pss_cons (ps_expr (pe_bm PySem.F.plainAttrs_list PySem.F.slot_list_append PySem.F.type_list_append mt_append (pv 7) (pa_cons (pe_lst (pa_cons (pv 1) (pa_cons (pv 2) (pa_cons (pe_op op_cat (pe_slice sl_list (pv 3) po_none (po_some (pe_un un_neg pe_int))) (pe_lst (pa_cons (pe_tup (pa_cons (pv 4) (pa_cons (pv 5) (pa_cons (pe_op op_cat (pv 6) (pe_lst (pa_cons (pe_tup (pa_cons pe_str pa_nil)) pa_nil))) pa_nil)))) pa_nil))) pa_nil)))) pa_nil)))
      (pss_cons (ps_expr (pe_bm PySem.F.plainAttrs_list PySem.F.slot_list_append PySem.F.type_list_append mt_append (pv 7) (pa_cons (pe_lst (pa_cons (pv 1) (pa_cons (pv 2) (pa_cons (pe_op op_cat (pe_slice sl_list (pv 3) po_none (po_some (pe_un un_neg pe_int))) (pe_lst (pa_cons (pe_tup (pa_cons (pv 4) (pa_cons (pv 5) (pa_cons (pe_lst (pa_cons (pe_tup (pa_cons pe_str (pa_cons pe_bl (pa_cons (pv 6) pa_nil)))) pa_nil)) pa_nil)))) pa_nil))) pa_nil)))) pa_nil)))
      (pss_cons (ps_expr (pe_bm PySem.F.plainAttrs_list PySem.F.slot_list_append PySem.F.type_list_append mt_append (pv 7) (pa_cons (pe_lst (pa_cons (pv 1) (pa_cons (pe_op op_cat (pe_slice sl_list (pv 2) po_none (po_some (pe_un un_neg pe_int))) (pe_lst (pa_cons (pe_tup (pa_cons (pe_ix ix_tup (pe_ix ix_list (pv 2) (pe_un un_neg pe_int) (fun _ _ => rfl)) pe_int (fun _ _ => rfl)) (pa_cons (pe_ifExp (pt_cmpR (op_neD hu) (pe_ix ix_tup (pe_ix ix_list (pv 2) (pe_un un_neg pe_int) (fun _ _ => rfl)) pe_int (fun _ _ => rfl)) (pe_lst pa_nil) (nomark _)) (pe_lst pa_nil) (pe_slice sl_list (pv 1) po_none (po_some pe_int))) pa_nil))) pa_nil))) (pa_cons (pv 3) pa_nil)))) pa_nil)))
      (pss_cons (ps_if (pt_cmpR op_gt (pe_callB call_len_seq (by rfl) mLen PySem.boot_len (pa_cons (pv 3) pa_nil)) pe_int (nomark _)) (pss_one (ps_expr (pe_bm PySem.F.plainAttrs_list PySem.F.slot_list_append PySem.F.type_list_append mt_append (pv 7) (pa_cons (pe_lst (pa_cons (pv 1) (pa_cons (pv 2) (pa_cons (pe_revL (pv 3)) pa_nil)))) pa_nil)))) pss_nil)
      (pss_cons (ps_if (pt_cmpR op_gt (pe_callB call_len_seq (by rfl) mLen PySem.boot_len (pa_cons (pv 1) pa_nil)) pe_int (nomark _)) (pss_one (ps_expr (pe_bm PySem.F.plainAttrs_list PySem.F.slot_list_append PySem.F.type_list_append mt_append (pv 7) (pa_cons (pe_lst (pa_cons (pe_revL (pv 1)) (pa_cons (pv 2) (pa_cons (pv 3) pa_nil)))) pa_nil)))) pss_nil)
      (pss_cons (ps_for PassesOwn.never rfl (pi_range1 (by rfl) mRng (pa_cons (pe_callB call_len_seq (by rfl) mLen PySem.boot_len (pa_cons (pv 2) pa_nil)) pa_nil)) (pg_name (i := 8) scOt.nd rfl (Or.inl rfl)) (pss_cons (ps_asg (pe_ix ix_list (pv 2) (pv 8) (fun _ _ => rfl)) (pg_tup rfl (pgs_cons (pg_name (i := 9) scOt.nd rfl (Or.inl rfl)) (pgs_cons (pg_name (i := 10) scOt.nd rfl (Or.inl rfl)) pgs_nil)))) (pss_cons (ps_if (pt_cmpR op_gt (pe_callB call_len_seq (by rfl) mLen PySem.boot_len (pa_cons (pv 10) pa_nil)) pe_int (nomark _)) (pss_one (ps_expr (pe_bm PySem.F.plainAttrs_list PySem.F.slot_list_append PySem.F.type_list_append mt_append (pv 7) (pa_cons (pe_lst (pa_cons (pv 1) (pa_cons (pe_op op_cat (pe_op op_cat (pe_slice sl_list (pv 2) po_none (po_some (pv 8))) (pe_lst (pa_cons (pe_tup (pa_cons (pv 9) (pa_cons (pe_revL (pv 10)) pa_nil))) pa_nil))) (pe_slice sl_list (pv 2) (po_some (pe_op op_add (pv 8) pe_int)) po_none)) (pa_cons (pv 3) pa_nil)))) pa_nil)))) pss_nil) (pss_one (ps_if (pt_cmpR op_ne (pv 9) (pv 5) (nomark _)) (pss_one (ps_expr (pe_bm PySem.F.plainAttrs_list PySem.F.slot_list_append PySem.F.type_list_append mt_append (pv 7) (pa_cons (pe_lst (pa_cons (pv 1) (pa_cons (pv 2) (pa_cons (pe_op op_cat (pe_slice sl_list (pv 3) po_none (po_some (pe_un un_neg pe_int))) (pe_lst (pa_cons (pe_tup (pa_cons (pv 4) (pa_cons (pv 9) (pa_cons (pv 6) pa_nil)))) pa_nil))) pa_nil)))) pa_nil)))) pss_nil)))))
      (pss_cons (ps_if (pt_cmpR op_gt (pe_callB call_len_seq (by rfl) mLen PySem.boot_len (pa_cons (pv 2) pa_nil)) pe_int (nomark _)) (pss_one (ps_expr (pe_bm PySem.F.plainAttrs_list PySem.F.slot_list_append PySem.F.type_list_append mt_append (pv 7) (pa_cons (pe_lst (pa_cons (pv 1) (pa_cons (pe_revL (pv 2)) (pa_cons (pv 3) pa_nil)))) pa_nil)))) pss_nil)
      (pss_one (ps_ret (pv 7))))))))))))), ?_⟩
    have n := PrtOk.nice ok m1 m4
    obtain ⟨k, hk, hrs⟩ := ok.rs
    obtain ⟨a1, a2, a3, h0, h1, h2, h3⟩ := prt_at hp
    obtain ⟨fi, g, hf⟩ : ∃ fi g, q.fs = fi ++ [g] := by
      have := n.fe
      exact ⟨q.fs.dropLast, q.fs.getLast (fun z => by rw [z] at this; simp at this), (List.dropLast_concat_getLast _).symm⟩
    obtain ⟨oi, ol, ho⟩ : ∃ oi ol, q.os = oi ++ [ol] := by
      have := n.oe
      exact ⟨q.os.dropLast, q.os.getLast (fun z => by rw [z] at this; simp at this), (List.dropLast_concat_getLast _).symm⟩
    have gm : g ∈ q.fs := by rw [hf]; exact List.mem_append_right _ (List.mem_singleton.mpr rfl)
    have om : ol ∈ q.os := by rw [ho]; exact List.mem_append_right _ (List.mem_singleton.mpr rfl)
    obtain ⟨g1, g2, g3, g4⟩ := ok.fs g gm
    rw [← ok.ns] at g2
    have hff : q.fs.map fnD = fi.map fnD ++ [fnD g] := by rw [hf]; simp
    have hoo : q.os.map ownD = oi.map ownD ++ [ownD ol] := by rw [ho]; simp
    have rl : q.rs.length ≤ 3 := by rw [hrs, List.length_take]; have e : rights3.length = 3 := rfl; omega
    have fl : q.fs.length ≤ 4 := by
      have := congrArg List.length ok.ns
      rw [List.length_map, List.length_take] at this
      omega
    have ol3 := ok.os.le
    have il : fi.length ≤ 3 := by have := congrArg List.length hf; simp at this; omega
    have jl : oi.length ≤ 2 := by have := congrArg List.length ho; simp at this; omega
    have bl : (bodyD g.2.2).length ≤ 12 := by rw [bodyD_map, List.length_map]; have := len_cnt g.2.2; omega
    refine ⟨_, rfl, pp, _, rfl, SqL.of (eG _ _ h0), rfl, _, _, rfl, _, _, rfl, _, _, rfl, rfl, ?_⟩
    refine rd_nx (rd_sasgG ?_)
    rw [hff] at h3
    refine (ed_ixLast (K := K) (ds := fi.map fnD) (d := fnD g) (ed_var rfl h3) (ev_un ev_c (fun H1 e Q q => ⟨_, rfl, q H1 (Ex.refl H1)⟩))) H eG _ fun x G H1 y1 hx => ?_
    obtain ⟨ta, pb, rfl, hT, hB⟩ := fn_in hx
    refine ⟨ta, _, rfl, sqt_ex (same_ex y1.gh) hT, rfl, _, _, rfl, _, _, rfl, _, _, rfl, rfl, ?_⟩
    have hR := dq_strs (K := K) (y1.gg _ _ h1)
    have hO := h2.mono (same_ex y1.gg)
    have hF := h3.mono (same_ex y1.gg)
    rw [hoo] at hO
    refine rd_slst (K := K) (G := G) (ds := [prtD ⟨q.rs ++ [("zz" : Str)], q.os, q.fs⟩, prtD ⟨q.rs, q.os ++ [(("zz" : Str), ([] : List Str))], q.fs⟩]) (da_cons (ed_eq (ed_lst (da_cons (ed_cat (ed_var rfl hR) (ed_lst (da_cons ed_str eda_nil) (Nat.le_of_ble_eq_true rfl)) (by simp; omega)) (da_cons (ed_var rfl hO) (da_cons (ed_var rfl hF) eda_nil))) (Nat.le_of_ble_eq_true rfl)) (by simp [prtD, strsD, hff, hoo])) (da_cons (ed_eq (ed_lst (da_cons (ed_var rfl hR) (da_cons (ed_cat (ed_var rfl hO) (ed_lst (da_cons (ed_tup (da_cons ed_str (da_cons (ed_lst eda_nil (Nat.le_of_ble_eq_true rfl)) eda_nil)) (Nat.le_of_ble_eq_true rfl)) eda_nil) (Nat.le_of_ble_eq_true rfl)) (by simp; omega)) (da_cons (ed_var rfl hF) eda_nil))) (Nat.le_of_ble_eq_true rfl)) (by simp [prtD, strsD, ownD, hff, hoo])) eda_nil)) y1.gh (by simp) fun Fa G2 H2 s2 => ?_

    have c2 : ∀ x ∈ [(⟨q.rs ++ [("zz" : Str)], q.os, q.fs⟩ : Prt), ⟨q.rs, q.os ++ [(("zz" : Str), ([] : List Str))], q.fs⟩], Oth q x := fun x hx => by
      rcases List.mem_cons.mp hx with rfl | hx
      · exact oth_zzr n (by omega) (zz_no (.inl hrs))
      · rw [List.mem_singleton.mp hx]
        exact oth_zzo n (by omega) fun hm => by
          obtain ⟨o, h1, h2⟩ := List.mem_map.mp hm
          have := (ok.os.ok o h1).1
          rw [h2] at this
          exact absurd this (by decide +kernel)
    replace s2 : Fnd K G H1 Fa ([(⟨q.rs ++ [("zz" : Str)], q.os, q.fs⟩ : Prt), ⟨q.rs, q.os ++ [(("zz" : Str), ([] : List Str))], q.fs⟩].map prtD) G2 H2 := s2
    generalize hp2 : [(⟨q.rs ++ [("zz" : Str)], q.os, q.fs⟩ : Prt), ⟨q.rs, q.os ++ [(("zz" : Str), ([] : List Str))], q.fs⟩] = p2 at s2 c2
    have l2 : p2.length = 2 := by rw [← hp2]; rfl
    clear hp2
    have hR2 := hR.mono (same_ex s2.gg)
    have hO2 := hO.mono (same_ex s2.gg)
    have hF2 := hF.mono (same_ex s2.gg)
    have hB2 := hB.mono (same_ex s2.gg)
    have oth2 : Oth q (⟨q.rs, q.os, q.fs ++ [(("zz" : Str), g.2.1, ([] : List Stp))]⟩ : Prt) := oth_zzf n (by omega) (zz_no (.inr ok.ns)) (n.fm g gm).2.1
    refine rd_spush (d := prtD (⟨q.rs, q.os, q.fs ++ [(("zz" : Str), g.2.1, ([] : List Stp))]⟩ : Prt)) s2 rfl (ed_eq (ed_lst (da_cons (ed_var rfl hR2) (da_cons (ed_var rfl hO2) (da_cons (ed_cat (ed_var rfl hF2) (ed_lst (da_cons (ed_tup (da_cons ed_str (da_cons (ed_var rfl (.str _)) (da_cons (ed_lst eda_nil (Nat.le_of_ble_eq_true rfl)) eda_nil))) (Nat.le_of_ble_eq_true rfl)) eda_nil) (Nat.le_of_ble_eq_true rfl)) (by simp; omega)) eda_nil))) (Nat.le_of_ble_eq_true rfl)) (by simp [prtD, strsD, ownD, fnD, bodyD_map, stpD, hff, hoo])) (by rw [List.length_map]; omega) fun G3 H3 s3 e3 => ?_
    replace s3 : Fnd K G H1 Fa ((p2 ++ [(⟨q.rs, q.os, q.fs ++ [(("zz" : Str), g.2.1, ([] : List Stp))]⟩ : Prt)]).map prtD) G3 H3 := by rw [List.map_append]; exact s3
    have c3 : ∀ x ∈ p2 ++ [(⟨q.rs, q.os, q.fs ++ [(("zz" : Str), g.2.1, ([] : List Stp))]⟩ : Prt)], Oth q x := fun x hx => (List.mem_append.mp hx).elim (c2 x) fun h => List.mem_singleton.mp h ▸ oth2
    have l3 : (p2 ++ [(⟨q.rs, q.os, q.fs ++ [(("zz" : Str), g.2.1, ([] : List Stp))]⟩ : Prt)]).length = 3 := by rw [List.length_append, l2]; rfl
    generalize p2 ++ [(⟨q.rs, q.os, q.fs ++ [(("zz" : Str), g.2.1, ([] : List Stp))]⟩ : Prt)] = p3 at s3 c3 l3
    have hR3 := hR.mono (same_ex s3.gg)
    have hO3 := hO.mono (same_ex s3.gg)
    have hF3 := hF.mono (same_ex s3.gg)
    have hB3 := hB.mono (same_ex s3.gg)
    have oth3 : Oth q (⟨q.rs, q.os, fi ++ [(g.1, g.2.1, g.2.2 ++ [.back])]⟩ : Prt) := oth_last n hf (n.fm g gm).2.1 (okB_app (n.fm g gm).2.2.1 (by simp only [Kx.okB, okS, Bool.and_self])) (by rw [nstB_app]; simp only [nstB, nstS]; omega) (by rw [cntB_app]; simp only [cntB, cntS]; omega) fun e => by have := congrArg List.length e.2; simp at this
    refine rd_spush (d := prtD (⟨q.rs, q.os, fi ++ [(g.1, g.2.1, g.2.2 ++ [.back])]⟩ : Prt)) s3 rfl (ed_eq (ed_lst (da_cons (ed_var rfl hR3) (da_cons (ed_var rfl hO3) (da_cons (ed_cat (ed_init (ds := fi.map fnD) (d := fnD g) (ed_var rfl hF3) (fun _ _ => eo_none) (fun _ _ => eo_some (ev_un ev_c (fun H1 e Q q => ⟨_, rfl, q H1 (Ex.refl H1)⟩)))) (ed_lst (da_cons (ed_tup (da_cons (ed_var rfl (.str _)) (da_cons (ed_var rfl (.str _)) (da_cons (ed_cat (ed_var rfl hB3) (ed_lst (da_cons (ed_tup (da_cons ed_str eda_nil) (Nat.le_of_ble_eq_true rfl)) eda_nil) (Nat.le_of_ble_eq_true rfl)) (by simp; omega)) eda_nil))) (Nat.le_of_ble_eq_true rfl)) eda_nil) (Nat.le_of_ble_eq_true rfl)) (by simp; omega)) eda_nil))) (Nat.le_of_ble_eq_true rfl)) (by simp [prtD, strsD, ownD, fnD, bodyD_map, stpD, hff, hoo])) (by rw [List.length_map]; omega) fun G4 H4 s4 e4 => ?_
    replace s4 : Fnd K G H1 Fa ((p3 ++ [(⟨q.rs, q.os, fi ++ [(g.1, g.2.1, g.2.2 ++ [.back])]⟩ : Prt)]).map prtD) G4 H4 := by rw [List.map_append]; exact s4
    have c4 : ∀ x ∈ p3 ++ [(⟨q.rs, q.os, fi ++ [(g.1, g.2.1, g.2.2 ++ [.back])]⟩ : Prt)], Oth q x := fun x hx => (List.mem_append.mp hx).elim (c3 x) fun h => List.mem_singleton.mp h ▸ oth3
    have l4 : (p3 ++ [(⟨q.rs, q.os, fi ++ [(g.1, g.2.1, g.2.2 ++ [.back])]⟩ : Prt)]).length = 4 := by rw [List.length_append, l3]; rfl
    generalize p3 ++ [(⟨q.rs, q.os, fi ++ [(g.1, g.2.1, g.2.2 ++ [.back])]⟩ : Prt)] = p4 at s4 c4 l4
    have hR4 := hR.mono (same_ex s4.gg)
    have hO4 := hO.mono (same_ex s4.gg)
    have hF4 := hF.mono (same_ex s4.gg)
    have hB4 := hB.mono (same_ex s4.gg)
    have oth4 : Oth q (⟨q.rs, q.os, fi ++ [(g.1, g.2.1, [.block false g.2.2])]⟩ : Prt) := oth_last n hf (n.fm g gm).2.1 (by simp only [Kx.okB, okS, Bool.or_self, Bool.and_true]; exact (n.fm g gm).2.2.1) (by simp only [nstB, nstS]; omega) (by simp only [cntB, cntS]; omega) fun e => by have := congrArg cntB e.2; simp only [cntB, cntS] at this; omega
    refine rd_spush (d := prtD (⟨q.rs, q.os, fi ++ [(g.1, g.2.1, [.block false g.2.2])]⟩ : Prt)) s4 rfl (ed_eq (ed_lst (da_cons (ed_var rfl hR4) (da_cons (ed_var rfl hO4) (da_cons (ed_cat (ed_init (ds := fi.map fnD) (d := fnD g) (ed_var rfl hF4) (fun _ _ => eo_none) (fun _ _ => eo_some (ev_un ev_c (fun H1 e Q q => ⟨_, rfl, q H1 (Ex.refl H1)⟩)))) (ed_lst (da_cons (ed_tup (da_cons (ed_var rfl (.str _)) (da_cons (ed_var rfl (.str _)) (da_cons (ed_lst (da_cons (ed_tup (da_cons ed_str (da_cons ed_bl (da_cons (ed_var rfl hB4) eda_nil))) (Nat.le_of_ble_eq_true rfl)) eda_nil) (Nat.le_of_ble_eq_true rfl)) eda_nil))) (Nat.le_of_ble_eq_true rfl)) eda_nil) (Nat.le_of_ble_eq_true rfl)) (by simp; omega)) eda_nil))) (Nat.le_of_ble_eq_true rfl)) (by simp [prtD, strsD, ownD, fnD, bodyD_map, stpD, hff, hoo])) (by rw [List.length_map]; omega) fun G5 H5 s5 e5 => ?_
    replace s5 : Fnd K G H1 Fa ((p4 ++ [(⟨q.rs, q.os, fi ++ [(g.1, g.2.1, [.block false g.2.2])]⟩ : Prt)]).map prtD) G5 H5 := by rw [List.map_append]; exact s5
    have c5 : ∀ x ∈ p4 ++ [(⟨q.rs, q.os, fi ++ [(g.1, g.2.1, [.block false g.2.2])]⟩ : Prt)], Oth q x := fun x hx => (List.mem_append.mp hx).elim (c4 x) fun h => List.mem_singleton.mp h ▸ oth4
    have l5 : (p4 ++ [(⟨q.rs, q.os, fi ++ [(g.1, g.2.1, [.block false g.2.2])]⟩ : Prt)]).length = 5 := by rw [List.length_append, l4]; rfl
    generalize p4 ++ [(⟨q.rs, q.os, fi ++ [(g.1, g.2.1, [.block false g.2.2])]⟩ : Prt)] = p5 at s5 c5 l5
    have shl : SeqAt.shaped (strsD ol.2) = true := List.all_eq_true.mp allSh_ok ol.2 (sub_mem (ok.os.ok ol om).2.1 fun x hx => by have := (ok.os.ok ol om).2.2 x hx; rw [hrs] at this; exact List.mem_of_mem_take this)
    have eq6 : PyData.eqv (strsD ol.2) (.list []) = true → ol.2 = [] := fun h => strs_inj (b := []) (eqv_eq (pure_strs _) (pure_strs []) h)
    have hR5 := hR.mono (same_ex s5.gg)
    have hO5 := hO.mono (same_ex s5.gg)
    have hF5 := hF.mono (same_ex s5.gg)
    have hB5 := hB.mono (same_ex s5.gg)
    have oth5 : Oth q (⟨q.rs, oi ++ [(ol.1, (bif (!PyData.eqv (strsD ol.2) (.list [])) then [] else q.rs.take 1))], q.fs⟩ : Prt) := oth_own n (oj := []) ho (by cases (!PyData.eqv (strsD ol.2) (.list [])) <;> simp; exact take_nd n.rn) (fun r hr => by
      cases h : (!PyData.eqv (strsD ol.2) (.list [])) with
      | true => rw [h] at hr; cases hr
      | false => rw [h] at hr; exact List.mem_of_mem_take hr) (fun e => by
      cases h : PyData.eqv (strsD ol.2) (.list []) with
      | false =>
        rw [h] at e
        have e' : ol.2 = [] := e.symm
        rw [e'] at h
        exact absurd h (by decide +kernel)
      | true =>
        rw [h, eq6 h] at e
        have := congrArg List.length e
        have h1 := n.re
        simp at this
        rw [this] at h1
        simp at h1)
    refine rd_spush (d := prtD (⟨q.rs, oi ++ [(ol.1, (bif (!PyData.eqv (strsD ol.2) (.list [])) then [] else q.rs.take 1))], q.fs⟩ : Prt)) s5 rfl (ed_eq (ed_lst (da_cons (ed_var rfl hR5) (da_cons (ed_cat (ed_init (ds := oi.map ownD) (d := ownD ol) (ed_var rfl hO5) (fun _ _ => eo_none) (fun _ _ => eo_some (ev_un ev_c (fun H1 e Q q => ⟨_, rfl, q H1 (Ex.refl H1)⟩)))) (ed_lst (da_cons (ed_tup (da_cons (ed_ixT (i := 0) (ds := [.str ol.1, strsD ol.2]) (ed_ixLast (ds := oi.map ownD) (d := ownD ol) (ed_var rfl hO5) (ev_un ev_c (fun H1 e Q q => ⟨_, rfl, q H1 (Ex.refl H1)⟩))) ev_c rfl) (da_cons (ed_if (d := strsD (bif (!PyData.eqv (strsD ol.2) (.list [])) then [] else q.rs.take 1)) (b := !PyData.eqv (strsD ol.2) (.list [])) (et_neD (ed_ixT (i := 1) (ds := [.str ol.1, strsD ol.2]) (ed_ixLast (ds := oi.map ownD) (d := ownD ol) (ed_var rfl hO5) (ev_un ev_c (fun H1 e Q q => ⟨_, rfl, q H1 (Ex.refl H1)⟩))) ev_c rfl) (ed_lst eda_nil (Nat.le_of_ble_eq_true rfl)) (shaped_noDict shl) rfl shl (by decide +kernel)) (fun h => by rw [h]; exact (ed_lst eda_nil (Nat.le_of_ble_eq_true rfl))) (fun h => by rw [h]; exact ed_eq (ed_take 1 (ed_var rfl hR5) (fun _ _ => eo_some ev_c)) (by simp [strsD, List.map_take]))) eda_nil)) (Nat.le_of_ble_eq_true rfl)) eda_nil) (Nat.le_of_ble_eq_true rfl)) (by simp; omega)) (da_cons (ed_var rfl hF5) eda_nil))) (Nat.le_of_ble_eq_true rfl)) (by simp [prtD, strsD, ownD, fnD, bodyD_map, stpD, hff, hoo])) (by rw [List.length_map]; omega) fun G6 H6 s6 e6 => ?_
    replace s6 : Fnd K G H1 Fa ((p5 ++ [(⟨q.rs, oi ++ [(ol.1, (bif (!PyData.eqv (strsD ol.2) (.list [])) then [] else q.rs.take 1))], q.fs⟩ : Prt)]).map prtD) G6 H6 := by rw [List.map_append]; exact s6
    have c6 : ∀ x ∈ p5 ++ [(⟨q.rs, oi ++ [(ol.1, (bif (!PyData.eqv (strsD ol.2) (.list [])) then [] else q.rs.take 1))], q.fs⟩ : Prt)], Oth q x := fun x hx => (List.mem_append.mp hx).elim (c5 x) fun h => List.mem_singleton.mp h ▸ oth5
    have l6 : (p5 ++ [(⟨q.rs, oi ++ [(ol.1, (bif (!PyData.eqv (strsD ol.2) (.list [])) then [] else q.rs.take 1))], q.fs⟩ : Prt)]).length = 6 := by rw [List.length_append, l5]; rfl
    generalize p5 ++ [(⟨q.rs, oi ++ [(ol.1, (bif (!PyData.eqv (strsD ol.2) (.list [])) then [] else q.rs.take 1))], q.fs⟩ : Prt)] = p6 at s6 c6 l6
    have ii : ∀ {i j : Nat}, decide ((j : Int) < (i : Int)) = true → j < i := fun h => by have := of_decide_eq_true h; omega
    have hR6 := hR.mono (same_ex s6.gg)
    have hO6 := hO.mono (same_ex s6.gg)
    have hF6 := hF.mono (same_ex s6.gg)
    have hB6 := hB.mono (same_ex s6.gg)
    refine rd_sifpush (p := ⟨q.rs, q.os, q.fs.reverse⟩) s6 rfl (et_test (ev_op (ev_lenD (ed_var rfl hF6)) ev_c (fun H1 e Q q => ⟨_, _, rfl, rfl, q H1 (Ex.refl H1)⟩))) (fun hb => ed_eq (ed_lst (da_cons (ed_var rfl hR6) (da_cons (ed_var rfl hO6) (da_cons (ed_rev (ed_var rfl hF6)) eda_nil))) (Nat.le_of_ble_eq_true rfl)) (by simp only [prtD, hoo, List.map_reverse, hff])) (by omega) fun p7 G7 H7 s7 h7 => ?_
    obtain ⟨c7, l7⟩ := oth_more c6 h7 fun hb => oth_revf n (by have := ii (j := 1) hb; simpa [← hff] using this)
    have hR7 := hR.mono (same_ex s7.gg)
    have hO7 := hO.mono (same_ex s7.gg)
    have hF7 := hF.mono (same_ex s7.gg)
    have hB7 := hB.mono (same_ex s7.gg)
    refine rd_sifpush (p := ⟨q.rs.reverse, q.os, q.fs⟩) s7 rfl (et_test (ev_op (ev_lenD (ed_var rfl hR7)) ev_c (fun H1 e Q q => ⟨_, _, rfl, rfl, q H1 (Ex.refl H1)⟩))) (fun hb => ed_eq (ed_lst (da_cons (ed_rev (ed_var rfl hR7)) (da_cons (ed_var rfl hO7) (da_cons (ed_var rfl hF7) eda_nil))) (Nat.le_of_ble_eq_true rfl)) (by simp [prtD, strsD, hff, hoo, ← List.map_reverse])) (by omega) fun p8 G8 H8 s8 h8 => ?_
    obtain ⟨c8, l8⟩ := oth_more c7 h8 fun hb => oth_revr n (by have := ii (j := 1) hb; simpa using this)
    have hR8 := hR.mono (same_ex s8.gg)
    have hO8 := hO.mono (same_ex s8.gg)
    have hF8 := hF.mono (same_ex s8.gg)
    have hB8 := hB.mono (same_ex s8.gg)
    refine rd_srngP (n := q.os.length) (fun i σ' H' => ∃ (pz : List Prt) (Gz : Hp) (o8 o9 o10 : Option V), σ' = [some (.ref pp), some (.ref a1), some (.ref a2), some (.ref a3), some (.str g.1), some (.str g.2.1), some (.ref pb), some (.ref Fa), o8, o9, o10] ∧ Fnd K G H1 Fa (pz.map prtD) Gz H' ∧ (∀ x ∈ pz, Oth q x) ∧ pz.length ≤ 8 + 2 * i) (ev_is (ev_lenD (ed_var rfl hO8)) (by rw [← hoo, List.length_map])) s8.gh (by omega) (fun H2 e2 => ⟨p8, G8, _, _, _, rfl, s8.ex e2, c8, by omega⟩) ?_ ?_
    · rintro i σ' H' hi ⟨pz, Gz, o8, o9, o10, rfl, sz, cz, lz⟩
      have hRz := hR.mono (same_ex sz.gg)
      have hOz := hO.mono (same_ex sz.gg)
      have hFz := hF.mono (same_ex sz.gg)
      have hBz := hB.mono (same_ex sz.gg)
      rw [← hoo] at hOz
      have hget : (q.os.map ownD)[i]? = some (ownD q.os[i]) := by rw [List.getElem?_map, List.getElem?_eq_getElem hi]; rfl
      have hsp : q.os = q.os.take i ++ q.os[i] :: q.os.drop (i + 1) := by rw [← List.drop_eq_getElem_cons hi, List.take_append_drop]
      have omi : q.os[i] ∈ q.os := List.getElem_mem hi
      generalize q.os[i] = o at hget hsp omi
      refine rd_sasgG ?_
      refine (ed_ixL (K := K) (i := i) (ed_var rfl hOz) (ev_var rfl) hget) H' sz.gh _ fun x Gy Hy yy hx => ?_
      obtain ⟨tb, pl, rfl, hT2, hS⟩ := own_in hx
      refine ⟨tb, _, rfl, sqt_ex (same_ex yy.gh) hT2, rfl, _, _, rfl, _, _, rfl, rfl, ?_⟩
      have sy : Fnd K G H1 Fa (pz.map prtD) Gy Hy := ⟨sz.hh.trans yy.hh, sz.gg.trans yy.gg, yy.gh, (let ⟨vs, hv, _⟩ := sz.at_; (yy.ag _ _ hv).trans sz.gF), sz.h0, fun a o h => (yy.ag a o (sz.hh a o h)).trans (sz.ag a o h), (let ⟨vs, hv, hd⟩ := sz.at_; ⟨vs, yy.hh _ _ hv, hd.mono (same_ex yy.gg)⟩)⟩
      have hRy := hRz.mono (same_ex yy.gg)
      have hOy := hOz.mono (same_ex yy.gg)
      have hFy := hFz.mono (same_ex yy.gg)
      have hBy := hBz.mono (same_ex yy.gg)
      refine rd_sifpush (p := ⟨q.rs, q.os.take i ++ (o.1, o.2.reverse) :: q.os.drop (i + 1), q.fs⟩) sy rfl (et_test (ev_op (ev_lenD (ed_var rfl hS)) ev_c (fun H1 e Q q => ⟨_, _, rfl, rfl, q H1 (Ex.refl H1)⟩))) (fun hb => ed_eq (ed_lst (da_cons (ed_var rfl hRy) (da_cons (ed_cat (ed_cat (ed_take i (ed_var rfl hOy) (fun _ _ => eo_some (ev_var rfl))) (ed_lst (da_cons (ed_tup (da_cons (ed_var rfl (.str _)) (da_cons (ed_rev (ed_var rfl hS)) eda_nil)) (Nat.le_of_ble_eq_true rfl)) eda_nil) (Nat.le_of_ble_eq_true rfl)) (by simp; omega)) (ed_from (i + 1) (ed_var rfl hOy) (fun _ _ => eo_some (ev_is (ev_op (ev_var rfl) ev_c (fun H1 e Q q => ⟨_, _, rfl, rfl, q H1 (Ex.refl H1)⟩)) rfl)) (fun _ _ => eo_none)) (by simp; omega)) (da_cons (ed_var rfl hFy) eda_nil))) (Nat.le_of_ble_eq_true rfl)) (by simp [prtD, strsD, ownD, hff, List.map_take, List.map_drop, List.map_reverse])) (by omega) fun p9 G9 H9 s9 h9 => ?_
      obtain ⟨c9, l9⟩ := oth_more cz h9 fun hb => oth_own n hsp (nodup_rev (n.om o omi).2.1) (fun r hr => (n.om o omi).2.2 r (List.mem_reverse.mp hr)) (rev_ne (n.om o omi).2.1 (by have := ii (j := 1) hb; simpa using this))
      have hR9 := hR.mono (same_ex s9.gg)
      have hO9 := hO.mono (same_ex s9.gg)
      have hF9 := hF.mono (same_ex s9.gg)
      have hB9 := hB.mono (same_ex s9.gg)
      refine rd_ifpush (b := !decide (V.str o.1 = V.str g.2.1)) (p := ⟨q.rs, q.os, fi ++ [(g.1, o.1, g.2.2)]⟩) s9 rfl (et_test (ev_op (ev_var rfl) (ev_var rfl) (fun H1 e Q q => ⟨rfl, q H1 (Ex.refl H1)⟩))) (fun hb => ed_eq (ed_lst (da_cons (ed_var rfl hR9) (da_cons (ed_var rfl hO9) (da_cons (ed_cat (ed_init (ds := fi.map fnD) (d := fnD g) (ed_var rfl hF9) (fun _ _ => eo_none) (fun _ _ => eo_some (ev_un ev_c (fun H1 e Q q => ⟨_, rfl, q H1 (Ex.refl H1)⟩)))) (ed_lst (da_cons (ed_tup (da_cons (ed_var rfl (.str _)) (da_cons (ed_var rfl (.str _)) (da_cons (ed_var rfl hB9) eda_nil))) (Nat.le_of_ble_eq_true rfl)) eda_nil) (Nat.le_of_ble_eq_true rfl)) (by simp; omega)) eda_nil))) (Nat.le_of_ble_eq_true rfl)) (by simp [prtD, strsD, ownD, fnD, bodyD_map, hff, hoo])) (by omega) fun p10 G10 H10 s10 h10 => ?_
      obtain ⟨c10, l10⟩ := oth_more c9 h10 fun hb => oth_last n hf (List.mem_map.mpr ⟨o, omi, rfl⟩) (n.fm g gm).2.2.1 (n.fm g gm).2.2.2.1 (n.fm g gm).2.2.2.2 fun e => by
        rw [e.1] at hb
        simp at hb
      exact ⟨p10, G10, _, _, _, rfl, s10, c10, by omega⟩
    rintro σ' H' ⟨pz, Gz, o8, o9, o10, rfl, sz, cz, lz⟩
    have hRz := hR.mono (same_ex sz.gg)
    have hOz := hO.mono (same_ex sz.gg)
    have hFz := hF.mono (same_ex sz.gg)
    refine rd_sifpush (p := ⟨q.rs, q.os.reverse, q.fs⟩) sz rfl (et_test (ev_op (ev_lenD (ed_var rfl hOz)) ev_c (fun H1 e Q q => ⟨_, _, rfl, rfl, q H1 (Ex.refl H1)⟩))) (fun hb => ed_eq (ed_lst (da_cons (ed_var rfl hRz) (da_cons (ed_rev (ed_var rfl hOz)) (da_cons (ed_var rfl hFz) eda_nil))) (Nat.le_of_ble_eq_true rfl)) (by simp only [prtD, hoo, List.map_reverse, hff])) (by omega) fun p11 G11 H11 s11 h11 => ?_
    obtain ⟨c11, l11⟩ := oth_more cz h11 fun hb => oth_revo n (by have := ii (j := 1) hb; simpa [← hoo] using this)
    obtain ⟨Gf, xf, df⟩ := s11.done
    exact ⟨_, rfl, fin _ p11 Gf H11 (y1.trans xf) df c11 (by omega)⟩

end
end Lx

set_option Elab.async false
set_option maxRecDepth 100000
set_option linter.all false
set_option maxHeartbeats 4000000
namespace Lx
open PySem PySem.Spec PyProof.Rows L2 Evl Kx
theorem rd_sasg {te : TE} {i : Nat} {u : TS} {D : Ends} {σ : L2.St} {H : Hp} (h : te σ H fun x H1 => u D (σ.set i (some x)) H1) : tSeq (tAsg te (gName i)) u D σ H := h
def vtB : PyData := .list (List.replicate 7 [PyData.none]).flatten
theorem non7 {K : PySem.W.Frag} {H : Hp} {xs : List V} (h : DqA K H xs (List.replicate 7 [PyData.none]).flatten) : xs = [.non, .non, .non, .non, .non, .non, .non] := by
  simp only [List.replicate, List.flatten_cons, List.flatten_nil, List.cons_append, List.nil_append] at h
  cases h with
  | cons g h => cases g; cases h with
  | cons g h => cases g; cases h with
  | cons g h => cases g; cases h with
  | cons g h => cases g; cases h with
  | cons g h => cases g; cases h with
  | cons g h => cases g; cases h with
  | cons g h => cases g; cases h; rfl
theorem vt_size : sizeF 5 vtB = false ∧ sizeF 6 vtB = false := ⟨by decide +kernel, by decide +kernel⟩
def vt1 : PyData := .list [.str "write"]
def vt2 : PyData := .list [.tuple [.str "app", .list []]]
theorem vt_ok : dataOkB 12 vtB .none .none = true ∧ dataOkB 12 vt1 vtB .none = true ∧ dataOkB 12 vt1 vt2 vtB = true := ⟨by decide +kernel, by decide +kernel, by decide +kernel⟩
theorem vt_f0 : faultF vtB .none .none = some (.lst 0) := flt0 vt_size.1
theorem vt_r : sizeF 5 vt1 = true ∧ rBad [] (items vt1) = none := ⟨rfl, by
  have : (rBad [] (items vt1)).isNone = true := by decide +kernel
  exact Option.isNone_iff_eq_none.mp this⟩
theorem vt_o : sizeF 5 vt2 = true ∧ oBad ((items vt1).map unS) [] (items vt2) = none := ⟨rfl, by
  have : (oBad ((items vt1).map unS) [] (items vt2)).isNone = true := by decide +kernel
  exact Option.isNone_iff_eq_none.mp this⟩
theorem vt_f1 : faultF vt1 vtB .none = some (.lst 1) := flt1 vt_r.1 vt_r.2 vt_size.1
theorem vt_f2 : faultF vt1 vt2 vtB = some (.lst 2) := flt2 vt_r.1 vt_r.2 vt_o.1 vt_o.2 vt_size.2
section
variable {P : Program} {w : World} {K : PySem.W.Frag} {mg : Str → Option Value} {base : Heap} {f : Addr} {fd : FuncData}
abbrev sVt : Stmt := top 49
theorem scVt : FnScope ["door", "bad", "lists", "caught", "error"] [] (defScope sVt) := ⟨rfl, rfl, rfl, by decide +kernel, rfl, by decide +kernel, by decide +kernel⟩
theorem ok_vt {C CR CL CI fL fJ fI : Addr} {fdL fdJ fdI : FuncData} (F : Fun K "_law_very_things" "_law_very_things" sVt f fd) (T : PTxt K mg C) (TE : ETxt P w K mg CR CL CI fL fJ fdL fdJ) (eLL : PySem.W.exmOne K (.ref CL) (.ref CL) = some true)
    (M0 : Mk K C fI) (FI : FnOk P w K mg base (L2.CX P w) 43 fI fdI ["self", "rights", "owners", "functions"] (spInit K 12 4 C CL CI)) (bI : Binds K fdI ["self", "rights", "owners", "functions"] [])
    (mI : mg "isinstance" = none) (mLi : mg "list" = none) (mRng : mg "range" = none) : FnOk P w K mg base CX0 45 f fd [] spKr := by
  refine F.ok scVt (fun vs H Q E h => ?_) (fun cdv A outer s H vs Q E hr h => ?_)
  · obtain ⟨rfl, _⟩ := h
    rfl
  · obtain ⟨rfl, q⟩ := h
    refine ⟨_, pss_cons (ps_for PassesOwn.never rfl (pi_range1 (by rfl) mRng (pa_cons pe_int pa_nil)) (pg_name (i := 0) scVt.nd rfl (Or.inl rfl))
        (pss_cons (ps_set (i := 1) scVt.nd rfl (Or.inl rfl) (pe_op op_rep (pe_lst (pa_cons pe_non pa_nil)) pe_int))
        (pss_cons (ps_set (i := 2) scVt.nd rfl (Or.inl rfl) (pe_op op_cat (pe_op op_cat (pe_slice sl_list (pe_lst (pa_cons (pe_lst (pa_cons pe_str pa_nil)) (pa_cons (pe_lst (pa_cons (pe_tup (pa_cons pe_str (pa_cons (pe_lst pa_nil) pa_nil))) pa_nil)) (pa_cons pe_non pa_nil)))) po_none (po_some (pv 0))) (pe_lst (pa_cons (pv 1) pa_nil))) (pe_op op_rep (pe_lst (pa_cons pe_non pa_nil)) (pe_op op_sub pe_int (pv 0)))))
        (pss_cons (ps_set (i := 3) scVt.nd rfl (Or.inl rfl) pe_non)
        (pss_cons (ps_try_keep (i := 4) rfl rfl rfl scVt.nd rfl rfl ⟨rfl, by decide, .inl TE.xL.mgC⟩ takes0 (fun W pn xe tk _ => pss_one (ps_expr (pe_makeS M0 FI hr (by rfl) T.mgC bI .nil (fun σ => passAt tk σ) (pa_cons (pe_ix (ixL_K (K := K)) (pv 2) pe_int (fun _ _ => rfl)) (pa_cons (pe_ix (ixL_K (K := K)) (pv 2) pe_int (fun _ _ => rfl)) (pa_cons (pe_ix (ixL_K (K := K)) (pv 2) pe_int (fun _ _ => rfl)) pa_nil))))))
            (fun a oe C d pn hz hf => pss_one (ps_set (i := 3) scVt.nd rfl (Or.inl rfl) (pv 4))))
        (pss_cons (ps_if (PW.pt (pw_or (pt_cmp (pc_isN (pv 3))) (pw_or1 (pt_not (pt_val (pe_callB (isi_S (K := K)) (by rfl) mI PyProof.Rows.boot_isinstance (pa_cons (pe_xatK (K := K) (pv 3)) (pa_cons (pe_bltn (v := .ty "list") (by rfl) mLi (by decide +kernel) rfl) pa_nil)))))))) (pss_one (ps_ret pe_bl)) pss_nil)
        (pss_cons (ps_expr (pe_bm PySem.F.plainAttrs_list PySem.F.slot_list_append PySem.F.type_list_append mt_append (pe_xatK (K := K) (pv 3)) (pa_cons pe_str pa_nil)))
        (pss_one (ps_if (pt_cmpR op_ne (pe_ix ix_list (pv 1) (pe_un un_neg pe_int) (fun _ _ => rfl)) pe_str (nomark _)) (pss_one (ps_ret pe_bl)) pss_nil)))))))))
      (pss_one (ps_ret pe_bl)), ?_⟩
    refine rd_srng (n := 3) (fun σ' => ∃ o0 o1 o2 o3, σ' = [o0, o1, o2, o3, none]) rfl (by decide) ⟨_, _, _, _, rfl⟩ ?_ (fun σ' H' _ e => q H' e)
    rintro door σ' H0 hdoor ⟨o0, o1, o2, o3, rfl⟩ e0
    refine rd_sset (K := K) (G := emp) (d := vtB) (ed_rep (n := 7) (ed_lst (da_cons ed_non eda_nil) (Nat.le_of_ble_eq_true rfl)) ev_c (by decide) (by decide)) ex_emp fun vb G1 H1 x1 db => ?_
    obtain ⟨b, xs7, rfl, hb, s7⟩ := dq_list db rfl
    have e7 := non7 s7
    subst e7
    have nb0 : H0 b = none := by
      cases h : H0 b with
      | none => rfl
      | some o => rw [x1.ag b o h] at hb; cases hb
    have hb1 := x1.gh _ _ hb
    match door, hdoor with
    | 0, _ =>
      refine rd_sasg (rd_op (rd_op ?_))
      refine (ed_take (K := K) (G := emp) (ds := [vt1, vt2, .none]) 0 (ed_lst (da_cons (ed_lst (da_cons ed_str eda_nil) (Nat.le_of_ble_eq_true rfl)) (da_cons (ed_lst (da_cons (ed_tup (da_cons ed_str (da_cons (ed_lst eda_nil (Nat.le_of_ble_eq_true rfl)) eda_nil)) (Nat.le_of_ble_eq_true rfl)) eda_nil) (Nat.le_of_ble_eq_true rfl)) (da_cons ed_non eda_nil))) (Nat.le_of_ble_eq_true rfl)) (fun _ _ => eo_some (ev_var rfl))) H1 ex_emp _ fun vA GA HA xA dA => ?_
      obtain ⟨aA, xsA, rfl, hA, sA⟩ := dq_list dA rfl
      refine ⟨_, rfl, by show 1 ≤ sizeLine; decide, fun pB nB => ⟨aA, pB, xsA, [.ref b], rfl, rfl, Ex.new nB _ _ (xA.gh _ _ hA), upd_same, ?_, fun pC nC => ?_⟩⟩
      · have := dqa_len sA
        rw [this]
        show 0 + 1 ≤ sizeLine
        decide
      have yBC := (Ex.new (o := .lst [.ref b]) nB).trans (Ex.new (o := .lst (xsA ++ [.ref b])) nC)
      have hC : (upd (upd HA pB (.lst [.ref b])) pC (.lst (xsA ++ [.ref b]))) pC = some (.lst (xsA ++ [.ref b])) := upd_same
      generalize upd (upd HA pB (.lst [.ref b])) pC (.lst (xsA ++ [.ref b])) = HB at yBC hC ⊢
      refine (ed_rep (K := K) (G := emp) (ds := [.none]) (n := 2) (ed_lst (da_cons ed_non eda_nil) (Nat.le_of_ble_eq_true rfl)) (ev_is (ev_op ev_c (ev_var rfl) (fun H1 e Q q => ⟨_, _, rfl, rfl, q H1 (Ex.refl H1)⟩)) rfl) (by decide) (by decide)) HB ex_emp _ fun vC GC HC xC dC => ?_
      obtain ⟨aC, xsC, rfl, hC2, sC⟩ := dq_list dC rfl
      refine ⟨pC, aC, _, xsC, rfl, rfl, xC.hh _ _ hC, xC.gh _ _ hC2, ?_, fun pL nL => ?_⟩
      · have h1 := dqa_len sA
        have h2 := dqa_len sC
        rw [List.length_append, h1, h2]
        show 0 + 1 + 2 ≤ sizeLine
        decide
      have xa := (yBC.trans xC.hh).trans (Ex.new (o := .lst ((xsA ++ [.ref b]) ++ xsC)) nL)
      have xb := xA.hh.trans xa
      have hL : (upd HC pL (.lst ((xsA ++ [.ref b]) ++ xsC))) pL = some (.lst ((xsA ++ [.ref b]) ++ xsC)) := upd_same
      generalize upd HC pL (.lst ((xsA ++ [.ref b]) ++ xsC)) = HL at xa xb hL ⊢
      cases sA
      cases sC with
      | cons g1 sC =>
      cases sC with
      | cons g2 sC =>
      cases sC
      cases g1
      cases g2
      refine ⟨_, rfl, pL, _, _, _, rfl, rfl, SqL.of hL, rfl, _, rfl, pL, _, _, _, rfl, rfl, SqL.of hL, rfl, _, rfl, pL, _, _, _, rfl, rfl, SqL.of hL, rfl, fun x dx nx ndx nex => ?_⟩
      refine init_b (d1 := vtB) (d2 := .none) (d3 := .none) nx ndx nex (Ex.refl HL) (db.mono (same_ex (x1.gh.trans xb))) .non .non (dataOk_of vt_ok.1) vt_f0 (fun c v hv H3 x3 dd H4 xf => ?_)
      obtain ⟨rfl, hv⟩ := hv
      cases hv
      refine ⟨c, true, rfl, eLL, fun _ a na => ?_, fun z => nomatch z⟩
      have ne : dd ≠ a := ne_of_none xf.2 na
      have x5 : Ex HL (upd H4 a (exk a c (some dd))) := (x3.trans xf.1).trans (Ex.new na)
      have hX : XAt (upd H4 a (exk a c (some dd))) a c (some dd) := xat_exk upd_same
      have hF : FAt (upd H4 a (exk a c (some dd))) dd [("value", V.ref b)] := .inl (by rw [upd_ne ne]; exact xf.2)
      have hb5 := x5 _ _ (xb _ _ hb1)
      refine ⟨_, rfl, ?_⟩
      refine ⟨_, rfl, _, rfl, ite2 (fun h => nomatch (of_decide_eq_true h)) fun _ => ⟨_, rfl, a, c, dd, _, .ref b, rfl, hX, hF, TE.xL.e, TE.xL.no, rfl, isi_l (Dq.mono (K := K) (same_ex (x1.gh.trans (xb.trans x5))) db) ⟨_, rfl, ?_⟩⟩⟩
      refine iteF ?_
      refine ⟨_, rfl, a, c, dd, _, .ref b, rfl, hX, hF, TE.xL.e, TE.xL.no, rfl, .inl ⟨rfl, _, SqL.of hb5⟩, b, _, .str "mark", rfl, rfl, hb5, by show 7 < sizeLine; decide, ?_⟩
      refine ⟨_, rfl, _, rfl, b, _, _, _, rfl, rfl, SqL.of upd_same, rfl, rfl, _, rfl, ?_⟩
      refine iteF ?_
      exact ⟨⟨_, _, _, _, rfl⟩, fun a' o' h' => by
        rw [upd_ne (ne_of_none (e0 a' o' h') nb0)]
        exact x5 _ _ (xb _ _ (x1.hh _ _ (e0 _ _ h')))⟩
    | 1, _ =>
      refine rd_sasg (rd_op (rd_op ?_))
      refine (ed_take (K := K) (G := emp) (ds := [vt1, vt2, .none]) 1 (ed_lst (da_cons (ed_lst (da_cons ed_str eda_nil) (Nat.le_of_ble_eq_true rfl)) (da_cons (ed_lst (da_cons (ed_tup (da_cons ed_str (da_cons (ed_lst eda_nil (Nat.le_of_ble_eq_true rfl)) eda_nil)) (Nat.le_of_ble_eq_true rfl)) eda_nil) (Nat.le_of_ble_eq_true rfl)) (da_cons ed_non eda_nil))) (Nat.le_of_ble_eq_true rfl)) (fun _ _ => eo_some (ev_var rfl))) H1 ex_emp _ fun vA GA HA xA dA => ?_
      obtain ⟨aA, xsA, rfl, hA, sA⟩ := dq_list dA rfl
      refine ⟨_, rfl, by show 1 ≤ sizeLine; decide, fun pB nB => ⟨aA, pB, xsA, [.ref b], rfl, rfl, Ex.new nB _ _ (xA.gh _ _ hA), upd_same, ?_, fun pC nC => ?_⟩⟩
      · have := dqa_len sA
        rw [this]
        show 1 + 1 ≤ sizeLine
        decide
      have yBC := (Ex.new (o := .lst [.ref b]) nB).trans (Ex.new (o := .lst (xsA ++ [.ref b])) nC)
      have hC : (upd (upd HA pB (.lst [.ref b])) pC (.lst (xsA ++ [.ref b]))) pC = some (.lst (xsA ++ [.ref b])) := upd_same
      generalize upd (upd HA pB (.lst [.ref b])) pC (.lst (xsA ++ [.ref b])) = HB at yBC hC ⊢
      refine (ed_rep (K := K) (G := emp) (ds := [.none]) (n := 1) (ed_lst (da_cons ed_non eda_nil) (Nat.le_of_ble_eq_true rfl)) (ev_is (ev_op ev_c (ev_var rfl) (fun H1 e Q q => ⟨_, _, rfl, rfl, q H1 (Ex.refl H1)⟩)) rfl) (by decide) (by decide)) HB ex_emp _ fun vC GC HC xC dC => ?_
      obtain ⟨aC, xsC, rfl, hC2, sC⟩ := dq_list dC rfl
      refine ⟨pC, aC, _, xsC, rfl, rfl, xC.hh _ _ hC, xC.gh _ _ hC2, ?_, fun pL nL => ?_⟩
      · have h1 := dqa_len sA
        have h2 := dqa_len sC
        rw [List.length_append, h1, h2]
        show 1 + 1 + 1 ≤ sizeLine
        decide
      have xa := (yBC.trans xC.hh).trans (Ex.new (o := .lst ((xsA ++ [.ref b]) ++ xsC)) nL)
      have xb := xA.hh.trans xa
      have hL : (upd HC pL (.lst ((xsA ++ [.ref b]) ++ xsC))) pL = some (.lst ((xsA ++ [.ref b]) ++ xsC)) := upd_same
      generalize upd HC pL (.lst ((xsA ++ [.ref b]) ++ xsC)) = HL at xa xb hL ⊢
      cases sC with
      | cons g1 sC =>
      cases sC
      cases g1
      cases sA with
      | cons a1 sA =>
      cases sA
      refine ⟨_, rfl, pL, _, _, _, rfl, rfl, SqL.of hL, rfl, _, rfl, pL, _, _, _, rfl, rfl, SqL.of hL, rfl, _, rfl, pL, _, _, _, rfl, rfl, SqL.of hL, rfl, fun x dx nx ndx nex => ?_⟩
      refine init_b (d1 := vt1) (d2 := vtB) (d3 := .none) nx ndx nex (Ex.refl HL) (a1.mono (same_ex (xA.gh.trans xa))) (db.mono (same_ex (x1.gh.trans xb))) .non (dataOk_of vt_ok.2.1) vt_f1 (fun c v hv H3 x3 dd H4 xf => ?_)
      obtain ⟨rfl, hv⟩ := hv
      cases hv
      refine ⟨c, true, rfl, eLL, fun _ a na => ?_, fun z => nomatch z⟩
      have ne : dd ≠ a := ne_of_none xf.2 na
      have x5 : Ex HL (upd H4 a (exk a c (some dd))) := (x3.trans xf.1).trans (Ex.new na)
      have hX : XAt (upd H4 a (exk a c (some dd))) a c (some dd) := xat_exk upd_same
      have hF : FAt (upd H4 a (exk a c (some dd))) dd [("value", V.ref b)] := .inl (by rw [upd_ne ne]; exact xf.2)
      have hb5 := x5 _ _ (xb _ _ hb1)
      refine ⟨_, rfl, ?_⟩
      refine ⟨_, rfl, _, rfl, ite2 (fun h => nomatch (of_decide_eq_true h)) fun _ => ⟨_, rfl, a, c, dd, _, .ref b, rfl, hX, hF, TE.xL.e, TE.xL.no, rfl, isi_l (Dq.mono (K := K) (same_ex (x1.gh.trans (xb.trans x5))) db) ⟨_, rfl, ?_⟩⟩⟩
      refine iteF ?_
      refine ⟨_, rfl, a, c, dd, _, .ref b, rfl, hX, hF, TE.xL.e, TE.xL.no, rfl, .inl ⟨rfl, _, SqL.of hb5⟩, b, _, .str "mark", rfl, rfl, hb5, by show 7 < sizeLine; decide, ?_⟩
      refine ⟨_, rfl, _, rfl, b, _, _, _, rfl, rfl, SqL.of upd_same, rfl, rfl, _, rfl, ?_⟩
      refine iteF ?_
      exact ⟨⟨_, _, _, _, rfl⟩, fun a' o' h' => by
        rw [upd_ne (ne_of_none (e0 a' o' h') nb0)]
        exact x5 _ _ (xb _ _ (x1.hh _ _ (e0 _ _ h')))⟩
    | 2, _ =>
      refine rd_sasg (rd_op (rd_op ?_))
      refine (ed_take (K := K) (G := emp) (ds := [vt1, vt2, .none]) 2 (ed_lst (da_cons (ed_lst (da_cons ed_str eda_nil) (Nat.le_of_ble_eq_true rfl)) (da_cons (ed_lst (da_cons (ed_tup (da_cons ed_str (da_cons (ed_lst eda_nil (Nat.le_of_ble_eq_true rfl)) eda_nil)) (Nat.le_of_ble_eq_true rfl)) eda_nil) (Nat.le_of_ble_eq_true rfl)) (da_cons ed_non eda_nil))) (Nat.le_of_ble_eq_true rfl)) (fun _ _ => eo_some (ev_var rfl))) H1 ex_emp _ fun vA GA HA xA dA => ?_
      obtain ⟨aA, xsA, rfl, hA, sA⟩ := dq_list dA rfl
      refine ⟨_, rfl, by show 1 ≤ sizeLine; decide, fun pB nB => ⟨aA, pB, xsA, [.ref b], rfl, rfl, Ex.new nB _ _ (xA.gh _ _ hA), upd_same, ?_, fun pC nC => ?_⟩⟩
      · have := dqa_len sA
        rw [this]
        show 2 + 1 ≤ sizeLine
        decide
      have yBC := (Ex.new (o := .lst [.ref b]) nB).trans (Ex.new (o := .lst (xsA ++ [.ref b])) nC)
      have hC : (upd (upd HA pB (.lst [.ref b])) pC (.lst (xsA ++ [.ref b]))) pC = some (.lst (xsA ++ [.ref b])) := upd_same
      generalize upd (upd HA pB (.lst [.ref b])) pC (.lst (xsA ++ [.ref b])) = HB at yBC hC ⊢
      refine (ed_rep (K := K) (G := emp) (ds := [.none]) (n := 0) (ed_lst (da_cons ed_non eda_nil) (Nat.le_of_ble_eq_true rfl)) (ev_is (ev_op ev_c (ev_var rfl) (fun H1 e Q q => ⟨_, _, rfl, rfl, q H1 (Ex.refl H1)⟩)) rfl) (by decide) (by decide)) HB ex_emp _ fun vC GC HC xC dC => ?_
      obtain ⟨aC, xsC, rfl, hC2, sC⟩ := dq_list dC rfl
      refine ⟨pC, aC, _, xsC, rfl, rfl, xC.hh _ _ hC, xC.gh _ _ hC2, ?_, fun pL nL => ?_⟩
      · have h1 := dqa_len sA
        have h2 := dqa_len sC
        rw [List.length_append, h1, h2]
        show 2 + 1 + 0 ≤ sizeLine
        decide
      have xa := (yBC.trans xC.hh).trans (Ex.new (o := .lst ((xsA ++ [.ref b]) ++ xsC)) nL)
      have xb := xA.hh.trans xa
      have hL : (upd HC pL (.lst ((xsA ++ [.ref b]) ++ xsC))) pL = some (.lst ((xsA ++ [.ref b]) ++ xsC)) := upd_same
      generalize upd HC pL (.lst ((xsA ++ [.ref b]) ++ xsC)) = HL at xa xb hL ⊢
      cases sC
      cases sA with
      | cons a1 sA =>
      cases sA with
      | cons a2 sA =>
      cases sA
      refine ⟨_, rfl, pL, _, _, _, rfl, rfl, SqL.of hL, rfl, _, rfl, pL, _, _, _, rfl, rfl, SqL.of hL, rfl, _, rfl, pL, _, _, _, rfl, rfl, SqL.of hL, rfl, fun x dx nx ndx nex => ?_⟩
      refine init_b (d1 := vt1) (d2 := vt2) (d3 := vtB) nx ndx nex (Ex.refl HL) (a1.mono (same_ex (xA.gh.trans xa))) (a2.mono (same_ex (xA.gh.trans xa))) (db.mono (same_ex (x1.gh.trans xb))) (dataOk_of vt_ok.2.2) vt_f2 (fun c v hv H3 x3 dd H4 xf => ?_)
      obtain ⟨rfl, hv⟩ := hv
      cases hv
      refine ⟨c, true, rfl, eLL, fun _ a na => ?_, fun z => nomatch z⟩
      have ne : dd ≠ a := ne_of_none xf.2 na
      have x5 : Ex HL (upd H4 a (exk a c (some dd))) := (x3.trans xf.1).trans (Ex.new na)
      have hX : XAt (upd H4 a (exk a c (some dd))) a c (some dd) := xat_exk upd_same
      have hF : FAt (upd H4 a (exk a c (some dd))) dd [("value", V.ref b)] := .inl (by rw [upd_ne ne]; exact xf.2)
      have hb5 := x5 _ _ (xb _ _ hb1)
      refine ⟨_, rfl, ?_⟩
      refine ⟨_, rfl, _, rfl, ite2 (fun h => nomatch (of_decide_eq_true h)) fun _ => ⟨_, rfl, a, c, dd, _, .ref b, rfl, hX, hF, TE.xL.e, TE.xL.no, rfl, isi_l (Dq.mono (K := K) (same_ex (x1.gh.trans (xb.trans x5))) db) ⟨_, rfl, ?_⟩⟩⟩
      refine iteF ?_
      refine ⟨_, rfl, a, c, dd, _, .ref b, rfl, hX, hF, TE.xL.e, TE.xL.no, rfl, .inl ⟨rfl, _, SqL.of hb5⟩, b, _, .str "mark", rfl, rfl, hb5, by show 7 < sizeLine; decide, ?_⟩
      refine ⟨_, rfl, _, rfl, b, _, _, _, rfl, rfl, SqL.of upd_same, rfl, rfl, _, rfl, ?_⟩
      refine iteF ?_
      exact ⟨⟨_, _, _, _, rfl⟩, fun a' o' h' => by
        rw [upd_ne (ne_of_none (e0 a' o' h') nb0)]
        exact x5 _ _ (xb _ _ (x1.hh _ _ (e0 _ _ h')))⟩
    | n + 3, h => omega
end
end Lx

set_option Elab.async false
set_option maxRecDepth 100000
set_option linter.all false
set_option maxHeartbeats 4000000
namespace Lx
open PySem PySem.Spec PyProof.Rows L2 Evl Kx
/-! ### parts may be shown, compared, spoilt -/
def wordsB : List Str := ["call", "tail", "check", "back", "either", "loop", "block"]
def shS (x : Str) : Bool := (PyData.str x).showable && decide ((reprText x).length ≤ 20)
theorem all_sh : ((rightsN ++ namesO ++ namesG ++ wordsB).all shS) = true := by decide +kernel
def ShowB (d : PyData) (n : Nat) : Prop := d.showable = true ∧ bnd d ≤ n
def ShowA (ds : List PyData) (n : Nat) : Prop := PyData.showableAll ds = true ∧ bndA ds ≤ n
theorem sh_of {x : Str} (h : x ∈ rightsN ∨ x ∈ namesO ∨ x ∈ namesG ∨ x ∈ wordsB) : ShowB (.str x) 20 := by
  have := List.all_eq_true.mp all_sh x (by
    simp only [List.mem_append]
    rcases h with h | h | h | h
    · exact .inl (.inl (.inl h))
    · exact .inl (.inl (.inr h))
    · exact .inl (.inr h)
    · exact .inr h)
  simp only [shS, Bool.and_eq_true, decide_eq_true_eq] at this
  exact ⟨this.1, by simp only [bnd]; exact this.2⟩
theorem sh_w {x : Str} (h : x ∈ wordsB) : ShowB (.str x) 20 := sh_of (.inr (.inr (.inr h)))
theorem shA_nil : ShowA [] 0 := ⟨by simp only [PyData.showableAll], by simp only [bndA]; omega⟩
theorem shA_cons {d : PyData} {ds : List PyData} {m n k : Nat} (h : ShowB d m) (hs : ShowA ds n) (e : m + 2 + n ≤ k) : ShowA (d :: ds) k :=
  ⟨by simp only [PyData.showableAll, h.1, hs.1, Bool.and_self], by have := h.2; have := hs.2; simp only [bndA]; omega⟩
theorem sh_lst {ds : List PyData} {n k : Nat} (hs : ShowA ds n) (e : n + 2 ≤ k) : ShowB (.list ds) k := ⟨by simp only [PyData.showable, hs.1], by have := hs.2; simp only [bnd]; omega⟩
theorem sh_tup {ds : List PyData} {n k : Nat} (hs : ShowA ds n) (e : n + 3 ≤ k) : ShowB (.tuple ds) k := ⟨by simp only [PyData.showable, hs.1], by have := hs.2; simp only [bnd]; omega⟩
theorem shA_all {m : Nat} : ∀ {ds : List PyData}, (∀ d ∈ ds, ShowB d m) → ShowA ds (ds.length * (m + 2))
  | [], _ => by rw [List.length_nil, Nat.zero_mul]; exact shA_nil
  | d :: ds, h => shA_cons (h d (List.mem_cons_self ..)) (shA_all fun x hx => h x (List.mem_cons_of_mem _ hx)) (by rw [List.length_cons, Nat.add_mul]; omega)
mutual
theorem sh_stp {rs ns : List Str} (hr : ∀ r ∈ rs, r ∈ rightsN) (hn : ∀ r ∈ ns, r ∈ namesG) : ∀ {mk : Bool} {s : Stp}, okS rs ns mk s = true → ShowB (stpD s) (62 * cntS s - 2)
  | _, .call n, h => by
    simp only [okS, decide_eq_true_eq] at h
    exact sh_tup (shA_cons (sh_w (by decide +kernel)) (shA_cons (sh_of (.inr (.inr (.inl (hn n h))))) shA_nil (Nat.le_refl _)) (Nat.le_refl _)) (by simp only [cntS]; omega)
  | _, .tail n, h => by
    simp only [okS, Bool.and_eq_true, decide_eq_true_eq] at h
    exact sh_tup (shA_cons (sh_w (by decide +kernel)) (shA_cons (sh_of (.inr (.inr (.inl (hn n h.1))))) shA_nil (Nat.le_refl _)) (Nat.le_refl _)) (by simp only [cntS]; omega)
  | _, .check r, h => by
    simp only [okS, decide_eq_true_eq] at h
    exact sh_tup (shA_cons (sh_w (by decide +kernel)) (shA_cons (sh_of (.inl (hr r h))) shA_nil (Nat.le_refl _)) (Nat.le_refl _)) (by simp only [cntS]; omega)
  | _, .back, h => sh_tup (shA_cons (sh_w (by decide +kernel)) shA_nil (Nat.le_refl _)) (by simp only [cntS]; omega)
  | _, .either a b, h => by
    simp only [okS, Bool.and_eq_true] at h
    exact sh_tup (shA_cons (sh_w (by decide +kernel)) (shA_cons (sh_lst (sh_body hr hn h.1) (Nat.le_refl _)) (shA_cons (sh_lst (sh_body hr hn h.2) (Nat.le_refl _)) shA_nil (Nat.le_refl _)) (Nat.le_refl _)) (Nat.le_refl _)) (by simp only [cntS]; omega)
  | _, .loop b, h => by
    simp only [okS] at h
    exact sh_tup (shA_cons (sh_w (by decide +kernel)) (shA_cons (sh_lst (sh_body hr hn h) (Nat.le_refl _)) shA_nil (Nat.le_refl _)) (Nat.le_refl _)) (by simp only [cntS]; omega)
  | _, .block m b, h => by
    simp only [okS] at h
    exact sh_tup (shA_cons (sh_w (by decide +kernel)) (shA_cons (m := 5) ⟨by simp only [PyData.showable], by simp only [bnd]; omega⟩ (shA_cons (sh_lst (sh_body hr hn h) (Nat.le_refl _)) shA_nil (Nat.le_refl _)) (Nat.le_refl _)) (Nat.le_refl _)) (by simp only [cntS]; omega)
theorem sh_body {rs ns : List Str} (hr : ∀ r ∈ rs, r ∈ rightsN) (hn : ∀ r ∈ ns, r ∈ namesG) : ∀ {mk : Bool} {b : List Stp}, Kx.okB rs ns mk b = true → ShowA (bodyD b) (62 * cntB b)
  | _, [], _ => by simp only [bodyD, cntB]; exact shA_nil
  | _, s :: r, h => by
    simp only [Kx.okB, Bool.and_eq_true] at h
    have := cnt_one s
    simp only [bodyD]
    exact shA_cons (sh_stp hr hn h.1) (sh_body hr hn h.2) (by simp only [cntB]; omega)
end
theorem sh_strs {ss : List Str} (h : ∀ s ∈ ss, ShowB (.str s) 20) (hl : ss.length ≤ 5) : ShowB (strsD ss) 200 :=
  sh_lst (shA_all fun d hd => by obtain ⟨s, hs, rfl⟩ := List.mem_map.mp hd; exact h s hs) (by rw [List.length_map]; omega)
theorem nd_len : ∀ {l m : List Str}, l.Nodup → (∀ x ∈ l, x ∈ m) → l.length ≤ m.length
  | [], m, _, _ => Nat.zero_le _
  | x :: l, m, h, s => by
    obtain ⟨h1, h2⟩ := List.nodup_cons.mp h
    have hx := s x (List.mem_cons_self ..)
    have := nd_len (m := m.erase x) h2 fun y hy => (List.mem_erase_of_ne fun e => h1 (by rw [← e]; exact hy)).mpr (s y (List.mem_cons_of_mem _ hy))
    rw [List.length_erase_of_mem hx] at this
    have := List.length_pos_of_mem hx
    rw [List.length_cons]
    omega
theorem Nice.show {q : Prt} (n : Nice q) : ShowB (prtD q) 100000 ∧ (prtD q).depth ≤ 20 := by
  have h1 : ShowB (strsD q.rs) 200 := sh_strs (fun r hr => sh_of (.inl (n.rm r hr))) n.rl
  have h2 : ShowB (.list (q.os.map ownD)) 5000 := sh_lst (shA_all (m := 300) fun d hd => by
    obtain ⟨o, ho, rfl⟩ := List.mem_map.mp hd
    obtain ⟨a, b, c⟩ := n.om o ho
    exact sh_tup (shA_cons (sh_of (.inr (.inl a))) (shA_cons (sh_strs (fun r hr => sh_of (.inl (n.rm r (c r hr)))) (Nat.le_trans (nd_len b c) n.rl)) shA_nil (Nat.le_refl _)) (Nat.le_refl _)) (by omega)) (by rw [List.length_map]; have := n.ol; omega)
  have h3 : ShowB (.list (q.fs.map fnD)) 50000 := sh_lst (shA_all (m := 7000) fun d hd => by
    obtain ⟨g, hg, rfl⟩ := List.mem_map.mp hd
    obtain ⟨a, b, c, _, e⟩ := n.fm g hg
    obtain ⟨o, ho, e2⟩ := List.mem_map.mp b
    refine sh_tup (shA_cons (sh_of (.inr (.inr (.inl a)))) (shA_cons (m := 20) (e2 ▸ sh_of (.inr (.inl (n.om o ho).1))) (shA_cons (sh_lst (sh_body n.rm (fun x hx => ?_) c) (Nat.le_refl _)) shA_nil (Nat.le_refl _)) (Nat.le_refl _)) (Nat.le_refl _)) (by omega)
    obtain ⟨g', hg', rfl⟩ := List.mem_map.mp hx
    exact (n.fm g' hg').1) (by rw [List.length_map]; have := n.fl; omega)
  refine ⟨sh_lst (shA_cons h1 (shA_cons h2 (shA_cons h3 shA_nil (Nat.le_refl _)) (Nat.le_refl _)) (Nat.le_refl _)) (by omega), ?_⟩
  have d1 := dep_strs q.rs
  have d2 : PyData.depthAll (q.os.map ownD) ≤ 4 := depA_of fun x hx => by
    obtain ⟨o, ho, rfl⟩ := List.mem_map.mp hx
    exact dep_own o
  have d3 : PyData.depthAll (q.fs.map fnD) ≤ 13 := depA_of fun x hx => by
    obtain ⟨g, hg, rfl⟩ := List.mem_map.mp hx
    exact dep_fn (n.fm g hg).2.2.2.1
  simp only [prtD, PyData.depth, PyData.depthAll]
  simp only [strsD, PyData.depth] at d1
  simp only [strsD, PyData.depth]
  omega
theorem Nice.shaped {q : Prt} (n : Nice q) : SeqAt.shaped (prtD q) = true := by
  obtain ⟨s1, s2, s3⟩ := n.good.sh
  have hd := n.show.2
  unfold SeqAt.shaped at *
  simp only [Bool.and_eq_true, decide_eq_true_eq] at *
  exact ⟨by simp only [prtD, PyData.canLay0, PyData.canLayAll0, Bool.and_eq_true]; simp only [strsD, PyData.canLay0] at *; exact ⟨s1.1, s2.1, s3.1, trivial⟩, by omega⟩
/-! ### spoilt -/
theorem spo_strs {n : Nat} {ss : List Str} (h : ss.length ≤ 4096) : spoN (n + 1) (strsD ss) := by
  unfold strsD spoN
  exact ⟨by rw [List.length_map]; exact h, fun d hd => .inl (by obtain ⟨s, _, rfl⟩ := List.mem_map.mp hd; exact ⟨s, rfl⟩)⟩
theorem spo_body : ∀ {n : Nat} {b : List Stp}, nstB b ≤ n → cntB b ≤ 4096 → spoN (n + 1) (.list (bodyD b))
  | n, b, h1, h2 => by
    unfold spoN
    refine ⟨by rw [bodyD_map, List.length_map]; exact Nat.le_trans (len_cnt b) h2, fun d hd => .inr ?_⟩
    rw [bodyD_map] at hd
    obtain ⟨s, hs, rfl⟩ := List.mem_map.mp hd
    refine ⟨_, stpD_parts s, fun p hp => ?_⟩
    obtain ⟨pr, hpr, rfl⟩ := List.mem_map.mp hp
    rcases parts_ok (d := pr.1) (o := pr.2) hpr with ⟨hl, _⟩ | ⟨b', e, _, n1, c1⟩
    · exact .inl (parts_flat hpr hl)
    · rw [e]
      have a1 := nst_mem hs
      have a2 := cnt_mem hs
      match n with
      | 0 => omega
      | n + 1 => exact .inr (spo_body (by omega) (by omega))
theorem spo_own {n : Nat} {q : Prt} (m : Nice q) : spoN (n + 2) (.list (q.os.map ownD)) := by
  unfold spoN
  refine ⟨by rw [List.length_map]; have := m.ol; omega, fun d hd => .inr ?_⟩
  obtain ⟨o, ho, rfl⟩ := List.mem_map.mp hd
  obtain ⟨a, b, c⟩ := m.om o ho
  have := nd_len b c
  have := m.rl
  refine ⟨_, rfl, fun p hp => ?_⟩
  rcases List.mem_cons.mp hp with rfl | hp
  · exact .inl rfl
  · rw [List.mem_singleton.mp hp]
    exact .inr (spo_strs (by omega))
theorem spo_fn {q : Prt} (m : Nice q) : spoN 6 (.list (q.fs.map fnD)) := by
  unfold spoN
  refine ⟨by rw [List.length_map]; have := m.fl; omega, fun d hd => .inr ?_⟩
  obtain ⟨g, hg, rfl⟩ := List.mem_map.mp hd
  obtain ⟨a, b, c, d, e⟩ := m.fm g hg
  refine ⟨_, rfl, fun p hp => ?_⟩
  rcases List.mem_cons.mp hp with rfl | hp
  · exact .inl rfl
  rcases List.mem_cons.mp hp with rfl | hp
  · exact .inl rfl
  · rw [List.mem_singleton.mp hp]
    exact .inr (spo_body d (by omega))
theorem spo_prt {q : Prt} (m : Nice q) : ∀ d ∈ [strsD q.rs, .list (q.os.map ownD), .list (q.fs.map fnD)], spoN 6 d := fun d hd => by
  rcases List.mem_cons.mp hd with rfl | hd
  · exact spo_strs (by have := m.rl; omega)
  rcases List.mem_cons.mp hd with rfl | hd
  · exact spo_own m
  · rw [List.mem_singleton.mp hd]
    exact spo_fn m
end Lx

set_option Elab.async false
set_option maxRecDepth 100000
set_option linter.all false
set_option maxHeartbeats 4000000
namespace Lx
open PySem PySem.Spec PyProof.Rows L2 Evl Kx
section
variable {P : Program} {w : World} {K : PySem.W.Frag} {mg : Str → Option Value} {base : Heap} {f : Addr} {fd : FuncData}
abbrev sLst : Stmt := top 43
theorem scLst : FnScope ["parts", "owners", "name", "rights", "owner", "body"] ["parts"] (defScope sLst) := ⟨rfl, rfl, rfl, by decide +kernel, rfl, by decide +kernel, by decide +kernel⟩
structure spLst (K : PySem.W.Frag) (d : Nat) (vs : List V) (H : Hp) (Q : VK) (E_ : XK) : Prop where
  mk' ::
  out : ∃ (p : Addr) (q : Prt), vs = [.ref p] ∧ Dq K H (.ref p) (prtD q) ∧ PrtLe d q ∧ ∀ p2 H2 M, New H H2 M → FrN K H M (.ref p2) (prtD q) → Q (.ref p2) H2
theorem ok_lst {d : Nat} {fB : Addr} {fdB : FuncData} (F : Fun K "_law_lists" "_law_lists" sLst f fd) (FB : FnOk P w K mg base CX0 (d + 2) fB fdB ["body"] (spCop K d)) (mB : mg "_law_copied" = some (.ref fB)) (kB : PySem.W.keepIn K (.ref fB) = true) (bB : Binds K fdB ["body"] []) (mL : mg "list" = none) : FnOk P w K mg base CX0 (d + 3) f fd ["parts"] (spLst K d) := by
  refine F.ok scLst (fun vs H Q E h => ?_) (fun cdv A outer s H vs Q E hr h => ?_)
  · obtain ⟨_, _, rfl, _⟩ := h
    rfl
  · obtain ⟨p, q, rfl, hd, le, fin⟩ := h
    have rB := hr
    refine ⟨_, pss_cons (ps_setLc (i := 1) (own := [("name", 2), ("rights", 3)]) (g := gTup K 2 (gCons (gName 2) (gCons (gName 3) gNil))) rfl scLst.nd rfl rfl (sw_true rfl rfl rfl (by decide +kernel)) (pi_list (pe_ix ix_list (pv 0) pe_int (fun _ _ => rfl)))
            (blkOk_by (own := [("name", 2), ("rights", 3)]) (N := ["parts", "owners", "name", "rights", "owner", "body"]) (sc := defScope sLst) (by decide +kernel))
            (fun _ _ _ _ _ => pg_tupK rfl (pgs_cons (pg_name (i := 2) scLst.nd rfl (Or.inl rfl)) (pgs_cons (pg_name (i := 3) scLst.nd rfl (Or.inl rfl)) pgs_nil))) (fun _ _ _ _ _ => pts_nil)
            (fun _ _ _ _ _ => pe_tup (pa_cons (pv 2) (pa_cons (pe_callTy (call_listK (K := K)) (by rfl) mL (by decide +kernel) (pa_cons (pv 3) pa_nil)) pa_nil))))
      (pss_one (ps_ret (pe_lst (pa_cons (pe_callTy (call_listK (K := K)) (by rfl) mL (by decide +kernel) (pa_cons (pe_ix ix_list (pv 0) pe_int (fun _ _ => rfl)) pa_nil)) (pa_cons (pv 1) (pa_cons (pe_lc (own := [("name", 2), ("owner", 4), ("body", 5)]) (g := gTup K 3 (gCons (gName 2) (gCons (gName 4) (gCons (gName 5) gNil)))) rfl scLst.nd (pi_list (pe_ix ix_list (pv 0) pe_int (fun _ _ => rfl)))
            (blkOk_by (own := [("name", 2), ("owner", 4), ("body", 5)]) (N := ["parts", "owners", "name", "rights", "owner", "body"]) (sc := defScope sLst) (by decide +kernel))
            (fun _ _ _ _ _ => pg_tupK rfl (pgs_cons (pg_name (i := 2) scLst.nd rfl (Or.inl rfl)) (pgs_cons (pg_name (i := 4) scLst.nd rfl (Or.inl rfl)) (pgs_cons (pg_name (i := 5) scLst.nd rfl (Or.inl rfl)) pgs_nil)))) (fun _ _ _ _ _ => pts_nil)
            (fun _ _ _ _ _ => pe_tup (pa_cons (pv 2) (pa_cons (pv 4) (pa_cons (pe_call FB rB rfl mB kB bB .nil pass0 (pa_cons (pv 5) pa_nil)) pa_nil))))) pa_nil)))))), ?_⟩
    obtain ⟨a1, a2, a3, h0, h1, h2, h3⟩ := prt_at hd
    have h2' := h2
    have h3' := h3
    cases h2 with
    | @lst _ xsO _ hpO hxO =>
    cases h3 with
    | @lst _ xsF _ hpF hxF =>
    have hlO : xsO.length = q.os.length := by
      have := dqa_len hxO
      rw [List.length_map] at this
      exact this
    have hlF : xsF.length = q.fs.length := by
      have := dqa_len hxF
      rw [List.length_map] at this
      exact this
    have leo := le.os
    have lef := le.fl
    refine ⟨_, rfl, p, _, _, _, rfl, rfl, SqL.of h0, rfl, a2, rfl, ⟨_, SqL.of hpO⟩, fun D nD => ?_⟩
    refine lc_list (K := K) (a := a2) (xs := xsO) (fun i H' => ∃ (M : Hp) (acc : List V), New H H' M ∧ H' D = some (.lst acc) ∧ M D = none ∧ FrA K H M acc ((q.os.take i).map ownD)) ?_ (fun i H' _ ⟨_, _, k, _⟩ => SqL.of (k.hh _ _ hpO)) ?_ ?_
    · exact ⟨emp, [], New.refl.own nD, upd_same, rfl, FrA.nil⟩
    · rintro i x H' hi ⟨M, acc, k, hD, mD, ha⟩
      obtain ⟨ow, ta, pl, how, rfl, hT, hpl⟩ := own_at hxO hi
      refine ⟨ta, _, rfl, sqt_ex (same_ex k.hh) hT, rfl, _, _, rfl, _, _, rfl, rfl, rfl, _, rfl, _, rfl, pl, _, rfl, .inl (SqL.of (k.hh _ _ hpl)), fun l nl => ⟨by show 2 ≤ sizeLine; decide, fun tp ntp => ?_⟩⟩
      have k2 := (k.put (o := .lst (ow.2.map V.str)) nl).put (o := .tup [.str ow.1, .ref l]) ntp
      have fl : D ≠ l := ne_of_none hD nl
      have ft : D ≠ tp := ne_of_none (show (upd H' l (.lst (ow.2.map V.str))) D = some (.lst acc) by rw [upd_ne fl]; exact hD) ntp
      have mD2 : (upd (upd M l (.lst (ow.2.map V.str))) tp (.tup [.str ow.1, .ref l])) D = none := by rw [upd_ne ft, upd_ne fl]; exact mD
      have ml : M l = none := k.none nl
      have mt : (upd M l (.lst (ow.2.map V.str))) tp = none := (k.put (o := .lst (ow.2.map V.str)) nl).none ntp
      have em : Ex M (upd (upd M l (.lst (ow.2.map V.str))) tp (.tup [.str ow.1, .ref l])) := (Ex.new ml).trans (Ex.new mt)
      refine ⟨acc, by rw [upd_ne ft, upd_ne fl]; exact hD, ?_, _, acc ++ [.ref tp], k2.wr nD mD2, upd_same, mD2, ?_⟩
      · have := dqa_len ha.dq
        rw [List.length_map, List.length_take] at this
        have h2 := (List.getElem?_eq_some_iff.mp hi).1
        have e3z : (5000 : Nat) < sizeLine := by decide
        omega
      · rw [List.take_succ, how, List.map_append]
        exact FrA.app k ha em (Ex.refl _) (own_fr (by rw [upd_ne (ne_of_none upd_same mt)]; exact upd_same) upd_same nl)
    · rintro H' ⟨M, acc, k, hD, mD, ha⟩
      rw [hlO, List.take_of_length_le (Nat.le_refl _)] at ha
      have kO := k.frz nD hD
      have dO : FrN K H (upd M D (.lst acc)) (.ref D) (.list (q.os.map ownD)) := FrN.lst ha mD nD
      generalize upd M D (.lst acc) = MO at kO dO
      have x1 := kO.hh
      have h1' := x1 _ _ h1
      refine ⟨_, rfl, p, _, _, _, rfl, rfl, SqL.of (x1 _ _ h0), rfl, a1, _, rfl, .inl (SqL.of h1'), fun l nl => ?_⟩
      have kl := kO.put (o := .lst (q.rs.map V.str)) nl
      have mOl : MO l = none := kO.none nl
      have dO2 := dO.mono (Ex.new (o := .lst (q.rs.map V.str)) mOl)
      have nlO : ∀ as, DqN K MO (.ref D) (.list (q.os.map ownD)) as → l ∉ as := fun as a hl => by
        obtain ⟨xs, e⟩ := a.is l hl
        rw [mOl] at e
        cases e
      obtain ⟨asO, aO, bO, cO⟩ := dO
      have nlO := nlO _ aO
      have aO2 := aO.mono (Ex.new (o := .lst (q.rs.map V.str)) mOl)
      have hlO2 : ∀ a ∈ asO, (upd H' l (.lst (q.rs.map V.str))) a ≠ none := fun a ha => by
        obtain ⟨xs, e⟩ := aO2.is a ha
        rw [kl.mh _ _ e]
        exact fun z => nomatch z
      have nl0 : H l = none := fresh_back x1 nl
      generalize hMl : upd MO l (.lst (q.rs.map V.str)) = Ml at kl dO2 aO2
      have ml : Ml l = some (.lst (q.rs.map V.str)) := by rw [← hMl]; exact upd_same
      have xF : Ex H (upd H' l (.lst (q.rs.map V.str))) := kl.hh
      have hpF2 := xF _ _ hpF
      have hLl : (upd H' l (.lst (q.rs.map V.str))) l ≠ none := by rw [upd_same]; exact fun z => nomatch z
      generalize upd H' l (.lst (q.rs.map V.str)) = HL at kl xF hpF2 hlO2 hLl ⊢
      refine ⟨_, rfl, _, rfl, p, _, _, _, rfl, rfl, SqL.of (xF _ _ h0), rfl, a3, rfl, ⟨_, SqL.of hpF2⟩, fun D2 nD2 => ?_⟩
      refine lc_list (K := K) (a := a3) (xs := xsF) (fun i H' => ∃ (M : Hp) (acc : List V), New HL H' M ∧ H' D2 = some (.lst acc) ∧ M D2 = none ∧ FrA K HL M acc ((q.fs.take i).map fnD)) ?_ (fun i H' _ ⟨_, _, k, _⟩ => SqL.of (k.hh _ _ hpF2)) ?_ ?_
      · exact ⟨emp, [], New.refl.own nD2, upd_same, rfl, FrA.nil⟩
      · rintro i x H' hi ⟨M, acc, k, hD, mD, ha⟩
        obtain ⟨g, ta, pl, how, rfl, hT, hpl⟩ := fn_at hxF hi
        obtain ⟨h1, h2⟩ := le.fs g (List.mem_of_getElem? how)
        refine ⟨ta, _, rfl, sqt_ex (same_ex (xF.trans k.hh)) hT, rfl, _, _, rfl, _, _, rfl, _, _, rfl, rfl, rfl, _, rfl, _, rfl, _, rfl, cop_k (G := H) (xF.trans k.hh) hpl h1 h2 fun p3 H3 M3 k3 h3 => ⟨by show 3 ≤ sizeLine; decide, fun tp ntp => ?_⟩⟩
        have hD3 := k3.hh _ _ hD
        have k4 := (k.trans k3).put (o := .tup [.str g.1, .str g.2.1, .ref p3]) ntp
        have ft : D2 ≠ tp := ne_of_none hD3 ntp
        have mt : (join M M3) tp = none := (k.trans k3).none ntp
        have mD2 : (upd (join M M3) tp (.tup [.str g.1, .str g.2.1, .ref p3])) D2 = none := by
          rw [upd_ne ft]
          exact join_none mD (k3.fr _ _ hD)
        refine ⟨acc, by rw [upd_ne ft]; exact hD3, ?_, _, acc ++ [.ref tp], k4.wr nD2 mD2, upd_same, mD2, ?_⟩
        · have := dqa_len ha.dq
          rw [List.length_map, List.length_take] at this
          have h2 := (List.getElem?_eq_some_iff.mp hi).1
          have e3z : (5000 : Nat) < sizeLine := by decide
          have := le.fl
          omega
        · rw [List.take_succ, how, List.map_append]
          exact FrA.app k ha (join_l.trans (Ex.new mt)) (Ex.refl _) (fn_fr (h3.mono ((k.right k3).trans (Ex.new mt))) upd_same)
      · rintro H' ⟨M, acc, k, hD, mD, ha⟩
        rw [hlF, List.take_of_length_le (Nat.le_refl _)] at ha
        have kF := k.frz nD2 hD
        have dF : FrN K HL (upd M D2 (.lst acc)) (.ref D2) (.list (q.fs.map fnD)) := FrN.lst ha mD nD2
        generalize upd M D2 (.lst acc) = MF at kF dF
        have kk := kl.trans kF
        refine ⟨by show 3 ≤ sizeLine; decide, fun pp np => ?_⟩
        have np2 : (join Ml MF) pp = none := kk.none np
        obtain ⟨asF, aF, bF, cF⟩ := dF
        have fr : FrA K H (join Ml MF) [.ref l, .ref D, .ref D2] [strsD q.rs, .list (q.os.map ownD), .list (q.fs.map fnD)] := by
          have := DqNA.cons (as := [l]) (.lst (K := K) (H := join Ml MF) (join_l _ _ ml) (strs_n q.rs)) (.cons (aO2.mono join_l) (.cons (aF.mono (kl.right kF)) .nil))
          rw [show [l] ++ (asO ++ (asF ++ [])) = l :: (asO ++ asF) by simp] at this
          refine ⟨_, this, List.nodup_cons.mpr ⟨fun h => ?_, List.nodup_append.mpr ⟨bO, bF, fun x hx y hy e => ?_⟩⟩, fun x hx => ?_⟩
          · rcases List.mem_append.mp h with h | h
            · exact nlO h
            · exact hLl (cF l h)
          · exact hlO2 x hx (e ▸ cF y hy)
          · rcases List.mem_cons.mp hx with rfl | hx
            · exact nl0
            · rcases List.mem_append.mp hx with hx | hx
              · exact cO x hx
              · exact fresh_back xF (cF x hx)
        have hnp : H pp = none := fresh_back kk.hh np
        exact fin pp _ _ (kk.put (o := .lst [.ref l, .ref D, .ref D2]) np) (FrN.lst fr np2 hnp)
end
end Lx

set_option Elab.async false
set_option maxRecDepth 100000
set_option linter.all false
set_option maxHeartbeats 4000000
namespace Lx
open PySem PySem.Spec PyProof.Rows L2 Evl Kx
section
variable {P : Program} {w : World} {K : PySem.W.Frag} {mg : Str → Option Value} {base : Heap} {f : Addr} {fd : FuncData}
abbrev sLaw : Stmt := top 51
abbrev nLaw : List Str := ["script", "index", "generator", "parts", "given", "program", "some", "turn", "told", "thing", "other"]
theorem scLaw : FnScope ["script", "index", "generator", "parts", "given", "program", "some", "turn", "told", "thing", "other"] ["script"] (defScope sLaw) := ⟨rfl, rfl, rfl, by decide +kernel, rfl, by decide +kernel, by decide +kernel⟩
def spLaw (K : PySem.W.Frag) : Sp := fun vs H Q _ => ∃ (l : Addr) (ns : List Int), vs = [.ref l] ∧ SqL K H l (ns.map V.int) ∧ Sys H ∧ ∀ H', Q (.bl true) H'
structure Cal (K : PySem.W.Frag) (mg : Str → Option Value) (x : Str) (g : Addr) (fd : FuncData) (ps : List Str) : Prop where
  m : mg x = some (.ref g)
  k : PySem.W.keepIn K (.ref g) = true
  b : Binds K fd ps []
theorem spo_ref {H : Hp} {n : Nat} {d : PyData} {v : V} {as : List Addr} (hs : spoN n d) (h : DqN K H v d as) : ∃ p, v = .ref p := by
  cases n with
  | zero => exact hs.elim
  | succ n =>
    cases d <;> first | exact hs.elim | skip
    cases h with
    | flat f _ => exact absurd f Bool.false_ne_true
    | lst _ _ => exact ⟨_, rfl⟩
theorem sql_ex {H H' : Hp} {a : Addr} {xs : List V} (e : Same H H') (h : SqL K H a xs) : SqL K H' a xs := by
  rcases h with (h | ⟨o, h⟩) | h
  · exact .inl (.inl (e _ _ h))
  · exact .inl (.inr ⟨o, e _ _ h⟩)
  · exact .inr h
theorem ex_split {A B H : Hp} (a : Ex A H) (b : Ex B H) : Ex (join A B) H := fun x o h => (join_inv h).elim (a x o) fun z => b x o z.2
/-- what is at this heap but in the lists as stays -/
theorem ex_but {A H H' : Hp} {as : List Addr} (e : Ex A H) (n : ∀ a ∈ as, A a = none) (k : ∀ a u, a ∉ as → H a = some u → H' a = some u) : Ex A H' := fun a u h => k a u (fun z => by rw [n a z] at h; cases h) (e a u h)
/-- what stands in the list of things -/
def ThingOk (K : PySem.W.Frag) (C : Addr) (q : Prt) (H : Hp) (x : V) : Prop := (∃ p2 q2, x = .ref p2 ∧ ProgAt K C H p2 q2 ∧ Oth q q2) ∨ ∃ d, Dq K H x d
theorem ThingOk.mono {C : Addr} {q : Prt} {H H' : Hp} {x : V} (e : Ex H H') (h : ThingOk K C q H x) : ThingOk K C q H' x := by
  rcases h with ⟨p2, q2, rfl, h, o⟩ | ⟨d, h⟩
  · exact .inl ⟨p2, q2, rfl, h.mono e, o⟩
  · exact .inr ⟨d, h.mono (same_ex e)⟩
theorem gen_k {l : Addr} {ns : List Int} {j : Nat} {H : Hp} {Q : VK} {E : XK} (h : SqL K H l (ns.map V.int)) (q : ∀ p H', H p = none → Ex H H' → GenAt H' p (1000 * j) → Q (.ref p) H') : spGen K [.ref l, .int j] H Q E := by

  exact ⟨l, ns, j, rfl, h, fun p H' a b c => q p H' a (ex_same b) c⟩
theorem rndL_k {g : Addr} {n : Nat} {H : Hp} {Q : VK} {E : XK} (h : GenAt H g n) (hn : n < 2 ^ 50) (q : ∀ (r : Int) H' o, 0 ≤ r ∧ r < 4 → H' = upd H g o → GenAt H' g (n + 2) → Q (.int r) H') : spRnd [.ref g, .int 4] H Q E := by

  exact ⟨g, n, 4, rfl, h, hn, ⟨by decide, by decide⟩, q⟩
theorem prt_k {g : Addr} {n many : Nat} {G H : Hp} {Q : VK} {E : XK} {m : Int} (hm : m = (many : Int)) (h1 : 1 ≤ many) (h4 : many ≤ 4) (h : GenAt H g n) (hn : n < 2 ^ 39) (e : Ex G H) (n0 : G g = none)
    (q : ∀ (p : Addr) G2 H2 (pt : Prt), KS g G H G2 H2 (n + 4000) → Dq K G2 (.ref p) (prtD pt) → PrtOk many pt → Q (.ref p) H2) : spPrt K [.ref g, .int m, .int 4] H Q E := by

  subst hm
  exact ⟨g, n, G, many, 4, rfl, h1, h4, Nat.le_refl _, h, hn, e, n0, q⟩
theorem lst_k {p : Addr} {q : Prt} {H : Hp} {Q : VK} {E : XK} (h : Dq K H (.ref p) (prtD q)) (n : Nice q) (k : ∀ p2 H2 M, New H H2 M → FrN K H M (.ref p2) (prtD q) → Q (.ref p2) H2) : spLst K 4 [.ref p] H Q E := by

  exact ⟨p, q, rfl, h, n.good.le, k⟩
theorem pgm_k {p C : Addr} {q : Prt} {H : Hp} {Q : VK} {E : XK} (h : Dq K H (.ref p) (prtD q)) (n : Nice q) (k : ∀ p2 H2 M, New H H2 M → ProgAt K C M p2 q → Q (.ref p2) H2) : spPgm K 12 4 C [.ref p] H Q E := by

  exact ⟨p, q, rfl, h, n.good, k⟩
theorem ot_k {p : Addr} {q : Prt} {m : Nat} {G H : Hp} {Q : VK} {E : XK} (e : Ex G H) (h : Dq K G (.ref p) (prtD q)) (ok : PrtOk m q) (h1 : 1 ≤ m) (h4 : m ≤ 4)
    (k : ∀ (v : V) (ps : List Prt) G2 H2, Ext G H G2 H2 → Dq K G2 v (.list (ps.map prtD)) → (∀ p ∈ ps, Oth q p) → ps.length ≤ 100 → Q v H2) : spOt K [.ref p] H Q E := by

  exact ⟨p, G, q, m, rfl, e, h, ok, h1, h4, k⟩
theorem spo_k {p : Addr} {d : PyData} {as : List Addr} {H : Hp} {Q : VK} {E : XK} (h : DqN K H (.ref p) d as) (n : as.Nodup) (s : spoN 6 d) (k : ∀ H2, (∀ a o, a ∉ as → H a = some o → H2 a = some o) → Q .non H2) : spSpo K 6 [.ref p] H Q E := by

  exact ⟨p, d, as, rfl, h, n, s, k⟩
theorem rf_k {p : Addr} {q : Prt} {m : Nat} {G H : Hp} {Q : VK} {E : XK} (e : Ex G H) (y : Sys G) (h : Dq K G (.ref p) (prtD q)) (ok : PrtOk m q) (n : Nice q) (k : ∀ H2, Ex H H2 → Q (.bl true) H2) : spRf K 4 [.ref p] H Q E := by

  obtain ⟨c, hc, hr⟩ := ok.rs
  exact ⟨p, G, q, c, rfl, e, y, h, ⟨n.good, hc, hr, ok.os⟩, k⟩
theorem kr_k {H : Hp} {Q : VK} {E : XK} (k : ∀ H2, Ex H H2 → Q (.bl true) H2) : spKr [] H Q E := by

  exact ⟨rfl, k⟩
theorem ri_k {p C : Addr} {q : Prt} {H : Hp} {Q : VK} {E : XK} (h : ProgAt K C H p q) (k : ∀ l H2 M, New H H2 M → FrN K H M (.ref l) (strsD q.rs) → Q (.ref l) H2) : spRi K C [.ref p] H Q E := by

  exact ⟨p, q, rfl, h, fun l H2 M n e => k l H2 M n (FrN.strs e (by
    cases z : H l with
    | none => rfl
    | some o => rw [n.fr l o z] at e; cases e))⟩
theorem os_k {p C : Addr} {q : Prt} {H : Hp} {Q : VK} {E : XK} (h : ProgAt K C H p q) (n : Nice q) (k : ∀ l H2 M, New H H2 M → FrN K H M (.ref l) (.list (q.os.map ownD)) → Q (.ref l) H2) : spOs K C [.ref p] H Q E := by

  exact ⟨p, q, rfl, h, by have := n.ol; omega, k⟩
theorem fs_k {p C : Addr} {q : Prt} {H : Hp} {Q : VK} {E : XK} (h : ProgAt K C H p q) (n : Nice q) (k : ∀ l H2 M, New H H2 M → FrN K H M (.ref l) (.list (q.fs.map fnD)) → Q (.ref l) H2) : spFs K C 4 [.ref p] H Q E := by

  exact ⟨p, q, rfl, h, n.good.le, k⟩
theorem eq_kP {p p2 C : Addr} {q q2 : Prt} {H : Hp} {Q : VK} {E : XK} (h : ProgAt K C H p q) (n : Nice q) (h2 : ProgAt K C H p2 q2) (n2 : Nice q2) (k : Q (.bl (sameP q q2)) H) : spEqP K C [.ref p, .ref p2] H Q E := by

  exact ⟨p, _, q, rfl, h, n.good.sh, .inl ⟨p2, q2, rfl, h2, n2.good.sh, k⟩⟩
theorem eq_kD {p C : Addr} {q : Prt} {v : V} {d : PyData} {H : Hp} {Q : VK} {E : XK} (h : ProgAt K C H p q) (n : Nice q) (h2 : Dq K H v d) (k : Q (.bl false) H) : spEqP K C [.ref p, v] H Q E := by

  exact ⟨p, _, q, rfl, h, n.good.sh, .inr ⟨d, h2, k⟩⟩
theorem same_sym {q o : Prt} (h : sameP q o = false) : sameP o q = false := by
  cases e : sameP o q with
  | false => rfl
  | true =>
    obtain ⟨a, b, c⟩ := same_eq e
    have : o = q := by
      cases o
      cases q
      cases a
      cases b
      cases c
      rfl
    subst this
    rw [e] at h
    exact h
/-- a spoiling loop over three things -/
theorem spoil_for {L : Addr} {xs : List V} {ds : List PyData} {as : List Addr} {S : Option V → L2.St} {D : Ends} {H : Hp} {o : Option V} {i : Nat} (hS : ∀ o x, (S o).set i (some x) = S (some x)) (hg : ∀ x, (S (some x))[i]? = some (some x))
    (hL : H L = some (.lst xs)) (hx : DqNA K H xs ds as) (hn : (L :: as).Nodup) (hs : ∀ d ∈ ds, spoN 6 d) (k : ∀ o H2, (∀ a u, a ∉ as → H a = some u → H2 a = some u) → D.nx (S o) H2) :
    ∃ W : Nat → Nat → L2.St → Hp → Prop, (∃ m, W 0 m (S o) H) ∧ ∀ j m σ H, W j m σ H →
      ((Itl K L).stop j H ∧ D.nx σ H) ∨ ((Itl K L).go j H ∧ ∃ N : L2.St → Hp → Prop, (∀ σ' H', N σ' H' → ∃ m', m' < m ∧ W (j + 1) m' σ' H') ∧ ∀ x H', (Itl K L).yld j H x H' → gName i x σ H' fun σ2 H2 => tDrop (tCall (spSpo K 6) [] E0 (tCons (tVar i) tNil)) { D with nx := N, ct := N, bk := D.nx } σ2 H2) := by
  obtain ⟨nL, nb⟩ := List.nodup_cons.mp hn
  refine for_list (K := K) (a := L) (xs := xs) (fun j σ H' => ∃ o, σ = S o ∧ Walk K H xs ds as j H') ⟨o, rfl, .start hx⟩ (fun j σ H' _ ⟨_, _, w⟩ => SqL.of (w.stay nL hL)) ?_ ?_
  · rintro j x σ H' hj ⟨o', rfl, w⟩
    obtain ⟨d, bs, hd, hxe, nd, sub, nxt⟩ := w.item hj hx.is nb
    have sd := hs d (List.mem_of_getElem? hd)
    obtain ⟨p, rfl⟩ := spo_ref sd hxe
    show tDrop (tCall (spSpo K 6) [] E0 (tCons (tVar i) tNil)) _ ((S o').set i (some (.ref p))) H'
    rw [hS]
    refine ⟨.ref p, hg _, ?_⟩
    show spSpo K 6 [.ref p] H' _ _
    exact spo_k hxe nd sd fun H2 k2 => ⟨_, rfl, nxt H2 k2⟩
  · rintro σ H' ⟨o', rfl, w⟩
    exact k o' H' fun a u na h => w.stay na h
theorem ok_law {C CL CI fI fG fR fP fL fS fA fB fC fE fM fO fF fV fW : Addr} {dI dG dR dP dL dS dA dB dC dE dM dO dF dV dW : FuncData} (F : Fun K "law" "law" sLaw f fd) (T : PTxt K mg C) (I : PIsi K C) (O : OwnE K C fE) (N : NoSub K C)
    (nfC : PySem.W.notFirst K C (.ref C) = true) (nfT : ∀ t ∈ (["NoneType", "bool", "int", "str", "list", "tuple", "dict"] : List String), PySem.W.notFirst K C (.type t) = true)
    (M0 : Mk K C fI) (FI : FnOk P w K mg base (L2.CX P w) 43 fI dI ["self", "rights", "owners", "functions"] (spInit K 12 4 C CL CI)) (bI : Binds K dI ["self", "rights", "owners", "functions"] [])
    (FG : FnOk P w K mg base CX0 2 fG dG ["script", "index"] (spGen K)) (cG : Cal K mg "_law_generator" fG dG ["script", "index"])
    (FR : FnOk P w K mg base CX0 2 fR dR ["generator", "bound"] spRnd) (cR : Cal K mg "_law_random" fR dR ["generator", "bound"])
    (FP : FnOk P w K mg base CX0 9 fP dP ["generator", "many", "most"] (spPrt K)) (cP : Cal K mg "_law_parts" fP dP ["generator", "many", "most"])
    (FL : FnOk P w K mg base CX0 7 fL dL ["parts"] (spLst K 4)) (cL : Cal K mg "_law_lists" fL dL ["parts"])
    (FS : FnOk P w K mg base CX0 7 fS dS ["body"] (spSpo K 6)) (cS : Cal K mg "_law_spoilt" fS dS ["body"])
    (FA : FnOk P w K mg base CX0 1 fA dA ["self"] (spRi K C)) (mA : Meth K C "rights" fA) (bA : Binds K dA ["self"] [])
    (FB : FnOk P w K mg base CX0 2 fB dB ["self"] (spOs K C)) (mB : Meth K C "owners" fB) (bB : Binds K dB ["self"] [])
    (FC : FnOk P w K mg base CX0 13 fC dC ["self"] (spFs K C 4)) (mC : Meth K C "functions" fC) (bC : Binds K dC ["self"] [])
    (FE : FnOk P w K mg base CX0 1 fE dE ["self", "other"] (spEqP K C)) (bE : Binds K dE ["self", "other"] [])
    (FM : FnOk P w K mg base CX0 45 fM dM ["parts"] (spPgm K 12 4 C)) (cM : Cal K mg "_law_program" fM dM ["parts"])
    (FO : FnOk P w K mg base CX0 1 fO dO ["parts"] (spOt K)) (cO : Cal K mg "_law_others" fO dO ["parts"])
    (FF : GnOk P w K mg base CX0 47 fF dF ["parts"] (spRf K 4)) (cF : Cal K mg "_law_refused" fF dF ["parts"])
    (FV : FnOk P w K mg base CX0 45 fV dV [] spKr) (cV : Cal K mg "_law_very_things" fV dV [])
    (FW : FnOk P w K mg base CX0 45 fW dW [] spKr) (cW : Cal K mg "_law_known_right" fW dW [])
    (mRep : mg "repr" = none) (mRng : mg "range" = none) : GnOk P w K mg base CX0 48 f fd ["script"] (spLaw K) := by
  refine gn_ok F scLaw (fun vs H Q E h => ?_) (fun cdv A outer s H vs Q E hg hr h => ?_)
  · obtain ⟨_, _, rfl, _⟩ := h
    rfl
  · obtain ⟨l, ns, rfl, hS, hy, fin⟩ := h
    have hu := hr.units
    have r1 := hr.mono (j := 1) (by decide)
    have r2 := hr.mono (j := 2) (by decide)
    have r7 := hr.mono (j := 7) (by decide)
    have r9 := hr.mono (j := 9) (by decide)
    have r13 := hr.mono (j := 13) (by decide)
    have r44 := hr.mono (j := 44) (by decide)
    have r45 := hr.mono (j := 45) (by decide)
    have r47 := hr.mono (j := 47) (by decide)
    have hgu : (A.deeper (envOfC "law" (defScope sLaw) s.heap.objs.size f cdv)).guards = some [] := hg
    refine ⟨_, pss_cons (ps_for PassesOwn.never rfl (pi_range1 (by rfl) mRng (pa_cons pe_int pa_nil)) (pg_name (i := 1) scLaw.nd rfl (Or.inl rfl))
        (pss_cons (ps_set (i := 2) scLaw.nd rfl (Or.inl rfl) (pe_call FG r2 rfl cG.m cG.k cG.b .nil pass0 (pa_cons (pv 0) (pa_cons (pv 1) pa_nil))))
        (pss_cons (ps_set (i := 3) scLaw.nd rfl (Or.inl rfl) (pe_call FP r9 rfl cP.m cP.k cP.b .nil pass0 (pa_cons (pv 2) (pa_cons (pe_op op_add pe_int (pe_call FR r2 rfl cR.m cR.k cR.b .nil pass0 (pa_cons (pv 2) (pa_cons pe_int pa_nil)))) (pa_cons pe_int pa_nil)))))
        (pss_cons (ps_set (i := 4) scLaw.nd rfl (Or.inl rfl) (pe_call FL r7 rfl cL.m cL.k cL.b .nil pass0 (pa_cons (pv 3) pa_nil)))
        (pss_cons (ps_set (i := 5) scLaw.nd rfl (Or.inl rfl) (pe_make M0 FI r44 rfl T.mgC bI .nil (no_passes rfl rfl) (pa_cons (pe_ix ix_list (pv 4) pe_int (fun _ _ => rfl)) (pa_cons (pe_ix ix_list (pv 4) pe_int (fun _ _ => rfl)) (pa_cons (pe_ix ix_list (pv 4) pe_int (fun _ _ => rfl)) pa_nil)))))
        (pss_cons (ps_if (pt_cmpR (op_neD hu) (pv 4) (pe_call FL r7 rfl cL.m cL.k cL.b .nil pass0 (pa_cons (pv 3) pa_nil)) (nomark _)) (pss_one (ps_ret pe_bl)) pss_nil)
        (pss_cons (ps_for PassesOwn.never rfl (pi_list (pv 4)) (pg_name (i := 6) scLaw.nd rfl (Or.inl rfl)) (pss_one (ps_expr (pe_call FS r7 rfl cS.m cS.k cS.b .nil pass0 (pa_cons (pv 6) pa_nil)))))
        (pss_cons (ps_for PassesOwn.never rfl (pi_range1 (by rfl) mRng (pa_cons pe_int pa_nil)) (pg_name (i := 7) scLaw.nd rfl (Or.inl rfl))
          (pss_cons (ps_set (i := 8) scLaw.nd rfl (Or.inl rfl) (pe_lst (pa_cons (pe_meth0 (pv 5) T.cl mA FA r1 bA .nil pass0) (pa_cons (pe_meth0 (pv 5) T.cl mB FB r2 bB .nil pass0) (pa_cons (pe_meth0 (pv 5) T.cl mC FC r13 bC .nil pass0) pa_nil)))))
          (pss_cons (ps_if (PW.pt (pw_or (pt_cmpR op_ne (pe_callB (call_repr hgu hu) (by rfl) mRep PyProof.Rows.boot_repr (pa_cons (pv 8) pa_nil)) (pe_callB (call_repr hgu hu) (by rfl) mRep PyProof.Rows.boot_repr (pa_cons (pe_call FL r7 rfl cL.m cL.k cL.b .nil pass0 (pa_cons (pv 3) pa_nil)) pa_nil)) (nomark _))
              (pw_or1 (pt_cmpR (op_neO O FE bE r2 pass0) (pv 5) (pe_call FM r45 rfl cM.m cM.k cM.b .nil pass0 (pa_cons (pv 3) pa_nil)) (nomark _))))) (pss_one (ps_ret pe_bl)) pss_nil)
          (pss_one (ps_for PassesOwn.never rfl (pi_list (pv 8)) (pg_name (i := 6) scLaw.nd rfl (Or.inl rfl)) (pss_one (ps_expr (pe_call FS r7 rfl cS.m cS.k cS.b .nil pass0 (pa_cons (pv 6) pa_nil)))))))))
        (pss_cons (ps_for PassesOwn.never rfl (pi_list (pe_op op_cat (pe_lc (own := [("other", 10)]) (g := gName 10) rfl scLaw.nd (pi_list (pe_call FO r1 rfl cO.m cO.k cO.b .nil pass0 (pa_cons (pv 3) pa_nil)))
              (blkOk_by (own := [("other", 10)]) (N := ["script", "index", "generator", "parts", "given", "program", "some", "turn", "told", "thing", "other"]) (sc := defScope sLaw) (by decide +kernel))
              (fun _ _ _ _ _ => pg_name (i := 10) scLaw.nd rfl (Or.inl rfl)) (fun _ _ _ _ _ => pts_nil)
              (fun _ _ _ _ _ => pe_call FM r45 rfl cM.m cM.k cM.b .nil pass0 (pa_cons (pv 10) pa_nil)))
            (pe_lst (pa_cons pe_non (pa_cons pe_int (pa_cons (pe_lst pa_nil) (pa_cons pe_dnewK (pa_cons pe_str (pa_cons (pv 3) pa_nil))))))))) (pg_name (i := 9) scLaw.nd rfl (Or.inl rfl))
          (pss_one (ps_if (PW.pt (pw_or (pt_cmpR (op_eqO O FE bE r1 pass0) (pv 5) (pv 9) (nomark _)) (pw_or (pt_cmpR (op_or (op_eqO O FE bE r1 pass0) (op_eqR O N FE bE r1 pass0)) (pv 9) (pv 5) (nomark _)) (pw_or1 (pt_not (pt_cmpR (op_neO O FE bE r2 pass0) (pv 5) (pv 9) (nomark _))))))) (pss_one (ps_ret pe_bl)) pss_nil)))
        (pss_one (ps_if (pt_not (pt_val (pe_callG FF hgu r47 rfl cF.m cF.k cF.b .nil pass0 (pa_cons (pv 3) pa_nil)))) (pss_one (ps_ret pe_bl)) pss_nil)))))))))))
      (pss_one (ps_ret (pe_and (pe_call0 FV r45 rfl cV.m cV.k cV.b .nil pass0) (pe_one (pe_call0 FW r45 rfl cW.m cW.k cW.b .nil pass0))))), ?_⟩
    refine rd_srng (n := 5) (fun σ' => ∃ o1 o2 o3 o4 o5 o6 o7 o8 o9, σ' = [some (.ref l), o1, o2, o3, o4, o5, o6, o7, o8, o9, none]) rfl (by decide) ⟨_, _, _, _, _, _, _, _, _, rfl⟩ ?_ ?_
    · rintro j σ' H0 hj ⟨o1, o2, o3, o4, o5, o6, o7, o8, o9, rfl⟩ e0
      have y0 : Sys H0 := hy.mono (same_ex e0)
      refine ⟨_, rfl, _, rfl, gen_k (sql_ex (same_ex e0) hS) fun g H1 ng e1 gg => ?_⟩
      refine ⟨_, rfl, _, rfl, rndL_k gg (by omega) fun r H2 o hr4 hH2 g2 => ?_⟩
      subst hH2
      have hmany : (1 : Int) + r = ((1 + r.toNat : Nat) : Int) := by omega
      have n20 : H1 g ≠ none := fun z => by obtain ⟨o, q⟩ := gg.is; rw [z] at q; cases q
      have eg : Ex H0 (upd H1 g o) := fun a u h => by
        rw [upd_ne (ne_of_none h ng)]
        exact e1 a u h
      refine ⟨_, _, rfl, rfl, prt_k hmany (by omega) (by omega) g2 (by omega) eg ng fun pp G2 H3 q ks hq ok => ?_⟩
      have nq : Nice q := PrtOk.nice ok (by omega) (by omega)
      have e3 : Ex G2 H3 := ks.x.gh
      have e03 : Ex H0 H3 := ks.x.gg.trans ks.x.gh
      have yG : Sys G2 := y0.mono (same_ex ks.x.gg)
      clear ks g2 eg n20 gg e1
      refine ⟨_, rfl, lst_k (hq.mono (same_ex e3)) nq fun L H4 M1 k4 fr => ?_⟩
      obtain ⟨as, fa, fn, fx⟩ := fr
      obtain ⟨b1, b2, b3, i0, i1, i2, i3⟩ := prt_at (fa.dq.mono (same_ex k4.mh))
      refine ⟨_, rfl, L, _, _, .ref b1, rfl, rfl, SqL.of i0, rfl, _, rfl, L, _, _, .ref b2, rfl, rfl, SqL.of i0, rfl, _, rfl, L, _, _, .ref b3, rfl, rfl, SqL.of i0, rfl, fun p dx np nd ne => ?_⟩
      refine init_k (q := q) np nd ne nq.good i1 i2 i3 fun H5 M5 k5 hp => ⟨rfl, ?_⟩
      refine ⟨_, rfl, _, rfl, lst_k (hq.mono (same_ex (e3.trans (k4.hh.trans k5.hh)))) nq fun L2 H6 M6 k6 fr6 => ?_⟩
      have sh := nq.shaped
      refine ⟨prtD q, prtD q, dp_of (fa.dq.mono (same_ex (k4.mh.trans (k5.hh.trans k6.hh)))) (shaped_noDict sh), dp_of (fr6.dq.mono (same_ex k6.mh)) (shaped_noDict sh), sh, sh, ?_⟩
      rw [eqv_self (shaped_noDict sh)]
      refine ⟨_, rfl, iteF ?_⟩
      obtain ⟨L', xs, as, eL, hL, fl, rfl⟩ := inv_lst fa
      cases eL
      have m46 : Ex H4 H6 := k5.hh.trans k6.hh
      have e36 : Ex H3 H6 := k4.hh.trans m46
      have e16 : Ex M1 H6 := k4.mh.trans m46
      refine ⟨_, rfl, L, rfl, ⟨_, SqL.of (e16 _ _ hL)⟩, ?_⟩
      refine spoil_for (K := K) (S := fun oo => [some (.ref l), some (.int (j : Nat)), some (.ref g), some (.ref pp), some (.ref L), some (.ref p), oo, o7, o8, o9, none]) (fun _ _ => rfl) (fun _ => rfl) (e16 _ _ hL) (fl.mono e16) fn (spo_prt nq) fun os H7 k7 => ?_
      have x3 : Ex H3 H7 := ex_but e36 (fun a ha => fx a (List.mem_cons_of_mem _ ha)) k7
      have f5 : ∀ a ∈ as, M5 a = none := fun a ha => by
        obtain ⟨ys, e⟩ := fl.is a ha
        exact k5.fr a _ (k4.mh _ _ e)
      have x5 : Ex M5 H7 := ex_but (k5.mh.trans k6.hh) f5 k7
      have hp7 : ProgAt K C (join H3 M5) p q := hp.mono fun a u e => join_r e (by
        cases z : H3 a with
        | none => rfl
        | some u' => rw [k5.fr a u' (k4.hh _ _ z)] at e; cases e)
      have eB : Ex (join H3 M5) H7 := ex_split x3 x5
      have e3B : Ex H3 (join H3 M5) := join_l
      clear x3 x5 f5 e16 e36 m46 fl k7 hL fn fx fa k4 k5 k6 fr6 hp i0 i1 i2 i3 np nd ne
      generalize join H3 M5 = B at hp7 eB e3B
      refine rd_srng (n := 2) (fun σ' => ∃ o6 o7 o8, σ' = [some (.ref l), some (.int (j : Nat)), some (.ref g), some (.ref pp), some (.ref L), some (.ref p), o6, o7, o8, o9, none] ) rfl (by decide) ⟨_, _, _, rfl⟩ ?_ ?_
      · rintro t σ' H8 ht ⟨o6, o7, o8, rfl⟩ e8
        have eB8 : Ex B H8 := eB.trans e8
        have hp8 := hp7.mono eB8
        have hp8' := hp8
        obtain ⟨dx, c1, c2, c3, j0, j1, j2, j3⟩ := hp8'
        refine ⟨_, rfl, p, dx, _, rfl, j0, lk_no (by decide +kernel) (by decide +kernel) (by decide +kernel), ri_k hp8 fun l1 H9 M9 k9 f9 => ?_⟩
        refine ⟨_, rfl, p, dx, _, rfl, k9.hh _ _ j0, lk_no (by decide +kernel) (by decide +kernel) (by decide +kernel), os_k (hp8.mono k9.hh) nq fun l2 H10 M10 k10 f10 => ?_⟩
        refine ⟨_, rfl, p, dx, _, rfl, (k9.hh.trans k10.hh) _ _ j0, lk_no (by decide +kernel) (by decide +kernel) (by decide +kernel), fs_k (hp8.mono (k9.hh.trans k10.hh)) nq fun l3 H11 M11 k11 f11 => ?_⟩
        refine ⟨by show 3 ≤ sizeLine; decide, fun tt ntt => ?_⟩
        have kk := (k9.trans k10).trans k11
        have a1 := FrA.app (M' := M9) (New.refl (H := H8)) FrA.nil (fun _ _ z => nomatch z) (Ex.refl _) f9
        have a2 := FrA.app k9 a1 join_l (k9.right k10) f10
        have a3 := FrA.app (k9.trans k10) a2 join_l ((k9.trans k10).right k11) f11
        have k12 := kk.put (o := .lst [.ref l1, .ref l2, .ref l3]) ntt
        have f12 := FrN.lst a3 (kk.none ntt) (kk.hnone ntt)
        have f12 : FrN K H8 _ (.ref tt) (prtD q) := f12
        clear kk a1 a2 a3 f9 f10 f11 k9 k10 k11
        generalize upd H11 tt (.lst [.ref l1, .ref l2, .ref l3]) = H12 at k12 ⊢
        have y12 : Sys H12 := yG.mono (same_ex ((e3.trans e3B).trans (eB8.trans k12.hh)))
        obtain ⟨⟨sw1, sw2⟩, sw3⟩ := nq.show
        have sw4 : (prtD q).shown.length ≤ sizeLine := Nat.le_trans (shown_le _) (Nat.le_trans sw2 (by decide))
        refine ⟨_, rfl, _, prtD q, rfl, y12, f12.dq.mono (same_ex k12.mh), sw1, by omega, sw4, ?_⟩
        refine ⟨_, rfl, lst_k (hq.mono (same_ex ((e3.trans e3B).trans (eB8.trans k12.hh)))) nq fun L3 H13 M13 k13 f13 => ⟨_, prtD q, rfl, y12.mono (same_ex k13.hh), f13.dq.mono (same_ex k13.mh), sw1, by omega, sw4, ?_⟩⟩
        have dd : decide (V.str (prtD q).shown = V.str (prtD q).shown) = true := decide_eq_true rfl
        have e8d : Ex H8 H13 := k12.hh.trans k13.hh
        refine ⟨rfl, ?_⟩
        rw [dd]
        refine ⟨_, rfl, iteF ?_⟩
        refine ⟨_, rfl, _, rfl, pgm_k (hq.mono (same_ex ((e3.trans e3B).trans (eB8.trans e8d)))) nq fun p14 H14 M14 k14 hp14 => ?_⟩
        have e8e : Ex H8 H14 := e8d.trans k14.hh
        have hq14 := hp14.mono k14.mh
        obtain ⟨dy, g1, g2, g3, q0, q1, q2, q3⟩ := hp14.mono k14.mh
        refine ⟨p, dx, _, .ref C, rfl, e8e _ _ j0, .base (.ins q0 T.cl I.ha I.hn I.ht I.hm), nfC, eq_kP (hp8.mono e8e) nq hq14 nq ⟨_, rfl, ?_⟩⟩
        rw [sameP_self nq.good.sh]
        refine ⟨_, rfl, iteF ?_⟩
        obtain ⟨as, fa, fn, fx⟩ := f12
        obtain ⟨L', xs, as, eL, hL, fl, rfl⟩ := inv_lst fa
        cases eL
        have e1e : Ex _ H14 := k12.mh.trans (k13.hh.trans k14.hh)
        refine ⟨_, rfl, tt, rfl, ⟨_, SqL.of (e1e _ _ hL)⟩, ?_⟩
        refine spoil_for (K := K) (S := fun oo => [some (.ref l), some (.int (j : Nat)), some (.ref g), some (.ref pp), some (.ref L), some (.ref p), oo, some (.int (t : Nat)), some (.ref tt), o9, none]) (fun _ _ => rfl) (fun _ => rfl) (e1e _ _ hL) (fl.mono e1e) fn (spo_prt nq) fun os H15 k15 => ?_
        exact ⟨⟨_, _, _, rfl⟩, e8.trans (ex_but e8e (fun a ha => fx a (List.mem_cons_of_mem _ ha)) k15)⟩
      · rintro σ' H8 ⟨o6, o7, o8, rfl⟩ e8
        have eB8 : Ex B H8 := eB.trans e8
        have hp8 := hp7.mono eB8
        have eG8 : Ex G2 H8 := (e3.trans e3B).trans eB8
        refine ⟨_, rfl, ot_k eG8 hq ok (by omega) (by omega) fun v ps G9 H9 x9 hv hps hl => ?_⟩
        obtain ⟨av, xs, rfl, gv, sv⟩ := dq_list hv rfl
        have sv : DqA K G9 xs (ps.map prtD) := sv
        refine ⟨av, rfl, ⟨_, SqL.of (x9.gh _ _ gv)⟩, fun D nD => ?_⟩
        have lx : xs.length = ps.length := by
          have := dqa_len sv
          rw [List.length_map] at this
          exact this
        refine lc_list (K := K) (a := av) (xs := xs) (fun i H' => ∃ (M : Hp) (acc : List V), New H9 H' M ∧ H' D = some (.lst acc) ∧ M D = none ∧ acc.length ≤ i ∧ ∀ x ∈ acc, ∃ p2 q2, x = .ref p2 ∧ ProgAt K C M p2 q2 ∧ Oth q q2) ?_ (fun i H' _ ⟨_, _, k, _⟩ => SqL.of (k.hh _ _ (x9.gh _ _ gv))) ?_ ?_
        · exact ⟨emp, [], New.refl.own nD, upd_same, rfl, Nat.le_refl _, fun x hx => (nomatch hx)⟩
        · rintro i x H' hi ⟨M, acc, k, hD, mD, ha, hall⟩
          obtain ⟨d, hd, hx⟩ := dqa_get sv hi
          obtain ⟨o, ho, rfl⟩ := List.mem_map.mp (List.mem_of_getElem? hd)
          have oo := hps o ho
          obtain ⟨ax, _, rfl, _⟩ := dq_list hx rfl
          refine ⟨rfl, _, rfl, pgm_k (hx.mono (same_ex (x9.gh.trans k.hh))) oo.1 fun p2 H10 M10 k10 hp10 => ?_⟩
          have kk := k.trans k10
          have hD2 := k10.hh _ _ hD
          have mD2 : (join M M10) D = none := join_none mD (k10.fr _ _ hD)
          refine ⟨acc, hD2, ?_, _, acc ++ [.ref p2], kk.wr nD mD2, upd_same, mD2, ?_, fun x hx => ?_⟩
          · have := (List.getElem?_eq_some_iff.mp hi).1
            have e3z : (5000 : Nat) < sizeLine := by decide
            omega
          · rw [List.length_append]
            exact Nat.add_le_add_right ha 1
          · rcases List.mem_append.mp hx with hx | hx
            · obtain ⟨p3, q3, e, h3, o3⟩ := hall x hx
              exact ⟨p3, q3, e, h3.mono join_l, o3⟩
            · exact ⟨p2, o, List.mem_singleton.mp hx, hp10.mono (k.right k10), oo⟩
        · rintro H10 ⟨M, acc, k, hD, mD, ha, hall⟩
          have hall10 : ∀ x ∈ acc, ThingOk K C q H10 x := fun x hx => by
            obtain ⟨p3, q3, e, h3, o3⟩ := hall x hx
            exact .inl ⟨p3, q3, e, h3.mono k.mh, o3⟩
          have e8t : Ex H8 H10 := x9.hh.trans k.hh
          clear hall mD k x9 gv sv hv hps
          refine ⟨by show 0 ≤ sizeLine; decide, fun z0 nz0 z1 nz1 => ⟨_, rfl, by show 6 ≤ sizeLine; decide, fun z2 nz2 => ?_⟩⟩
          have n0D : D ≠ z0 := ne_of_none hD nz0
          have hD0 : (upd H10 z0 (.lst [])) D = some (.lst acc) := by rw [upd_ne n0D]; exact hD
          have n1D : D ≠ z1 := ne_of_none hD0 nz1
          have hD1 : (upd (upd H10 z0 (.lst [])) z1 (.dK [])) D = some (.lst acc) := by rw [upd_ne n1D]; exact hD0
          have n2D : D ≠ z2 := ne_of_none hD1 nz2
          refine ⟨D, z2, acc, _, rfl, rfl, by rw [upd_ne n2D]; exact hD1, upd_same, by
            have e3z : (5000 : Nat) < sizeLine := by decide
            show acc.length + 6 ≤ sizeLine
            omega, fun z3 nz3 => ?_⟩
          have h01 : (upd H10 z0 (.lst [])) z0 = some (.lst []) := upd_same
          have h02 := Ex.new (o := .dK []) nz1 _ _ h01
          have h03 := Ex.new (o := .lst [.non, .int 0, .ref z0, .ref z1, .str "program", .ref pp]) nz2 _ _ h02
          have h04 := Ex.new (o := .lst (acc ++ [.non, .int 0, .ref z0, .ref z1, .str "program", .ref pp])) nz3 _ _ h03
          have h12 : (upd (upd H10 z0 (.lst [])) z1 (.dK [])) z1 = some (.dK []) := upd_same
          have h13 := Ex.new (o := .lst [.non, .int 0, .ref z0, .ref z1, .str "program", .ref pp]) nz2 _ _ h12
          have h14 := Ex.new (o := .lst (acc ++ [.non, .int 0, .ref z0, .ref z1, .str "program", .ref pp])) nz3 _ _ h13
          have eZ : Ex H10 (upd (upd (upd (upd H10 z0 (.lst [])) z1 (.dK [])) z2 (.lst [.non, .int 0, .ref z0, .ref z1, .str "program", .ref pp])) z3 (.lst (acc ++ [.non, .int 0, .ref z0, .ref z1, .str "program", .ref pp]))) := ((Ex.new nz0).trans (Ex.new nz1)).trans ((Ex.new nz2).trans (Ex.new nz3))
          have hz3 : (upd (upd (upd (upd H10 z0 (.lst [])) z1 (.dK [])) z2 (.lst [.non, .int 0, .ref z0, .ref z1, .str "program", .ref pp])) z3 (.lst (acc ++ [.non, .int 0, .ref z0, .ref z1, .str "program", .ref pp]))) z3 = some (.lst (acc ++ [.non, .int 0, .ref z0, .ref z1, .str "program", .ref pp])) := upd_same
          generalize (upd (upd (upd (upd H10 z0 (.lst [])) z1 (.dK [])) z2 (.lst [.non, .int 0, .ref z0, .ref z1, .str "program", .ref pp])) z3 (.lst (acc ++ [.non, .int 0, .ref z0, .ref z1, .str "program", .ref pp]))) = HZ at h04 h14 eZ hz3 ⊢
          have hall : ∀ x ∈ acc ++ [.non, .int 0, .ref z0, .ref z1, .str "program", .ref pp], ThingOk K C q HZ x := fun x hx => by
            rcases List.mem_append.mp hx with hx | hx
            · exact (hall10 x hx).mono eZ
            rcases List.mem_cons.mp hx with rfl | hx
            · exact .inr ⟨_, .non⟩
            rcases List.mem_cons.mp hx with rfl | hx
            · exact .inr ⟨_, .int 0⟩
            rcases List.mem_cons.mp hx with rfl | hx
            · exact .inr ⟨_, .lst h04 .nil⟩
            rcases List.mem_cons.mp hx with rfl | hx
            · exact .inr ⟨_, .dic h14 .nil⟩
            rcases List.mem_cons.mp hx with rfl | hx
            · exact .inr ⟨_, .str _⟩
            · rw [List.mem_singleton.mp hx]
              exact .inr ⟨_, hq.mono (same_ex (eG8.trans (e8t.trans eZ)))⟩
          generalize acc ++ [.non, .int 0, .ref z0, .ref z1, .str "program", .ref pp] = xs at hall hz3
          have e8Z : Ex H8 HZ := e8t.trans eZ
          refine ⟨z3, rfl, ⟨_, SqL.of hz3⟩, ?_⟩
          refine for_list (K := K) (a := z3) (xs := xs) (fun _ σ' H' => (∃ o6 o7 o8 o9, σ' = [some (.ref l), some (.int (j : Nat)), some (.ref g), some (.ref pp), some (.ref L), some (.ref p), o6, o7, o8, o9, none]) ∧ Ex HZ H') ⟨⟨_, _, _, _, rfl⟩, Ex.refl _⟩ (fun i σ' H' _ p => SqL.of (p.2 _ _ hz3)) ?_ ?_
          · rintro i x σ' H' hi ⟨⟨o6, o7, o8, o9, rfl⟩, eH⟩
            have hpZ := hp8.mono (e8Z.trans eH)
            obtain ⟨dx, c1, c2, c3, j0, j1, j2, j3⟩ := hpZ
            have hpZ := hp8.mono (e8Z.trans eH)
            rcases (hall x (List.mem_of_getElem? hi)).mono eH with ⟨p2, q2, rfl, h2, n2, sf⟩ | ⟨d, hd⟩
            · have h2' := h2
              obtain ⟨dy, g1, g2, g3, q0, q1, q2', q3⟩ := h2'
              refine ⟨_, rfl, _, rfl, p, dx, _, .ref C, rfl, j0, .base (.ins q0 T.cl I.ha I.hn I.ht I.hm), nfC, eq_kP hpZ nq h2 n2 ⟨_, rfl, ?_⟩⟩
              rw [sf]
              refine ⟨_, rfl, iteF ?_⟩
              refine ⟨_, rfl, _, rfl, .inl ⟨p2, dy, _, .ref C, rfl, q0, .base (.ins j0 T.cl I.ha I.hn I.ht I.hm), nfC, eq_kP h2 n2 hpZ nq ⟨_, rfl, ?_⟩⟩⟩
              rw [same_sym sf]
              refine ⟨_, rfl, iteF ?_⟩
              refine ⟨_, rfl, _, rfl, p, dx, _, .ref C, rfl, j0, .base (.ins q0 T.cl I.ha I.hn I.ht I.hm), nfC, eq_kP hpZ nq h2 n2 ⟨_, rfl, ?_⟩⟩
              rw [sf]
              exact ⟨_, rfl, iteF ⟨⟨_, _, _, _, rfl⟩, eH⟩⟩
            · refine ⟨_, rfl, _, rfl, p, dx, _, _, rfl, j0, dq_tyx hd, nfT _ (tyN_mem d), eq_kD hpZ nq hd ⟨_, rfl, ?_⟩⟩
              refine ⟨_, rfl, iteF ?_⟩
              refine ⟨_, rfl, _, rfl, .inr ⟨p, dx, _, d, rfl, j0, hd, eq_kD hpZ nq hd ⟨_, rfl, ?_⟩⟩⟩
              refine ⟨_, rfl, iteF ?_⟩
              refine ⟨_, rfl, _, rfl, p, dx, _, _, rfl, j0, dq_tyx hd, nfT _ (tyN_mem d), eq_kD hpZ nq hd ⟨_, rfl, ?_⟩⟩
              exact ⟨_, rfl, iteF ⟨⟨_, _, _, _, rfl⟩, eH⟩⟩
          · rintro σ' H' ⟨⟨o6, o7, o8, o9, rfl⟩, eH⟩
            refine ⟨_, rfl, rf_k (eG8.trans (e8Z.trans eH)) yG hq ok nq fun H2 e2 => ?_⟩
            refine ⟨_, rfl, iteF ?_⟩
            exact ⟨⟨_, _, _, _, _, _, _, _, _, rfl⟩, e0.trans (e03.trans ((e3B.trans eB8).trans ((e8Z.trans eH).trans e2)))⟩
    · rintro σ' H0 ⟨o1, o2, o3, o4, o5, o6, o7, o8, o9, rfl⟩ e0
      refine kr_k fun H2 e2 => ⟨true, rfl, ?_⟩
      exact kr_k fun H3 e3 => fin H3
end
end Lx

set_option Elab.async false
set_option maxRecDepth 100000
set_option linter.all false
set_option maxHeartbeats 4000000
namespace Lx
open PySem PySem.Spec PyProof.Rows L2 Evl Kx
def sInit (i : Nat) : Stmt := inClass (top i) 0
def exB (K : PySem.W.Frag) (C : Addr) : Bool :=
  decide (PySem.W.findIn K (.ref C) "__getattribute__" = some (some (.builtin "BaseException.__getattribute__"))) && decide (PySem.W.findIn K (.ref C) "__getattr__" = some none) &&
    decide (PySem.W.subIn K (.ref C) (.type "BaseException") = some true) && PySem.W.hasDictIn K C && decide (PySem.W.findIn K (.ref C) "__class__" = some (some (.builtin "object.__class__"))) &&
    decide (PySem.W.specialIn K (.builtin "object.__class__") "__get__" = some (some (.builtin "getset_descriptor.__get__"))) && decide (PySem.W.takesIn K (.builtin "object.__class__") = some true) &&
    decide (PySem.W.mroIn K C (.type "object") = some true) && decide (PySem.W.findIn K (.ref C) "__setattr__" = some (some (.builtin "object.__setattr__"))) && decide (PySem.W.typeIn K (.ref C) = some (.type "type")) && PySem.W.keepIn K (.ref C)
def tys : List String := ["NoneType", "bool", "int", "str", "list", "tuple", "dict"]
def pgB (K : PySem.W.Frag) (C fI fE : Addr) (ms : List Addr) : Bool :=
  PySem.W.plainGet K C Str.empty && PySem.W.hasDictIn K C && PySem.W.plainOver K C && decide (PySem.W.findIn K (.ref C) "__setattr__" = some (some (.builtin "object.__setattr__"))) &&
    decide (PySem.W.findIn K (.ref C) "_rights" = some none) && decide (PySem.W.findIn K (.ref C) "_owners" = some none) && decide (PySem.W.findIn K (.ref C) "_functions" = some none) &&
    PySem.W.makesIn K C && PySem.W.isFn K (.ref fI) && PySem.W.keepIn K (.ref C) &&
    decide (PySem.W.findIn K (.ref C) "__class__" = some (some (.builtin "object.__class__"))) && decide (PySem.W.specialIn K (.builtin "object.__class__") "__get__" = some (some (.builtin "getset_descriptor.__get__"))) && decide (PySem.W.takesIn K (.builtin "object.__class__") = some true) && decide (PySem.W.mroIn K C (.type "object") = some true) &&
    (tys.all fun T => decide (PySem.W.kitOne K (.type T) (.ref C) = some false)) && (tys.all fun T => decide (PySem.W.subIn K (.ref C) (.type T) = some false)) && (tys.all fun T => PySem.W.notFirst K C (.type T)) && PySem.W.notFirst K C (.ref C) &&
    PySem.W.isFn K (.ref fE) && decide (PySem.W.findIn K (.ref C) "__ne__" = some (some (.builtin "object.__ne__"))) && decide (PySem.W.subIn K (.ref C) (.type "object") = some true) &&
    (ms.all fun m => PySem.W.isFn K (.ref m))
def chkAll (K : PySem.W.Frag) (C fI fE : Addr) (ms : List Addr) (R : Addr) (Cs fs : List Addr) : Bool :=
  pgB K C fI fE ms && (Cs.all fun C => exB K C) && (fs.all fun g => decide (PySem.W.typeIn K (.ref g) = some (.type "function")) && PySem.W.keepIn K (.ref g)) && (Cs.all fun C => decide (PySem.W.findIn K (.ref C) "value" = some none)) &&
    (Cs.all fun C => decide (PySem.W.exmOne K (.ref C) (.ref R) = some true)) && (Cs.all fun C => decide (PySem.W.exmOne K (.ref C) (.ref C) = some true)) &&
    ((List.range 2).all fun i => (List.range 2).all fun j => decide (PySem.W.kitOne K (.ref (Cs.getD i 0)) (.ref (Cs.getD j 0)) = some (decide (i = j))))
theorem exB_ok {K : PySem.W.Frag} {C : Addr} (h : exB K C = true) : ExcC K C ∧ PySem.W.findIn K (.ref C) "__setattr__" = some (some (.builtin "object.__setattr__")) ∧ PySem.W.typeIn K (.ref C) = some (.type "type") ∧ PySem.W.keepIn K (.ref C) = true := by
  unfold exB at h
  simp only [Bool.and_eq_true, decide_eq_true_eq] at h
  obtain ⟨⟨⟨⟨⟨⟨⟨⟨⟨⟨h1, h2⟩, h3⟩, h4⟩, h5⟩, h6⟩, h7⟩, h8⟩, h9⟩, h10⟩, h11⟩ := h
  exact ⟨⟨h1, h2, h3, h4, h5, h6, h7, h8⟩, h9, h10, h11⟩
section
variable {P : Program} {w : World} {K : PySem.W.Frag} {mg : Str → Option Value}
theorem xcls_mk {h : Heap} {x f qual : Str} {C R fI N T : Addr} {st : Stmt} {nm q : Str} {bs : List Value} {sn : List Str} {sub : List Value} {ab : Bool} {col : Option Bool} {dd : Option Addr} {m0 m1 m2 m3 m5 : Option Value}
    {o : Obj} {n : Nat} {od an : Option Addr} {sl : Array (Option Value)} {oc kV dc pm cd ct : Value} {p1 p2 p3 p4 : Pos} (X : K.In h) (G : h.Ns mainGlobals mg)
    (aC : PySem.W.nsIn K mainGlobals x = some (some (.ref C))) (xL : K.lookup C = some (excClassObj nm q C N bs [.ref R, .type "ValueError", .type "Exception", .type "BaseException", .type "object"] true sn sub ab col dd m0 m1 m2 m3 m5 "ValueError.__new__"))
    (a : PySem.W.findIn K (.ref C) "__init__" = some (some (.ref fI))) (l : K.lookup fI = some ⟨oc, od, .func (PySem.W.fnOf "__init__" qual (defArgs st) (defBody st) (defScope st) (.ref T) kV dc pm an cd ct), sl⟩)
    (c : PySem.W.codeIn K cd qual = true) (tl : K.lookup T = some o) (to : o.data = .seq (#[Value.none]) n) (e : exB K C = true) (t : PySem.W.typeIn K (.ref fI) = some (.type "function")) (kp : PySem.W.keepIn K (.ref fI) = true)
    (no : PySem.W.findIn K (.ref C) f = some none) (S : FnScope ["self", f] ["self", f] (defScope st)) (hb : defBody st = [.Assign [.Attribute (.Name "self" p1) f p2] (.Name f p3) p4])
    (v0 : Vis (defScope st) "self") (v1 : Vis (defScope st) f) (n1 : (f == ("__debug__" : Str)) = false) (n2 : (f == ("__classdict__" : Str)) = false)
    (hs : ∀ env : Env, swapsWith (.Name f p3) (some (.Attribute (.Name "self" p1) f p2)) p4.line env = pure false)
    (B2 : ∀ (kV doc pm : Value) (an : Option Addr) (cdv ct : Value) (us its : List Value), us.length = 2 → its.length = 1 → ∃ k, bindArgs (PySem.W.fnOf "__init__" qual (defArgs st) (defBody st) (defScope st) (.ref T) kV doc pm an cdv ct) ⟨us, []⟩ = seqItems? (.ref T) >>= k ∧ k (some its.toArray) = pure ((["self", f] : List Str).zip (us ++ its.drop 1)))
    (B1 : ∀ (kV doc pm : Value) (an : Option Addr) (cdv ct : Value) (us its : List Value), us.length = 1 → its.length = 1 → ∃ k, bindArgs (PySem.W.fnOf "__init__" qual (defArgs st) (defBody st) (defScope st) (.ref T) kV doc pm an cdv ct) ⟨us, []⟩ = seqItems? (.ref T) >>= k ∧ k (some its.toArray) = pure ((["self", f] : List Str).zip (us ++ its.drop 0)))
    (BK : ∀ (kV doc pm : Value) (an : Option Addr) (cdv ct : Value) (us its ws : List Value), us.length = 1 → its.length = 1 → ws.length = 1 → ∃ k, bindArgs (PySem.W.fnOf "__init__" qual (defArgs st) (defBody st) (defScope st) (.ref T) kV doc pm an cdv ct) ⟨us, ([f] : List Str).zip ws⟩ = seqItems? (.ref T) >>= k ∧ k (some its.toArray) = pure ((["self", f] : List Str).zip (us ++ ws))) :
    XCls P w K mg x f C fI (PySem.W.fnOf "__init__" qual (defArgs st) (defBody st) (defScope st) (.ref T) kV dc pm an cd ct) := by
  obtain ⟨e1, e2, e3, e4⟩ := exB_ok e
  have O : OexC K C := ⟨⟨nm, q, N, bs, _, sn, sub, ab, col, dd, m0, m1, m2, m3, m5, xL, by rfl⟩, e2, e1.hs, e3, e4⟩
  have lk : ∀ (us : List Value) (kw : List (Str × Value)) (binds : List (Str × Value)), (∃ k, bindArgs (PySem.W.fnOf "__init__" qual (defArgs st) (defBody st) (defScope st) (.ref T) kV dc pm an cd ct) ⟨us, kw⟩ = seqItems? (.ref T) >>= k ∧ k (some #[Value.none]) = pure binds) →
      ∀ s : Shared, K.In s.heap → BindsTo s (PySem.W.fnOf "__init__" qual (defArgs st) (defBody st) (defScope st) (.ref T) kV dc pm an cd ct) ⟨us, kw⟩ binds := fun us kw binds ⟨k, q1, q2⟩ s hs => BindsTo.of_looks fun M => by
    rw [q1]
    exact looks_items hs tl to (.of_pure q2)
  refine ⟨PySem.W.mg_of X G aC, O, e1, no, a, t, fun s us hs hl => ?_, ⟨[Value.none], .cons rfl .nil, fun s us hs hl => ?_⟩, fun s self ws hs hl => ?_, fun base => ?_⟩
  · rw [List.append_nil] at hl ⊢
    have q := B2 kV dc pm an cd ct us [Value.none] hl rfl
    rw [show us ++ List.drop 1 [Value.none] = us from List.append_nil us] at q
    exact lk us [] _ q s hs
  · have hl' : us.length = 1 := by
      rw [List.length_append] at hl
      have h2 : us.length + 1 = 2 := hl
      omega
    exact lk us [] _ (B1 kV dc pm an cd ct us [Value.none] hl' rfl) s hs
  · exact lk [self] _ _ (BK kV dc pm an cd ct [self] [Value.none] ws rfl rfl hl) s hs
  · exact ok_XI (p1 := p1) (p2 := p2) (p3 := p3) (p4 := p4) ⟨⟨oc, od, _, kV, dc, pm, an, cd, ct, sl, rfl, l, c, .inr ⟨by simp, T, o, [Value.none], n, rfl, tl, to, .cons rfl .nil⟩, .inl rfl⟩, kp⟩ S hb O no v0 v1 n1 n2 hs
end

section
variable {P : Program} {w : World} {K : PySem.W.Frag} {mg : Str → Option Value} {base : Heap}
theorem ok_bod0 {f : Addr} {fd : FuncData} (F : Fun K "_law_body_drawn" "_law_body_drawn" sBod f fd) : FnOk P w K mg base CX0 2 f fd ["generator", "rights", "names", "deep", "marked", "most"] spNo :=
  F.ok scBod (fun vs H Q E h => h.elim) (fun cdv A outer s H vs Q E hr h => h.elim)
theorem ok_drawn {fR fS fB : Addr} {fdR fdS fdB : FuncData} (FS : Fun K "_law_step_drawn" "_law_step_drawn" sStp fS fdS) (FB : Fun K "_law_body_drawn" "_law_body_drawn" sBod fB fdB)
    (FR : FnOk P w K mg base CX0 2 fR fdR ["generator", "bound"] spRnd) (mR : mg "_law_random" = some (.ref fR)) (kR : PySem.W.keepIn K (.ref fR) = true) (bR : Binds K fdR ["generator", "bound"] [])
    (mB : mg "_law_body_drawn" = some (.ref fB)) (kB' : PySem.W.keepIn K (.ref fB) = true) (bB : Binds K fdB ["generator", "rights", "names", "deep", "marked", "most"] [])
    (mS : mg "_law_step_drawn" = some (.ref fS)) (kS' : PySem.W.keepIn K (.ref fS) = true) (bS : Binds K fdS ["generator", "rights", "names", "deep", "marked"] []) (mL : mg "len" = none) (mG : mg "range" = none) :
    ∀ d : Nat, FnOk P w K mg base CX0 (2 * d + 4) fB fdB ["generator", "rights", "names", "deep", "marked", "most"] (spBod K d)
  | 0 => ok_bod FB FR mR kR bR (ok_stp FS FR mR kR bR (ok_bod0 FB) mB kB' bB mL mG) mS kS' bS mG
  | d + 1 => ok_bod FB FR mR kR bR (ok_stp FS FR mR kR bR (ok_drawn FS FB FR mR kR bR mB kB' bB mS kS' bS mL mG d) mB kB' bB mL mG) mS kS' bS mG
end
theorem all_mk {P : Program} {w : World} {K : PySem.W.Frag} {h : Heap} {mg : Str → Option Value} {fa : Addr} (X : K.In h) (G : h.Ns mainGlobals mg) (hfa : mg "law" = some (.ref fa))
    {C R : Addr}
    {nm0 q0 : Str} {N0 C0 : Addr} {bs0 : List Value} {sn0 : List Str} {sub0 : List Value} {ab0 : Bool} {col0 : Option Bool} {dd0 : Option Addr} {m00 m10 m20 m30 m50 : Option Value}
    {f0 T0 : Addr} {o0 : Obj} {n0 : Nat} {od0 an0 : Option Addr} {sl0 : Array (Option Value)} {oc0 kV0 dc0 pm0 cd0 ct0 : Value}
    {nm1 q1 : Str} {N1 C1 : Addr} {bs1 : List Value} {sn1 : List Str} {sub1 : List Value} {ab1 : Bool} {col1 : Option Bool} {dd1 : Option Addr} {m01 m11 m21 m31 m51 : Option Value}
    {f1 T1 : Addr} {o1 : Obj} {n1 : Nat} {od1 an1 : Option Addr} {sl1 : Array (Option Value)} {oc1 kV1 dc1 pm1 cd1 ct1 : Value}
    {h0 : Addr} {hod0 han0 : Option Addr} {hsl0 : Array (Option Value)} {hoc0 hkV0 hdc0 hpm0 hcd0 hct0 : Value}
    {h1 : Addr} {hod1 han1 : Option Addr} {hsl1 : Array (Option Value)} {hoc1 hkV1 hdc1 hpm1 hcd1 hct1 : Value}
    {h2 : Addr} {hod2 han2 : Option Addr} {hsl2 : Array (Option Value)} {hoc2 hkV2 hdc2 hpm2 hcd2 hct2 : Value}
    {h3 : Addr} {hod3 han3 : Option Addr} {hsl3 : Array (Option Value)} {hoc3 hkV3 hdc3 hpm3 hcd3 hct3 : Value}
    {h4 : Addr} {hod4 han4 : Option Addr} {hsl4 : Array (Option Value)} {hoc4 hkV4 hdc4 hpm4 hcd4 hct4 : Value}
    {bF bT : Addr} {bo : Obj} {bn : Nat} {bod ban : Option Addr} {bsl : Array (Option Value)} {boc bkV bdc bpm bcd bct : Value}
    {g0 : Addr} {god0 gan0 : Option Addr} {gsl0 : Array (Option Value)} {goc0 gkV0 gdc0 gpm0 gcd0 gct0 : Value}
    {g1 : Addr} {god1 gan1 : Option Addr} {gsl1 : Array (Option Value)} {goc1 gkV1 gdc1 gpm1 gcd1 gct1 : Value}
    {g2 : Addr} {god2 gan2 : Option Addr} {gsl2 : Array (Option Value)} {goc2 gkV2 gdc2 gpm2 gcd2 gct2 : Value}
    {g3 : Addr} {god3 gan3 : Option Addr} {gsl3 : Array (Option Value)} {goc3 gkV3 gdc3 gpm3 gcd3 gct3 : Value}
    {g4 : Addr} {god4 gan4 : Option Addr} {gsl4 : Array (Option Value)} {goc4 gkV4 gdc4 gpm4 gcd4 gct4 : Value}
    {g5 : Addr} {god5 gan5 : Option Addr} {gsl5 : Array (Option Value)} {goc5 gkV5 gdc5 gpm5 gcd5 gct5 : Value}
    {g6 : Addr} {god6 gan6 : Option Addr} {gsl6 : Array (Option Value)} {goc6 gkV6 gdc6 gpm6 gcd6 gct6 : Value}
    {g7 : Addr} {god7 gan7 : Option Addr} {gsl7 : Array (Option Value)} {goc7 gkV7 gdc7 gpm7 gcd7 gct7 : Value}
    {g8 : Addr} {god8 gan8 : Option Addr} {gsl8 : Array (Option Value)} {goc8 gkV8 gdc8 gpm8 gcd8 gct8 : Value}
    {g9 : Addr} {god9 gan9 : Option Addr} {gsl9 : Array (Option Value)} {goc9 gkV9 gdc9 gpm9 gcd9 gct9 : Value}
    {g10 : Addr} {god10 gan10 : Option Addr} {gsl10 : Array (Option Value)} {goc10 gkV10 gdc10 gpm10 gcd10 gct10 : Value}
    {g11 : Addr} {god11 gan11 : Option Addr} {gsl11 : Array (Option Value)} {goc11 gkV11 gdc11 gpm11 gcd11 gct11 : Value}
    {g12 : Addr} {god12 gan12 : Option Addr} {gsl12 : Array (Option Value)} {goc12 gkV12 gdc12 gpm12 gcd12 gct12 : Value}
    {g13 : Addr} {god13 gan13 : Option Addr} {gsl13 : Array (Option Value)} {goc13 gkV13 gdc13 gpm13 gcd13 gct13 : Value}
    {g14 : Addr} {god14 gan14 : Option Addr} {gsl14 : Array (Option Value)} {goc14 gkV14 gdc14 gpm14 gcd14 gct14 : Value}
    {g15 : Addr} {god15 gan15 : Option Addr} {gsl15 : Array (Option Value)} {goc15 gkV15 gdc15 gpm15 gcd15 gct15 : Value}
    {g16 : Addr} {god16 gan16 : Option Addr} {gsl16 : Array (Option Value)} {goc16 gkV16 gdc16 gpm16 gcd16 gct16 : Value}
    {g17 : Addr} {god17 gan17 : Option Addr} {gsl17 : Array (Option Value)} {goc17 gkV17 gdc17 gpm17 gcd17 gct17 : Value}
    {g18 : Addr} {god18 gan18 : Option Addr} {gsl18 : Array (Option Value)} {goc18 gkV18 gdc18 gpm18 gcd18 gct18 : Value}
    {g19 : Addr} {god19 gan19 : Option Addr} {gsl19 : Array (Option Value)} {goc19 gkV19 gdc19 gpm19 gcd19 gct19 : Value}
    {g20 : Addr} {god20 gan20 : Option Addr} {gsl20 : Array (Option Value)} {goc20 gkV20 gdc20 gpm20 gcd20 gct20 : Value}
    {g21 : Addr} {god21 gan21 : Option Addr} {gsl21 : Array (Option Value)} {goc21 gkV21 gdc21 gpm21 gcd21 gct21 : Value}
    {g22 : Addr} {god22 gan22 : Option Addr} {gsl22 : Array (Option Value)} {goc22 gkV22 gdc22 gpm22 gcd22 gct22 : Value}
    {g23 : Addr} {god23 gan23 : Option Addr} {gsl23 : Array (Option Value)} {goc23 gkV23 gdc23 gpm23 gcd23 gct23 : Value}
    {g24 : Addr} {god24 gan24 : Option Addr} {gsl24 : Array (Option Value)} {goc24 gkV24 gdc24 gpm24 gcd24 gct24 : Value}
    {g25 : Addr} {god25 gan25 : Option Addr} {gsl25 : Array (Option Value)} {goc25 gkV25 gdc25 gpm25 gcd25 gct25 : Value}
    {g26 : Addr} {god26 gan26 : Option Addr} {gsl26 : Array (Option Value)} {goc26 gkV26 gdc26 gpm26 gcd26 gct26 : Value}
    {g27 : Addr} {god27 gan27 : Option Addr} {gsl27 : Array (Option Value)} {goc27 gkV27 gdc27 gpm27 gcd27 gct27 : Value}
    {g28 : Addr} {god28 gan28 : Option Addr} {gsl28 : Array (Option Value)} {goc28 gkV28 gdc28 gpm28 gcd28 gct28 : Value}
    {g29 : Addr} {god29 gan29 : Option Addr} {gsl29 : Array (Option Value)} {goc29 gkV29 gdc29 gpm29 gcd29 gct29 : Value}
    {g30 : Addr} {god30 gan30 : Option Addr} {gsl30 : Array (Option Value)} {goc30 gkV30 gdc30 gpm30 gcd30 gct30 : Value}
    {g31 : Addr} {god31 gan31 : Option Addr} {gsl31 : Array (Option Value)} {goc31 gkV31 gdc31 gpm31 gcd31 gct31 : Value}
    {g32 : Addr} {god32 gan32 : Option Addr} {gsl32 : Array (Option Value)} {goc32 gkV32 gdc32 gpm32 gcd32 gct32 : Value}
    {g33 : Addr} {god33 gan33 : Option Addr} {gsl33 : Array (Option Value)} {goc33 gkV33 gdc33 gpm33 gcd33 gct33 : Value}
    {g34 : Addr} {god34 gan34 : Option Addr} {gsl34 : Array (Option Value)} {goc34 gkV34 gdc34 gpm34 gcd34 gct34 : Value}
    {g35 : Addr} {god35 gan35 : Option Addr} {gsl35 : Array (Option Value)} {goc35 gkV35 gdc35 gpm35 gcd35 gct35 : Value}
    {g36 : Addr} {god36 gan36 : Option Addr} {gsl36 : Array (Option Value)} {goc36 gkV36 gdc36 gpm36 gcd36 gct36 : Value}
    {g37 : Addr} {god37 gan37 : Option Addr} {gsl37 : Array (Option Value)} {goc37 gkV37 gdc37 gpm37 gcd37 gct37 : Value}
    {tkL tkN tkR tkO tkF : Tok}
    (aC : PySem.W.nsIn K mainGlobals "Program" = some (some (.ref C)))
    (aR : PySem.W.nsIn K mainGlobals "RightsError" = some (some (.ref R)))
    (aC0 : PySem.W.nsIn K mainGlobals "InvalidList" = some (some (.ref C0)))
    (xL0 : K.lookup C0 = some (excClassObj nm0 q0 C0 N0 bs0 [.ref R, .type "ValueError", .type "Exception", .type "BaseException", .type "object"] true sn0 sub0 ab0 col0 dd0 m00 m10 m20 m30 m50 "ValueError.__new__"))
    (a0 : PySem.W.findIn K (.ref C0) "__init__" = some (some (.ref f0)))
    (l0 : K.lookup f0 = some ⟨oc0, od0, .func (PySem.W.fnOf "__init__" "InvalidList.__init__" (defArgs (sInit 13)) (defBody (sInit 13)) (defScope (sInit 13)) (.ref T0) kV0 dc0 pm0 an0 cd0 ct0), sl0⟩)
    (c0 : PySem.W.codeIn K cd0 "InvalidList.__init__" = true)
    (tl0 : K.lookup T0 = some o0)
    (to0 : o0.data = .seq (#[Value.none]) n0)
    (aC1 : PySem.W.nsIn K mainGlobals "InvalidItem" = some (some (.ref C1)))
    (xL1 : K.lookup C1 = some (excClassObj nm1 q1 C1 N1 bs1 [.ref R, .type "ValueError", .type "Exception", .type "BaseException", .type "object"] true sn1 sub1 ab1 col1 dd1 m01 m11 m21 m31 m51 "ValueError.__new__"))
    (a1 : PySem.W.findIn K (.ref C1) "__init__" = some (some (.ref f1)))
    (l1 : K.lookup f1 = some ⟨oc1, od1, .func (PySem.W.fnOf "__init__" "InvalidItem.__init__" (defArgs (sInit 14)) (defBody (sInit 14)) (defScope (sInit 14)) (.ref T1) kV1 dc1 pm1 an1 cd1 ct1), sl1⟩)
    (c1 : PySem.W.codeIn K cd1 "InvalidItem.__init__" = true)
    (tl1 : K.lookup T1 = some o1)
    (to1 : o1.data = .seq (#[Value.none]) n1)
    (ha0 : PySem.W.findIn K (.ref C) "__init__" = some (some (.ref h0)))
    (hl0 : K.lookup h0 = some ⟨hoc0, hod0, .func (PySem.W.fnOf "__init__" "Program.__init__" (defArgs sIni) (defBody sIni) (defScope sIni) .none hkV0 hdc0 hpm0 han0 hcd0 hct0), hsl0⟩)
    (hc0 : PySem.W.codeIn K hcd0 "Program.__init__" = true)
    (hk0 : PySem.W.keepIn K (.ref h0) = true)
    (ha1 : PySem.W.findIn K (.ref C) "rights" = some (some (.ref h1)))
    (hl1 : K.lookup h1 = some ⟨hoc1, hod1, .func (PySem.W.fnOf "rights" "Program.rights" (defArgs sRi) (defBody sRi) (defScope sRi) .none hkV1 hdc1 hpm1 han1 hcd1 hct1), hsl1⟩)
    (hc1 : PySem.W.codeIn K hcd1 "Program.rights" = true)
    (hk1 : PySem.W.keepIn K (.ref h1) = true)
    (ha2 : PySem.W.findIn K (.ref C) "owners" = some (some (.ref h2)))
    (hl2 : K.lookup h2 = some ⟨hoc2, hod2, .func (PySem.W.fnOf "owners" "Program.owners" (defArgs sOs) (defBody sOs) (defScope sOs) .none hkV2 hdc2 hpm2 han2 hcd2 hct2), hsl2⟩)
    (hc2 : PySem.W.codeIn K hcd2 "Program.owners" = true)
    (hk2 : PySem.W.keepIn K (.ref h2) = true)
    (ha3 : PySem.W.findIn K (.ref C) "functions" = some (some (.ref h3)))
    (hl3 : K.lookup h3 = some ⟨hoc3, hod3, .func (PySem.W.fnOf "functions" "Program.functions" (defArgs sFs) (defBody sFs) (defScope sFs) .none hkV3 hdc3 hpm3 han3 hcd3 hct3), hsl3⟩)
    (hc3 : PySem.W.codeIn K hcd3 "Program.functions" = true)
    (hk3 : PySem.W.keepIn K (.ref h3) = true)
    (ha4 : PySem.W.findIn K (.ref C) "__eq__" = some (some (.ref h4)))
    (hl4 : K.lookup h4 = some ⟨hoc4, hod4, .func (PySem.W.fnOf "__eq__" "Program.__eq__" (defArgs sEq) (defBody sEq) (defScope sEq) .none hkV4 hdc4 hpm4 han4 hcd4 hct4), hsl4⟩)
    (hc4 : PySem.W.codeIn K hcd4 "Program.__eq__" = true)
    (hk4 : PySem.W.keepIn K (.ref h4) = true)
    (ba : PySem.W.nsIn K mainGlobals "is_body" = some (some (.ref bF)))
    (bl : K.lookup bF = some ⟨boc, bod, .func (PySem.W.fnOf "is_body" "is_body" (defArgs sBd) (defBody sBd) (defScope sBd) (.ref bT) bkV bdc bpm ban bcd bct), bsl⟩)
    (bc : PySem.W.codeIn K bcd "is_body" = true)
    (bk : PySem.W.keepIn K (.ref bF) = true)
    (btl : K.lookup bT = some bo)
    (bto : bo.data = .seq (#[Value.bool false]) bn)
    (chk : chkAll K C h0 h4 [h1, h2, h3] R [C0, C1] [f0, f1] = true)
    (ga0 : PySem.W.nsIn K mainGlobals "is_name" = some (some (.ref g0)))
    (gl0 : K.lookup g0 = some ⟨goc0, god0, .func (PySem.W.fnOf "is_name" "is_name" (defArgs sNm) (defBody sNm) (defScope sNm) .none gkV0 gdc0 gpm0 gan0 gcd0 gct0), gsl0⟩)
    (gc0 : PySem.W.codeIn K gcd0 "is_name" = true)
    (gk0 : PySem.W.keepIn K (.ref g0) = true)
    (ga1 : PySem.W.nsIn K mainGlobals "is_tuple_of" = some (some (.ref g1)))
    (gl1 : K.lookup g1 = some ⟨goc1, god1, .func (PySem.W.fnOf "is_tuple_of" "is_tuple_of" (defArgs sTp) (defBody sTp) (defScope sTp) .none gkV1 gdc1 gpm1 gan1 gcd1 gct1), gsl1⟩)
    (gc1 : PySem.W.codeIn K gcd1 "is_tuple_of" = true)
    (gk1 : PySem.W.keepIn K (.ref g1) = true)
    (ga2 : PySem.W.nsIn K mainGlobals "is_step" = some (some (.ref g2)))
    (gl2 : K.lookup g2 = some ⟨goc2, god2, .func (PySem.W.fnOf "is_step" "is_step" (defArgs sSt) (defBody sSt) (defScope sSt) .none gkV2 gdc2 gpm2 gan2 gcd2 gct2), gsl2⟩)
    (gc2 : PySem.W.codeIn K gcd2 "is_step" = true)
    (gk2 : PySem.W.keepIn K (.ref g2) = true)
    (ga3 : PySem.W.nsIn K mainGlobals "is_nest" = some (some (.ref g3)))
    (gl3 : K.lookup g3 = some ⟨goc3, god3, .func (PySem.W.fnOf "is_nest" "is_nest" (defArgs sNs) (defBody sNs) (defScope sNs) .none gkV3 gdc3 gpm3 gan3 gcd3 gct3), gsl3⟩)
    (gc3 : PySem.W.codeIn K gcd3 "is_nest" = true)
    (gk3 : PySem.W.keepIn K (.ref g3) = true)
    (ga4 : PySem.W.nsIn K mainGlobals "copy_body" = some (some (.ref g4)))
    (gl4 : K.lookup g4 = some ⟨goc4, god4, .func (PySem.W.fnOf "copy_body" "copy_body" (defArgs sCb) (defBody sCb) (defScope sCb) .none gkV4 gdc4 gpm4 gan4 gcd4 gct4), gsl4⟩)
    (gc4 : PySem.W.codeIn K gcd4 "copy_body" = true)
    (gk4 : PySem.W.keepIn K (.ref g4) = true)
    (ga5 : PySem.W.nsIn K mainGlobals "copy_step" = some (some (.ref g5)))
    (gl5 : K.lookup g5 = some ⟨goc5, god5, .func (PySem.W.fnOf "copy_step" "copy_step" (defArgs sCs) (defBody sCs) (defScope sCs) .none gkV5 gdc5 gpm5 gan5 gcd5 gct5), gsl5⟩)
    (gc5 : PySem.W.codeIn K gcd5 "copy_step" = true)
    (gk5 : PySem.W.keepIn K (.ref g5) = true)
    (ga6 : PySem.W.nsIn K mainGlobals "with_inner" = some (some (.ref g6)))
    (gl6 : K.lookup g6 = some ⟨goc6, god6, .func (PySem.W.fnOf "with_inner" "with_inner" (defArgs sWi) (defBody sWi) (defScope sWi) .none gkV6 gdc6 gpm6 gan6 gcd6 gct6), gsl6⟩)
    (gc6 : PySem.W.codeIn K gcd6 "with_inner" = true)
    (gk6 : PySem.W.keepIn K (.ref g6) = true)
    (ga7 : PySem.W.nsIn K mainGlobals "check_size" = some (some (.ref g7)))
    (gl7 : K.lookup g7 = some ⟨goc7, god7, .func (PySem.W.fnOf "check_size" "check_size" (defArgs sSz) (defBody sSz) (defScope sSz) .none gkV7 gdc7 gpm7 gan7 gcd7 gct7), gsl7⟩)
    (gc7 : PySem.W.codeIn K gcd7 "check_size" = true)
    (gk7 : PySem.W.keepIn K (.ref g7) = true)
    (ga8 : PySem.W.nsIn K mainGlobals "check_rights" = some (some (.ref g8)))
    (gl8 : K.lookup g8 = some ⟨goc8, god8, .func (PySem.W.fnOf "check_rights" "check_rights" (defArgs sCkR) (defBody sCkR) (defScope sCkR) .none gkV8 gdc8 gpm8 gan8 gcd8 gct8), gsl8⟩)
    (gc8 : PySem.W.codeIn K gcd8 "check_rights" = true)
    (gk8 : PySem.W.keepIn K (.ref g8) = true)
    (ga9 : PySem.W.nsIn K mainGlobals "check_owners" = some (some (.ref g9)))
    (gl9 : K.lookup g9 = some ⟨goc9, god9, .func (PySem.W.fnOf "check_owners" "check_owners" (defArgs sCkO) (defBody sCkO) (defScope sCkO) .none gkV9 gdc9 gpm9 gan9 gcd9 gct9), gsl9⟩)
    (gc9 : PySem.W.codeIn K gcd9 "check_owners" = true)
    (gk9 : PySem.W.keepIn K (.ref g9) = true)
    (ga10 : PySem.W.nsIn K mainGlobals "check_functions" = some (some (.ref g10)))
    (gl10 : K.lookup g10 = some ⟨goc10, god10, .func (PySem.W.fnOf "check_functions" "check_functions" (defArgs sCkF) (defBody sCkF) (defScope sCkF) .none gkV10 gdc10 gpm10 gan10 gcd10 gct10), gsl10⟩)
    (gc10 : PySem.W.codeIn K gcd10 "check_functions" = true)
    (gk10 : PySem.W.keepIn K (.ref g10) = true)
    (ga11 : PySem.W.nsIn K mainGlobals "is_owner" = some (some (.ref g11)))
    (gl11 : K.lookup g11 = some ⟨goc11, god11, .func (PySem.W.fnOf "is_owner" "is_owner" (defArgs sOwn) (defBody sOwn) (defScope sOwn) .none gkV11 gdc11 gpm11 gan11 gcd11 gct11), gsl11⟩)
    (gc11 : PySem.W.codeIn K gcd11 "is_owner" = true)
    (gk11 : PySem.W.keepIn K (.ref g11) = true)
    (ga12 : PySem.W.nsIn K mainGlobals "is_choice" = some (some (.ref g12)))
    (gl12 : K.lookup g12 = some ⟨goc12, god12, .func (PySem.W.fnOf "is_choice" "is_choice" (defArgs sCho) (defBody sCho) (defScope sCho) .none gkV12 gdc12 gpm12 gan12 gcd12 gct12), gsl12⟩)
    (gc12 : PySem.W.codeIn K gcd12 "is_choice" = true)
    (gk12 : PySem.W.keepIn K (.ref g12) = true)
    (ga13 : PySem.W.nsIn K mainGlobals "is_function" = some (some (.ref g13)))
    (gl13 : K.lookup g13 = some ⟨goc13, god13, .func (PySem.W.fnOf "is_function" "is_function" (defArgs sFun) (defBody sFun) (defScope sFun) .none gkV13 gdc13 gpm13 gan13 gcd13 gct13), gsl13⟩)
    (gc13 : PySem.W.codeIn K gcd13 "is_function" = true)
    (gk13 : PySem.W.keepIn K (.ref g13) = true)
    (ga14 : PySem.W.nsIn K mainGlobals "copy_owners" = some (some (.ref g14)))
    (gl14 : K.lookup g14 = some ⟨goc14, god14, .func (PySem.W.fnOf "copy_owners" "copy_owners" (defArgs sCpO) (defBody sCpO) (defScope sCpO) .none gkV14 gdc14 gpm14 gan14 gcd14 gct14), gsl14⟩)
    (gc14 : PySem.W.codeIn K gcd14 "copy_owners" = true)
    (gk14 : PySem.W.keepIn K (.ref g14) = true)
    (ga15 : PySem.W.nsIn K mainGlobals "copy_functions" = some (some (.ref g15)))
    (gl15 : K.lookup g15 = some ⟨goc15, god15, .func (PySem.W.fnOf "copy_functions" "copy_functions" (defArgs sCpF) (defBody sCpF) (defScope sCpF) .none gkV15 gdc15 gpm15 gan15 gcd15 gct15), gsl15⟩)
    (gc15 : PySem.W.codeIn K gcd15 "copy_functions" = true)
    (gk15 : PySem.W.keepIn K (.ref g15) = true)
    (ga16 : PySem.W.nsIn K mainGlobals "_law_cell" = some (some (.ref g16)))
    (gl16 : K.lookup g16 = some ⟨goc16, god16, .func (PySem.W.fnOf "_law_cell" "_law_cell" (defArgs sCell) (defBody sCell) (defScope sCell) .none gkV16 gdc16 gpm16 gan16 gcd16 gct16), gsl16⟩)
    (gc16 : PySem.W.codeIn K gcd16 "_law_cell" = true)
    (gk16 : PySem.W.keepIn K (.ref g16) = true)
    (ga17 : PySem.W.nsIn K mainGlobals "_law_hash" = some (some (.ref g17)))
    (gl17 : K.lookup g17 = some ⟨goc17, god17, .func (PySem.W.fnOf "_law_hash" "_law_hash" (defArgs sHash) (defBody sHash) (defScope sHash) .none gkV17 gdc17 gpm17 gan17 gcd17 gct17), gsl17⟩)
    (gc17 : PySem.W.codeIn K gcd17 "_law_hash" = true)
    (gk17 : PySem.W.keepIn K (.ref g17) = true)
    (ga18 : PySem.W.nsIn K mainGlobals "_law_generator" = some (some (.ref g18)))
    (gl18 : K.lookup g18 = some ⟨goc18, god18, .func (PySem.W.fnOf "_law_generator" "_law_generator" (defArgs sGen) (defBody sGen) (defScope sGen) .none gkV18 gdc18 gpm18 gan18 gcd18 gct18), gsl18⟩)
    (gc18 : PySem.W.codeIn K gcd18 "_law_generator" = true)
    (gk18 : PySem.W.keepIn K (.ref g18) = true)
    (ga19 : PySem.W.nsIn K mainGlobals "_law_random" = some (some (.ref g19)))
    (gl19 : K.lookup g19 = some ⟨goc19, god19, .func (PySem.W.fnOf "_law_random" "_law_random" (defArgs sRnd) (defBody sRnd) (defScope sRnd) .none gkV19 gdc19 gpm19 gan19 gcd19 gct19), gsl19⟩)
    (gc19 : PySem.W.codeIn K gcd19 "_law_random" = true)
    (gk19 : PySem.W.keepIn K (.ref g19) = true)
    (ga20 : PySem.W.nsIn K mainGlobals "_law_rights_drawn" = some (some (.ref g20)))
    (gl20 : K.lookup g20 = some ⟨goc20, god20, .func (PySem.W.fnOf "_law_rights_drawn" "_law_rights_drawn" (defArgs sRts) (defBody sRts) (defScope sRts) .none gkV20 gdc20 gpm20 gan20 gcd20 gct20), gsl20⟩)
    (gc20 : PySem.W.codeIn K gcd20 "_law_rights_drawn" = true)
    (gk20 : PySem.W.keepIn K (.ref g20) = true)
    (ga21 : PySem.W.nsIn K mainGlobals "_law_owners_drawn" = some (some (.ref g21)))
    (gl21 : K.lookup g21 = some ⟨goc21, god21, .func (PySem.W.fnOf "_law_owners_drawn" "_law_owners_drawn" (defArgs sOws) (defBody sOws) (defScope sOws) .none gkV21 gdc21 gpm21 gan21 gcd21 gct21), gsl21⟩)
    (gc21 : PySem.W.codeIn K gcd21 "_law_owners_drawn" = true)
    (gk21 : PySem.W.keepIn K (.ref g21) = true)
    (ga22 : PySem.W.nsIn K mainGlobals "_law_step_drawn" = some (some (.ref g22)))
    (gl22 : K.lookup g22 = some ⟨goc22, god22, .func (PySem.W.fnOf "_law_step_drawn" "_law_step_drawn" (defArgs sStp) (defBody sStp) (defScope sStp) .none gkV22 gdc22 gpm22 gan22 gcd22 gct22), gsl22⟩)
    (gc22 : PySem.W.codeIn K gcd22 "_law_step_drawn" = true)
    (gk22 : PySem.W.keepIn K (.ref g22) = true)
    (ga23 : PySem.W.nsIn K mainGlobals "_law_body_drawn" = some (some (.ref g23)))
    (gl23 : K.lookup g23 = some ⟨goc23, god23, .func (PySem.W.fnOf "_law_body_drawn" "_law_body_drawn" (defArgs sBod) (defBody sBod) (defScope sBod) .none gkV23 gdc23 gpm23 gan23 gcd23 gct23), gsl23⟩)
    (gc23 : PySem.W.codeIn K gcd23 "_law_body_drawn" = true)
    (gk23 : PySem.W.keepIn K (.ref g23) = true)
    (ga24 : PySem.W.nsIn K mainGlobals "_law_copied" = some (some (.ref g24)))
    (gl24 : K.lookup g24 = some ⟨goc24, god24, .func (PySem.W.fnOf "_law_copied" "_law_copied" (defArgs sCop) (defBody sCop) (defScope sCop) .none gkV24 gdc24 gpm24 gan24 gcd24 gct24), gsl24⟩)
    (gc24 : PySem.W.codeIn K gcd24 "_law_copied" = true)
    (gk24 : PySem.W.keepIn K (.ref g24) = true)
    (ga25 : PySem.W.nsIn K mainGlobals "_law_program" = some (some (.ref g25)))
    (gl25 : K.lookup g25 = some ⟨goc25, god25, .func (PySem.W.fnOf "_law_program" "_law_program" (defArgs sPgm) (defBody sPgm) (defScope sPgm) .none gkV25 gdc25 gpm25 gan25 gcd25 gct25), gsl25⟩)
    (gc25 : PySem.W.codeIn K gcd25 "_law_program" = true)
    (gk25 : PySem.W.keepIn K (.ref g25) = true)
    (ga26 : PySem.W.nsIn K mainGlobals "_law_count" = some (some (.ref g26)))
    (gl26 : K.lookup g26 = some ⟨goc26, god26, .func (PySem.W.fnOf "_law_count" "_law_count" (defArgs sCnt) (defBody sCnt) (defScope sCnt) .none gkV26 gdc26 gpm26 gan26 gcd26 gct26), gsl26⟩)
    (gc26 : PySem.W.codeIn K gcd26 "_law_count" = true)
    (gk26 : PySem.W.keepIn K (.ref g26) = true)
    (ga27 : PySem.W.nsIn K mainGlobals "_law_parts" = some (some (.ref g27)))
    (gl27 : K.lookup g27 = some ⟨goc27, god27, .func (PySem.W.fnOf "_law_parts" "_law_parts" (defArgs sPrt) (defBody sPrt) (defScope sPrt) .none gkV27 gdc27 gpm27 gan27 gcd27 gct27), gsl27⟩)
    (gc27 : PySem.W.codeIn K gcd27 "_law_parts" = true)
    (gk27 : PySem.W.keepIn K (.ref g27) = true)
    (ga28 : PySem.W.nsIn K mainGlobals "_law_spoilt" = some (some (.ref g28)))
    (gl28 : K.lookup g28 = some ⟨goc28, god28, .func (PySem.W.fnOf "_law_spoilt" "_law_spoilt" (defArgs sSpo) (defBody sSpo) (defScope sSpo) .none gkV28 gdc28 gpm28 gan28 gcd28 gct28), gsl28⟩)
    (gc28 : PySem.W.codeIn K gcd28 "_law_spoilt" = true)
    (gk28 : PySem.W.keepIn K (.ref g28) = true)
    (ga29 : PySem.W.nsIn K mainGlobals "_law_lists" = some (some (.ref g29)))
    (gl29 : K.lookup g29 = some ⟨goc29, god29, .func (PySem.W.fnOf "_law_lists" "_law_lists" (defArgs sLst) (defBody sLst) (defScope sLst) .none gkV29 gdc29 gpm29 gan29 gcd29 gct29), gsl29⟩)
    (gc29 : PySem.W.codeIn K gcd29 "_law_lists" = true)
    (gk29 : PySem.W.keepIn K (.ref g29) = true)
    (ga30 : PySem.W.nsIn K mainGlobals "_law_others" = some (some (.ref g30)))
    (gl30 : K.lookup g30 = some ⟨goc30, god30, .func (PySem.W.fnOf "_law_others" "_law_others" (defArgs sOt) (defBody sOt) (defScope sOt) .none gkV30 gdc30 gpm30 gan30 gcd30 gct30), gsl30⟩)
    (gc30 : PySem.W.codeIn K gcd30 "_law_others" = true)
    (gk30 : PySem.W.keepIn K (.ref g30) = true)
    (ga31 : PySem.W.nsIn K mainGlobals "_law_caught" = some (some (.ref g31)))
    (gl31 : K.lookup g31 = some ⟨goc31, god31, .func (PySem.W.fnOf "_law_caught" "_law_caught" (defArgs sCa) (defBody sCa) (defScope sCa) .none gkV31 gdc31 gpm31 gan31 gcd31 gct31), gsl31⟩)
    (gc31 : PySem.W.codeIn K gcd31 "_law_caught" = true)
    (gk31 : PySem.W.keepIn K (.ref g31) = true)
    (ga32 : PySem.W.nsIn K mainGlobals "_law_bad_steps" = some (some (.ref g32)))
    (gl32 : K.lookup g32 = some ⟨goc32, god32, .func (PySem.W.fnOf "_law_bad_steps" "_law_bad_steps" (defArgs sBs) (defBody sBs) (defScope sBs) .none gkV32 gdc32 gpm32 gan32 gcd32 gct32), gsl32⟩)
    (gc32 : PySem.W.codeIn K gcd32 "_law_bad_steps" = true)
    (gk32 : PySem.W.keepIn K (.ref g32) = true)
    (ga33 : PySem.W.nsIn K mainGlobals "_law_refused" = some (some (.ref g33)))
    (gl33 : K.lookup g33 = some ⟨goc33, god33, .func (PySem.W.fnOf "_law_refused" "_law_refused" (defArgs sRf) (defBody sRf) (defScope sRf) .none gkV33 gdc33 gpm33 gan33 gcd33 gct33), gsl33⟩)
    (gc33 : PySem.W.codeIn K gcd33 "_law_refused" = true)
    (gk33 : PySem.W.keepIn K (.ref g33) = true)
    (ga34 : PySem.W.nsIn K mainGlobals "_law_functions_refused" = some (some (.ref g34)))
    (gl34 : K.lookup g34 = some ⟨goc34, god34, .func (PySem.W.fnOf "_law_functions_refused" "_law_functions_refused" (defArgs sFr) (defBody sFr) (defScope sFr) .none gkV34 gdc34 gpm34 gan34 gcd34 gct34), gsl34⟩)
    (gc34 : PySem.W.codeIn K gcd34 "_law_functions_refused" = true)
    (gk34 : PySem.W.keepIn K (.ref g34) = true)
    (ga35 : PySem.W.nsIn K mainGlobals "_law_very_things" = some (some (.ref g35)))
    (gl35 : K.lookup g35 = some ⟨goc35, god35, .func (PySem.W.fnOf "_law_very_things" "_law_very_things" (defArgs sVt) (defBody sVt) (defScope sVt) .none gkV35 gdc35 gpm35 gan35 gcd35 gct35), gsl35⟩)
    (gc35 : PySem.W.codeIn K gcd35 "_law_very_things" = true)
    (gk35 : PySem.W.keepIn K (.ref g35) = true)
    (ga36 : PySem.W.nsIn K mainGlobals "_law_known_right" = some (some (.ref g36)))
    (gl36 : K.lookup g36 = some ⟨goc36, god36, .func (PySem.W.fnOf "_law_known_right" "_law_known_right" (defArgs sKr) (defBody sKr) (defScope sKr) .none gkV36 gdc36 gpm36 gan36 gcd36 gct36), gsl36⟩)
    (gc36 : PySem.W.codeIn K gcd36 "_law_known_right" = true)
    (gk36 : PySem.W.keepIn K (.ref g36) = true)
    (ga37 : PySem.W.nsIn K mainGlobals "law" = some (some (.ref g37)))
    (gl37 : K.lookup g37 = some ⟨goc37, god37, .func (PySem.W.fnOf "law" "law" (defArgs sLaw) (defBody sLaw) (defScope sLaw) .none gkV37 gdc37 gpm37 gan37 gcd37 gct37), gsl37⟩)
    (gc37 : PySem.W.codeIn K gcd37 "law" = true)
    (gk37 : PySem.W.keepIn K (.ref g37) = true)
    (mLET : PySem.W.nsIn K mainGlobals "LETTERS" = some (some (.str letters tkL)))
    (mLONGEST_NAME : PySem.W.nsIn K mainGlobals "LONGEST_NAME" = some (some (.int 8 tkN)))
    (mMOST_RIGHTS : PySem.W.nsIn K mainGlobals "MOST_RIGHTS" = some (some (.int 5 tkR)))
    (mMOST_OWNERS : PySem.W.nsIn K mainGlobals "MOST_OWNERS" = some (some (.int 5 tkO)))
    (mMOST_FUNCTIONS : PySem.W.nsIn K mainGlobals "MOST_FUNCTIONS" = some (some (.int 6 tkF)))
    (zlen : PySem.W.nsIn K mainGlobals "len" = some none)
    (zint : PySem.W.nsIn K mainGlobals "int" = some none)
    (zmax : PySem.W.nsIn K mainGlobals "max" = some none)
    (zrange : PySem.W.nsIn K mainGlobals "range" = some none)
    (zisinstance : PySem.W.nsIn K mainGlobals "isinstance" = some none)
    (zrepr : PySem.W.nsIn K mainGlobals "repr" = some none)
    (zlist : PySem.W.nsIn K mainGlobals "list" = some none)
    (ztuple : PySem.W.nsIn K mainGlobals "tuple" = some none)
    (zsum : PySem.W.nsIn K mainGlobals "sum" = some none)
    (zstr : PySem.W.nsIn K mainGlobals "str" = some none)
    (zall : PySem.W.nsIn K mainGlobals "all" = some none)
    (zbool : PySem.W.nsIn K mainGlobals "bool" = some none) :
    ∃ fd : FuncData, (∀ (s : Shared) (v : Value), BindsTo s fd ⟨[v], []⟩ [("script", v)]) ∧ ∀ base : Heap, K.In base → base.Ns mainGlobals mg → GnOk P w K mg base CX0 48 fa fd ["script"] (spLaw K) := by
  have e := hfa.symm.trans (PySem.W.mg_of X G ga37)
  cases e
  unfold chkAll at chk
  simp only [Bool.and_eq_true] at chk
  obtain ⟨⟨⟨⟨⟨⟨p0, h1'⟩, h2'⟩, h3'⟩, h4'⟩, h5'⟩, h6'⟩ := chk
  unfold pgB at p0
  simp only [Bool.and_eq_true, decide_eq_true_eq] at p0
  obtain ⟨⟨⟨⟨⟨⟨⟨⟨⟨⟨⟨⟨⟨⟨⟨⟨⟨⟨⟨⟨⟨p1, p2⟩, p3⟩, p4⟩, p5⟩, p6⟩, p7⟩, p8⟩, p9⟩, p10⟩, p11⟩, p12⟩, p13⟩, p14⟩, p15⟩, p16⟩, p17⟩, p18⟩, p19⟩, p20⟩, p21⟩, p22⟩ := p0
  simp only [List.all_cons, List.all_nil, Bool.and_eq_true, decide_eq_true_eq, Bool.and_true] at h1' h2' h3' h4' h5' p22
  obtain ⟨x0, x1⟩ := h1'
  obtain ⟨⟨y0, z0⟩, ⟨y1, z1⟩⟩ := h2'
  have kit : ∀ i j : Nat, i < 2 → j < 2 → PySem.W.kitOne K (.ref (([C0, C1] : List Addr).getD i 0)) (.ref (([C0, C1] : List Addr).getD j 0)) = some (decide (i = j)) := fun i j hi hj => of_decide_eq_true (List.all_eq_true.mp (List.all_eq_true.mp h6' i (List.mem_range.mpr hi)) j (List.mem_range.mpr hj))
  have X0 := xcls_mk (P := P) (w := w) (st := sInit 13) (x := "InvalidList") (f := "value") X G aC0 xL0 a0 l0 c0 tl0 to0 x0 y0 z0 h3'.1 ⟨rfl, rfl, rfl, by decide +kernel, rfl, by decide +kernel, by decide +kernel⟩ rfl
    (.inl rfl) (.inl rfl) (by decide) (by decide) (fun _ => rfl) (fun _ _ _ _ _ _ us its h1 h2 => match us, its, h1, h2 with | [_, _], [_], _, _ => ⟨_, rfl, rfl⟩) (fun _ _ _ _ _ _ us its h1 h2 => match us, its, h1, h2 with | [_], [_], _, _ => ⟨_, rfl, rfl⟩)
    (fun _ _ _ _ _ _ us its ws h1 h2 h3 => match us, its, ws, h1, h2, h3 with | [_], [_], [_], _, _, _ => ⟨_, rfl, rfl⟩)
  have X1 := xcls_mk (P := P) (w := w) (st := sInit 14) (x := "InvalidItem") (f := "value") X G aC1 xL1 a1 l1 c1 tl1 to1 x1 y1 z1 h3'.2 ⟨rfl, rfl, rfl, by decide +kernel, rfl, by decide +kernel, by decide +kernel⟩ rfl
    (.inl rfl) (.inl rfl) (by decide) (by decide) (fun _ => rfl) (fun _ _ _ _ _ _ us its h1 h2 => match us, its, h1, h2 with | [_, _], [_], _, _ => ⟨_, rfl, rfl⟩) (fun _ _ _ _ _ _ us its h1 h2 => match us, its, h1, h2 with | [_], [_], _, _ => ⟨_, rfl, rfl⟩)
    (fun _ _ _ _ _ _ us its ws h1 h2 h3 => match us, its, ws, h1, h2, h3 with | [_], [_], [_], _, _, _ => ⟨_, rfl, rfl⟩)
  have H0 := fun_mk (st := sIni) hl0 hc0 hk0
  have hb0 := H0.binds (ps := ["self", "rights", "owners", "functions"]) fun _ _ _ _ _ _ us hl => match us, hl with | [_, _, _, _], _ => rfl
  have H1 := fun_mk (st := sRi) hl1 hc1 hk1
  have hb1 := H1.binds (ps := ["self"]) fun _ _ _ _ _ _ us hl => match us, hl with | [_], _ => rfl
  have H2 := fun_mk (st := sOs) hl2 hc2 hk2
  have hb2 := H2.binds (ps := ["self"]) fun _ _ _ _ _ _ us hl => match us, hl with | [_], _ => rfl
  have H3 := fun_mk (st := sFs) hl3 hc3 hk3
  have hb3 := H3.binds (ps := ["self"]) fun _ _ _ _ _ _ us hl => match us, hl with | [_], _ => rfl
  have H4 := fun_mk (st := sEq) hl4 hc4 hk4
  have hb4 := H4.binds (ps := ["self", "other"]) fun _ _ _ _ _ _ us hl => match us, hl with | [_, _], _ => rfl
  have G0 := fun_mk (st := sNm) gl0 gc0 gk0
  have b0 := G0.binds (ps := ["value"]) fun _ _ _ _ _ _ us hl => match us, hl with | [_], _ => rfl
  have m0 := PySem.W.mg_of X G ga0
  have G1 := fun_mk (st := sTp) gl1 gc1 gk1
  have b1 := G1.binds (ps := ["value", "size"]) fun _ _ _ _ _ _ us hl => match us, hl with | [_, _], _ => rfl
  have m1 := PySem.W.mg_of X G ga1
  have G2 := fun_mk (st := sSt) gl2 gc2 gk2
  have b2 := G2.binds (ps := ["value", "names", "rights", "marked"]) fun _ _ _ _ _ _ us hl => match us, hl with | [_, _, _, _], _ => rfl
  have m2 := PySem.W.mg_of X G ga2
  have G3 := fun_mk (st := sNs) gl3 gc3 gk3
  have b3 := G3.binds (ps := ["value", "names", "rights", "marked"]) fun _ _ _ _ _ _ us hl => match us, hl with | [_, _, _, _], _ => rfl
  have m3 := PySem.W.mg_of X G ga3
  have G4 := fun_mk (st := sCb) gl4 gc4 gk4
  have b4 := G4.binds (ps := ["body"]) fun _ _ _ _ _ _ us hl => match us, hl with | [_], _ => rfl
  have m4 := PySem.W.mg_of X G ga4
  have G5 := fun_mk (st := sCs) gl5 gc5 gk5
  have b5 := G5.binds (ps := ["step"]) fun _ _ _ _ _ _ us hl => match us, hl with | [_], _ => rfl
  have m5 := PySem.W.mg_of X G ga5
  have G6 := fun_mk (st := sWi) gl6 gc6 gk6
  have b6 := G6.binds (ps := ["step", "change"]) fun _ _ _ _ _ _ us hl => match us, hl with | [_, _], _ => rfl
  have m6 := PySem.W.mg_of X G ga6
  have G7 := fun_mk (st := sSz) gl7 gc7 gk7
  have b7 := G7.binds (ps := ["value", "most"]) fun _ _ _ _ _ _ us hl => match us, hl with | [_, _], _ => rfl
  have m7 := PySem.W.mg_of X G ga7
  have G8 := fun_mk (st := sCkR) gl8 gc8 gk8
  have b8 := G8.binds (ps := ["rights"]) fun _ _ _ _ _ _ us hl => match us, hl with | [_], _ => rfl
  have m8 := PySem.W.mg_of X G ga8
  have G9 := fun_mk (st := sCkO) gl9 gc9 gk9
  have b9 := G9.binds (ps := ["owners", "rights"]) fun _ _ _ _ _ _ us hl => match us, hl with | [_, _], _ => rfl
  have m9 := PySem.W.mg_of X G ga9
  have G10 := fun_mk (st := sCkF) gl10 gc10 gk10
  have b10 := G10.binds (ps := ["functions", "owners", "rights"]) fun _ _ _ _ _ _ us hl => match us, hl with | [_, _, _], _ => rfl
  have m10 := PySem.W.mg_of X G ga10
  have G11 := fun_mk (st := sOwn) gl11 gc11 gk11
  have b11 := G11.binds (ps := ["value", "rights"]) fun _ _ _ _ _ _ us hl => match us, hl with | [_, _], _ => rfl
  have m11 := PySem.W.mg_of X G ga11
  have G12 := fun_mk (st := sCho) gl12 gc12 gk12
  have b12 := G12.binds (ps := ["value", "rights"]) fun _ _ _ _ _ _ us hl => match us, hl with | [_, _], _ => rfl
  have m12 := PySem.W.mg_of X G ga12
  have G13 := fun_mk (st := sFun) gl13 gc13 gk13
  have b13 := G13.binds (ps := ["value", "owner_names", "names", "rights"]) fun _ _ _ _ _ _ us hl => match us, hl with | [_, _, _, _], _ => rfl
  have m13 := PySem.W.mg_of X G ga13
  have G14 := fun_mk (st := sCpO) gl14 gc14 gk14
  have b14 := G14.binds (ps := ["owners"]) fun _ _ _ _ _ _ us hl => match us, hl with | [_], _ => rfl
  have m14 := PySem.W.mg_of X G ga14
  have G15 := fun_mk (st := sCpF) gl15 gc15 gk15
  have b15 := G15.binds (ps := ["functions"]) fun _ _ _ _ _ _ us hl => match us, hl with | [_], _ => rfl
  have m15 := PySem.W.mg_of X G ga15
  have G16 := fun_mk (st := sCell) gl16 gc16 gk16
  have b16 := G16.binds (ps := ["script", "index"]) fun _ _ _ _ _ _ us hl => match us, hl with | [_, _], _ => rfl
  have m16 := PySem.W.mg_of X G ga16
  have G17 := fun_mk (st := sHash) gl17 gc17 gk17
  have b17 := G17.binds (ps := ["seed", "index"]) fun _ _ _ _ _ _ us hl => match us, hl with | [_, _], _ => rfl
  have m17 := PySem.W.mg_of X G ga17
  have G18 := fun_mk (st := sGen) gl18 gc18 gk18
  have b18 := G18.binds (ps := ["script", "index"]) fun _ _ _ _ _ _ us hl => match us, hl with | [_, _], _ => rfl
  have m18 := PySem.W.mg_of X G ga18
  have G19 := fun_mk (st := sRnd) gl19 gc19 gk19
  have b19 := G19.binds (ps := ["generator", "bound"]) fun _ _ _ _ _ _ us hl => match us, hl with | [_, _], _ => rfl
  have m19 := PySem.W.mg_of X G ga19
  have G20 := fun_mk (st := sRts) gl20 gc20 gk20
  have b20 := G20.binds (ps := ["generator"]) fun _ _ _ _ _ _ us hl => match us, hl with | [_], _ => rfl
  have m20 := PySem.W.mg_of X G ga20
  have G21 := fun_mk (st := sOws) gl21 gc21 gk21
  have b21 := G21.binds (ps := ["generator", "rights"]) fun _ _ _ _ _ _ us hl => match us, hl with | [_, _], _ => rfl
  have m21 := PySem.W.mg_of X G ga21
  have G22 := fun_mk (st := sStp) gl22 gc22 gk22
  have b22 := G22.binds (ps := ["generator", "rights", "names", "deep", "marked"]) fun _ _ _ _ _ _ us hl => match us, hl with | [_, _, _, _, _], _ => rfl
  have m22 := PySem.W.mg_of X G ga22
  have G23 := fun_mk (st := sBod) gl23 gc23 gk23
  have b23 := G23.binds (ps := ["generator", "rights", "names", "deep", "marked", "most"]) fun _ _ _ _ _ _ us hl => match us, hl with | [_, _, _, _, _, _], _ => rfl
  have m23 := PySem.W.mg_of X G ga23
  have G24 := fun_mk (st := sCop) gl24 gc24 gk24
  have b24 := G24.binds (ps := ["body"]) fun _ _ _ _ _ _ us hl => match us, hl with | [_], _ => rfl
  have m24 := PySem.W.mg_of X G ga24
  have G25 := fun_mk (st := sPgm) gl25 gc25 gk25
  have b25 := G25.binds (ps := ["parts"]) fun _ _ _ _ _ _ us hl => match us, hl with | [_], _ => rfl
  have m25 := PySem.W.mg_of X G ga25
  have G26 := fun_mk (st := sCnt) gl26 gc26 gk26
  have b26 := G26.binds (ps := ["body"]) fun _ _ _ _ _ _ us hl => match us, hl with | [_], _ => rfl
  have m26 := PySem.W.mg_of X G ga26
  have G27 := fun_mk (st := sPrt) gl27 gc27 gk27
  have b27 := G27.binds (ps := ["generator", "many", "most"]) fun _ _ _ _ _ _ us hl => match us, hl with | [_, _, _], _ => rfl
  have m27 := PySem.W.mg_of X G ga27
  have G28 := fun_mk (st := sSpo) gl28 gc28 gk28
  have b28 := G28.binds (ps := ["body"]) fun _ _ _ _ _ _ us hl => match us, hl with | [_], _ => rfl
  have m28 := PySem.W.mg_of X G ga28
  have G29 := fun_mk (st := sLst) gl29 gc29 gk29
  have b29 := G29.binds (ps := ["parts"]) fun _ _ _ _ _ _ us hl => match us, hl with | [_], _ => rfl
  have m29 := PySem.W.mg_of X G ga29
  have G30 := fun_mk (st := sOt) gl30 gc30 gk30
  have b30 := G30.binds (ps := ["parts"]) fun _ _ _ _ _ _ us hl => match us, hl with | [_], _ => rfl
  have m30 := PySem.W.mg_of X G ga30
  have G31 := fun_mk (st := sCa) gl31 gc31 gk31
  have b31 := G31.binds (ps := ["rights", "owners", "functions"]) fun _ _ _ _ _ _ us hl => match us, hl with | [_, _, _], _ => rfl
  have m31 := PySem.W.mg_of X G ga31
  have G32 := fun_mk (st := sBs) gl32 gc32 gk32
  have b32 := G32.binds (ps := ([] : List Str)) fun _ _ _ _ _ _ us hl => match us, hl with | [], _ => rfl
  have m32 := PySem.W.mg_of X G ga32
  have G33 := fun_mk (st := sRf) gl33 gc33 gk33
  have b33 := G33.binds (ps := ["parts"]) fun _ _ _ _ _ _ us hl => match us, hl with | [_], _ => rfl
  have m33 := PySem.W.mg_of X G ga33
  have G34 := fun_mk (st := sFr) gl34 gc34 gk34
  have b34 := G34.binds (ps := ([] : List Str)) fun _ _ _ _ _ _ us hl => match us, hl with | [], _ => rfl
  have m34 := PySem.W.mg_of X G ga34
  have G35 := fun_mk (st := sVt) gl35 gc35 gk35
  have b35 := G35.binds (ps := ([] : List Str)) fun _ _ _ _ _ _ us hl => match us, hl with | [], _ => rfl
  have m35 := PySem.W.mg_of X G ga35
  have G36 := fun_mk (st := sKr) gl36 gc36 gk36
  have b36 := G36.binds (ps := ([] : List Str)) fun _ _ _ _ _ _ us hl => match us, hl with | [], _ => rfl
  have m36 := PySem.W.mg_of X G ga36
  have G37 := fun_mk (st := sLaw) gl37 gc37 gk37
  have b37 := G37.binds (ps := ["script"]) fun _ _ _ _ _ _ us hl => match us, hl with | [_], _ => rfl
  have m37 := PySem.W.mg_of X G ga37
  have BF : FunB K bF (PySem.W.fnOf "is_body" "is_body" (defArgs sBd) (defBody sBd) (defScope sBd) (.ref bT) bkV bdc bpm ban bcd bct) := ⟨⟨boc, bod, .ref bT, bkV, bdc, bpm, ban, bcd, bct, bsl, rfl, bl, bc, .inr ⟨(by simp), bT, bo, [Value.bool false], bn, rfl, btl, bto, .cons rfl .nil⟩, .inl rfl⟩, bk⟩
  have bB4 : Binds K (PySem.W.fnOf "is_body" "is_body" (defArgs sBd) (defBody sBd) (defScope sBd) (.ref bT) bkV bdc bpm ban bcd bct) ["value", "names", "rights", "marked"] [] := by
    obtain ⟨ds, v, b⟩ := FunD.binds1 (ps := ["value", "names", "rights", "marked"]) BF 4 1 (by simp) rfl fun _ _ _ _ _ _ _ us its h1 h2 => match us, its, h1, h2 with | [_, _, _, _], [_], _, _ => ⟨_, rfl, rfl⟩
    cases v
    exact b
  have bB3 : Binds K (PySem.W.fnOf "is_body" "is_body" (defArgs sBd) (defBody sBd) (defScope sBd) (.ref bT) bkV bdc bpm ban bcd bct) ["value", "names", "rights", "marked"] [.bool false] := by
    obtain ⟨ds, v, b⟩ := FunD.binds1 (ps := ["value", "names", "rights", "marked"]) BF 3 0 (by simp) rfl fun _ _ _ _ _ _ _ us its h1 h2 => match us, its, h1, h2 with | [_, _, _], [_], _, _ => ⟨_, rfl, rfl⟩
    cases v with
    | cons r rr =>
    cases rr
    cases (show _ = Value.bool false from r)
    exact b
  have mBd := PySem.W.mg_of X G ba
  have n_len := PySem.W.mg_none_of X G zlen
  have n_int := PySem.W.mg_none_of X G zint
  have n_max := PySem.W.mg_none_of X G zmax
  have n_range := PySem.W.mg_none_of X G zrange
  have n_isinstance := PySem.W.mg_none_of X G zisinstance
  have n_repr := PySem.W.mg_none_of X G zrepr
  have n_list := PySem.W.mg_none_of X G zlist
  have n_tuple := PySem.W.mg_none_of X G ztuple
  have n_sum := PySem.W.mg_none_of X G zsum
  have n_str := PySem.W.mg_none_of X G zstr
  have n_all := PySem.W.mg_none_of X G zall
  have n_bool := PySem.W.mg_none_of X G zbool
  have T : PTxt K mg C := ⟨⟨p1, p2, p3, p4⟩, p5, p6, p7, PySem.W.mg_of X G aC⟩
  have I : PIsi K C := ⟨p11, p12, p13, p14, fun T hT => of_decide_eq_true (List.all_eq_true.mp p15 T hT)⟩
  have M0 : Mk K C h0 := ⟨p8, ha0, p9, p10⟩
  have O : OwnE K C h4 := ⟨ha4, p19, p20, p21⟩
  have N : NoSub K C := fun T hT => of_decide_eq_true (List.all_eq_true.mp p16 T hT)
  have mA : Meth K C "rights" h1 := ⟨ha1, p22.1, hk1⟩
  have mB : Meth K C "owners" h2 := ⟨ha2, p22.2.1, hk2⟩
  have mC : Meth K C "functions" h3 := ⟨ha3, p22.2.2, hk3⟩
  have TE : ETxt P w K mg R C0 C1 f0 f1 _ _ := ⟨PySem.W.mg_of X G aR, X0, X1, h4'.1, h4'.2, kit 0 0 (by decide) (by decide), kit 0 1 (by decide) (by decide), kit 1 0 (by decide) (by decide), kit 1 1 (by decide) (by decide)⟩
  refine ⟨PySem.W.fnOf "law" "law" (defArgs sLaw) (defBody sLaw) (defScope sLaw) .none gkV37 gdc37 gpm37 gan37 gcd37 gct37, fun s v => .of_eq rfl, fun base _ _ => ?_⟩
  have kCell := ok_cell (P := P) (w := w) (mg := mg) (base := base) G16 n_len
  have kHash := ok_hash (P := P) (w := w) (mg := mg) (base := base) G17 n_int
  have kGen := ok_gen G18 n_int n_max kCell m16 gk16 b16
  have kRnd := ok_rnd G19 n_int n_range kHash m17 gk17 b17
  have kRts := ok_rts G20 kRnd m19 gk19 b19
  have kOws := ok_ows G21 kRnd m19 gk19 b19
  have kBod := ok_drawn G22 G23 kRnd m19 gk19 b19 m23 gk23 b23 m22 gk22 b22 n_len n_range 2
  have kCnt := ok_cnt (P := P) (w := w) (mg := mg) (base := base) G26 m26 gk26 b26 n_sum n_isinstance n_list 2
  have kCop := ok_cop (P := P) (w := w) (mg := mg) (base := base) G24 m24 gk24 b24 n_tuple n_isinstance n_list 4
  have kPrt := ok_prt G27 kRnd m19 gk19 b19 kRts m20 gk20 b20 kOws m21 gk21 b21 kBod m23 gk23 b23 kCnt m26 gk26 b26 n_len
  have kNm := ok_nm (P := P) (w := w) (mg := mg) (base := base) G0 n_len n_isinstance n_str n_all (PySem.W.mg_of X G mLET) ⟨_, rfl⟩ (PySem.W.mg_of X G mLONGEST_NAME) ⟨_, rfl⟩
  have kTp := ok_tp (P := P) (w := w) (mg := mg) (base := base) G1 n_len n_isinstance n_tuple
  have kBd := ok_bodies (P := P) (w := w) (mg := mg) (base := base) BF G2 G3 mBd bk bB4 m2 gk2 b2 m3 gk3 b3 n_len n_isinstance n_bool n_all n_tuple n_list 12
  have kCb := ok_copies (P := P) (w := w) (mg := mg) (base := base) G4 G5 G6 m5 gk5 b5 m6 gk6 b6 n_tuple n_isinstance n_list 4
  have kCho := ok_cho (P := P) (w := w) (mg := mg) (base := base) G12 n_len n_isinstance n_list n_all
  have kOwn := ok_own G11 kTp m1 gk1 b1 kNm m0 gk0 b0 kCho m12 gk12 b12
  have kFun := ok_fun (n := 12) G13 kTp m1 gk1 b1 kNm m0 gk0 b0 kBd mBd bk bB3
  have kSz := ok_sz (base := base) G7 X0 n_len n_isinstance n_list
  have kCkR := ok_ckR (fI := f0) (fdI := PySem.W.fnOf "is_body" "is_body" (defArgs sBd) (defBody sBd) (defScope sBd) (.ref bT) bkV bdc bpm ban bcd bct) G8 X1 kSz m7 gk7 b7 kNm m0 gk0 b0 (PySem.W.mg_of X G mMOST_RIGHTS) ⟨_, rfl⟩
  have kCkO := ok_ckO G9 X1 kSz m7 gk7 b7 kOwn m11 gk11 b11 (PySem.W.mg_of X G mMOST_OWNERS) ⟨_, rfl⟩
  have kCkF := ok_ckF (n := 12) G10 X1 kSz m7 gk7 b7 kFun m13 gk13 b13 kTp m1 gk1 b1 kNm m0 gk0 b0 (PySem.W.mg_of X G mMOST_FUNCTIONS) ⟨_, rfl⟩
  have kCpO := ok_cpO (P := P) (w := w) (mg := mg) (base := base) G14 n_list
  have kCpF := ok_cpF (d := 4) G15 kCb m4 gk4 b4
  have kIni := ok_init (n := 12) (d := 4) H0 T (by decide) kCkR m8 gk8 b8 kCkO m9 gk9 b9 kCkF m10 gk10 b10 kCpO m14 gk14 b14 kCpF m15 gk15 b15 n_list
  have kRi := ok_ri (P := P) (w := w) (base := base) H1 T n_list
  have kOs := ok_os H2 T kCpO m14 gk14 b14
  have kFs := ok_fs (d := 4) H3 T kCpF m15 gk15 b15
  have kEq := ok_eqP (P := P) (w := w) (base := base) H4 T I n_isinstance
  have kLst := ok_lst (d := 4) G29 kCop m24 gk24 b24 n_list
  have kPgm := ok_pgm (n := 12) (d := 4) G25 T (by decide) kCop m24 gk24 b24 M0 kIni hb0 n_list
  have kCa := ok_ca (n := 12) (d := 4) G31 T TE M0 kIni hb0 n_isinstance n_repr
  have kBs := ok_bs (P := P) (w := w) (mg := mg) (base := base) G32
  have kFr := ok_fr G34 kBs m32 gk32 b32 kCa m31 gk31 b31 n_repr
  have kRf := ok_rf (d := 4) G33 kCa m31 gk31 b31 kFr m34 gk34 b34 n_repr n_tuple n_range
  have kSpo := ok_spo (P := P) (w := w) (mg := mg) (base := base) G28 m28 gk28 b28 n_isinstance n_list 6
  have kKr := ok_kr G36 T M0 kIni hb0 kRi mA hb1 kOs mB hb2 kFs mC hb3
  have kVt := ok_vt G35 T TE h5'.1 M0 kIni hb0 n_isinstance n_list n_range
  have kOt := ok_ot (P := P) (w := w) (mg := mg) (base := base) G30 n_len n_range
  exact ok_law G37 T I O N p18 (fun T hT => List.all_eq_true.mp p17 T hT) M0 kIni hb0 kGen ⟨m18, gk18, b18⟩ kRnd ⟨m19, gk19, b19⟩ kPrt ⟨m27, gk27, b27⟩ kLst ⟨m29, gk29, b29⟩ kSpo ⟨m28, gk28, b28⟩
    kRi mA hb1 kOs mB hb2 kFs mC hb3 kEq hb4 kPgm ⟨m25, gk25, b25⟩ kOt ⟨m30, gk30, b30⟩ kRf ⟨m33, gk33, b33⟩ kVt ⟨m35, gk35, b35⟩ kKr ⟨m36, gk36, b36⟩ n_repr n_range
end Lx

set_option Elab.async false
set_option maxRecDepth 100000
set_option linter.all false
open PySem PySem.W PyProof.Rows in
set_option maxRecDepth 100000 in
set_option maxHeartbeats 0 in
theorem PySem.Challenge.cw_callersrights_k10_programs_made_holds : PySem.Challenge.rw_callersrights_k10_programs_made.Holds := by
  w_on; o_law; k_head; (case hw => w_witness2)
  k_fill
  refine Kx.walk_G (l := PySem.Challenge.rw_callersrights_k10_programs_made) (n := 63) (k := 48) (x := "script") (CX := fun _ => L2.CX0) (sp := fun w => Lx.spLaw _) rfl (by decide) rfl ⟨rfl, by decide, by decide⟩ (fun w h Y => PySem.W.kIn_of Y) ?K1 ?Q1 ?F
    (fun w H a ns hl hb hS hQ => ⟨a, ns, rfl, hQ, hS, fun _ => rfl⟩) (fun _ _ _ _ _ z => z)
  case K1 => intro w; first | rfl | kernel_rfl
  case Q1 => first | rfl | decide +kernel
  case F =>
    intro w mg fa h KX G hmg
    refine' Lx.all_mk KX G hmg ?aC ?aR ?aC0 ?xL0 ?a0 ?l0 ?c0 ?tl0 ?to0 ?aC1 ?xL1 ?a1 ?l1 ?c1 ?tl1 ?to1 ?ha0 ?hl0 ?hc0 ?hk0 ?ha1 ?hl1 ?hc1 ?hk1 ?ha2 ?hl2 ?hc2 ?hk2 ?ha3 ?hl3 ?hc3 ?hk3 ?ha4 ?hl4 ?hc4 ?hk4 ?ba ?bl ?bc ?bk ?btl ?bto ?chk ?ga0 ?gl0 ?gc0 ?gk0 ?ga1 ?gl1 ?gc1 ?gk1 ?ga2 ?gl2 ?gc2 ?gk2 ?ga3 ?gl3 ?gc3 ?gk3 ?ga4 ?gl4 ?gc4 ?gk4 ?ga5 ?gl5 ?gc5 ?gk5 ?ga6 ?gl6 ?gc6 ?gk6 ?ga7 ?gl7 ?gc7 ?gk7 ?ga8 ?gl8 ?gc8 ?gk8 ?ga9 ?gl9 ?gc9 ?gk9 ?ga10 ?gl10 ?gc10 ?gk10 ?ga11 ?gl11 ?gc11 ?gk11 ?ga12 ?gl12 ?gc12 ?gk12 ?ga13 ?gl13 ?gc13 ?gk13 ?ga14 ?gl14 ?gc14 ?gk14 ?ga15 ?gl15 ?gc15 ?gk15 ?ga16 ?gl16 ?gc16 ?gk16 ?ga17 ?gl17 ?gc17 ?gk17 ?ga18 ?gl18 ?gc18 ?gk18 ?ga19 ?gl19 ?gc19 ?gk19 ?ga20 ?gl20 ?gc20 ?gk20 ?ga21 ?gl21 ?gc21 ?gk21 ?ga22 ?gl22 ?gc22 ?gk22 ?ga23 ?gl23 ?gc23 ?gk23 ?ga24 ?gl24 ?gc24 ?gk24 ?ga25 ?gl25 ?gc25 ?gk25 ?ga26 ?gl26 ?gc26 ?gk26 ?ga27 ?gl27 ?gc27 ?gk27 ?ga28 ?gl28 ?gc28 ?gk28 ?ga29 ?gl29 ?gc29 ?gk29 ?ga30 ?gl30 ?gc30 ?gk30 ?ga31 ?gl31 ?gc31 ?gk31 ?ga32 ?gl32 ?gc32 ?gk32 ?ga33 ?gl33 ?gc33 ?gk33 ?ga34 ?gl34 ?gc34 ?gk34 ?ga35 ?gl35 ?gc35 ?gk35 ?ga36 ?gl36 ?gc36 ?gk36 ?ga37 ?gl37 ?gc37 ?gk37 ?mLET ?mLONGEST_NAME ?mMOST_RIGHTS ?mMOST_OWNERS ?mMOST_FUNCTIONS ?zlen ?zint ?zmax ?zrange ?zisinstance ?zrepr ?zlist ?ztuple ?zsum ?zstr ?zall ?zbool
    (case aC => k_is)
    (case aR => k_is)
    (case aC0 => k_is)
    (case xL0 => k_is)
    (case a0 => k_is)
    (case l0 => k_is)
    (case c0 => k_is)
    (case tl0 => k_is)
    (case to0 => rfl)
    (case aC1 => k_is)
    (case xL1 => k_is)
    (case a1 => k_is)
    (case l1 => k_is)
    (case c1 => k_is)
    (case tl1 => k_is)
    (case to1 => rfl)
    (case ha0 => k_is)
    (case hl0 => k_is)
    (case hc0 => k_is)
    (case hk0 => k_is)
    (case ha1 => k_is)
    (case hl1 => k_is)
    (case hc1 => k_is)
    (case hk1 => k_is)
    (case ha2 => k_is)
    (case hl2 => k_is)
    (case hc2 => k_is)
    (case hk2 => k_is)
    (case ha3 => k_is)
    (case hl3 => k_is)
    (case hc3 => k_is)
    (case hk3 => k_is)
    (case ha4 => k_is)
    (case hl4 => k_is)
    (case hc4 => k_is)
    (case hk4 => k_is)
    (case ba => k_is)
    (case bl => k_is)
    (case bc => k_is)
    (case bk => k_is)
    (case btl => k_is)
    (case bto => rfl)
    (case chk => kernel_rfl)
    (case ga0 => k_is)
    (case gl0 => k_is)
    (case gc0 => k_is)
    (case gk0 => k_is)
    (case ga1 => k_is)
    (case gl1 => k_is)
    (case gc1 => k_is)
    (case gk1 => k_is)
    (case ga2 => k_is)
    (case gl2 => k_is)
    (case gc2 => k_is)
    (case gk2 => k_is)
    (case ga3 => k_is)
    (case gl3 => k_is)
    (case gc3 => k_is)
    (case gk3 => k_is)
    (case ga4 => k_is)
    (case gl4 => k_is)
    (case gc4 => k_is)
    (case gk4 => k_is)
    (case ga5 => k_is)
    (case gl5 => k_is)
    (case gc5 => k_is)
    (case gk5 => k_is)
    (case ga6 => k_is)
    (case gl6 => k_is)
    (case gc6 => k_is)
    (case gk6 => k_is)
    (case ga7 => k_is)
    (case gl7 => k_is)
    (case gc7 => k_is)
    (case gk7 => k_is)
    (case ga8 => k_is)
    (case gl8 => k_is)
    (case gc8 => k_is)
    (case gk8 => k_is)
    (case ga9 => k_is)
    (case gl9 => k_is)
    (case gc9 => k_is)
    (case gk9 => k_is)
    (case ga10 => k_is)
    (case gl10 => k_is)
    (case gc10 => k_is)
    (case gk10 => k_is)
    (case ga11 => k_is)
    (case gl11 => k_is)
    (case gc11 => k_is)
    (case gk11 => k_is)
    (case ga12 => k_is)
    (case gl12 => k_is)
    (case gc12 => k_is)
    (case gk12 => k_is)
    (case ga13 => k_is)
    (case gl13 => k_is)
    (case gc13 => k_is)
    (case gk13 => k_is)
    (case ga14 => k_is)
    (case gl14 => k_is)
    (case gc14 => k_is)
    (case gk14 => k_is)
    (case ga15 => k_is)
    (case gl15 => k_is)
    (case gc15 => k_is)
    (case gk15 => k_is)
    (case ga16 => k_is)
    (case gl16 => k_is)
    (case gc16 => k_is)
    (case gk16 => k_is)
    (case ga17 => k_is)
    (case gl17 => k_is)
    (case gc17 => k_is)
    (case gk17 => k_is)
    (case ga18 => k_is)
    (case gl18 => k_is)
    (case gc18 => k_is)
    (case gk18 => k_is)
    (case ga19 => k_is)
    (case gl19 => k_is)
    (case gc19 => k_is)
    (case gk19 => k_is)
    (case ga20 => k_is)
    (case gl20 => k_is)
    (case gc20 => k_is)
    (case gk20 => k_is)
    (case ga21 => k_is)
    (case gl21 => k_is)
    (case gc21 => k_is)
    (case gk21 => k_is)
    (case ga22 => k_is)
    (case gl22 => k_is)
    (case gc22 => k_is)
    (case gk22 => k_is)
    (case ga23 => k_is)
    (case gl23 => k_is)
    (case gc23 => k_is)
    (case gk23 => k_is)
    (case ga24 => k_is)
    (case gl24 => k_is)
    (case gc24 => k_is)
    (case gk24 => k_is)
    (case ga25 => k_is)
    (case gl25 => k_is)
    (case gc25 => k_is)
    (case gk25 => k_is)
    (case ga26 => k_is)
    (case gl26 => k_is)
    (case gc26 => k_is)
    (case gk26 => k_is)
    (case ga27 => k_is)
    (case gl27 => k_is)
    (case gc27 => k_is)
    (case gk27 => k_is)
    (case ga28 => k_is)
    (case gl28 => k_is)
    (case gc28 => k_is)
    (case gk28 => k_is)
    (case ga29 => k_is)
    (case gl29 => k_is)
    (case gc29 => k_is)
    (case gk29 => k_is)
    (case ga30 => k_is)
    (case gl30 => k_is)
    (case gc30 => k_is)
    (case gk30 => k_is)
    (case ga31 => k_is)
    (case gl31 => k_is)
    (case gc31 => k_is)
    (case gk31 => k_is)
    (case ga32 => k_is)
    (case gl32 => k_is)
    (case gc32 => k_is)
    (case gk32 => k_is)
    (case ga33 => k_is)
    (case gl33 => k_is)
    (case gc33 => k_is)
    (case gk33 => k_is)
    (case ga34 => k_is)
    (case gl34 => k_is)
    (case gc34 => k_is)
    (case gk34 => k_is)
    (case ga35 => k_is)
    (case gl35 => k_is)
    (case gc35 => k_is)
    (case gk35 => k_is)
    (case ga36 => k_is)
    (case gl36 => k_is)
    (case gc36 => k_is)
    (case gk36 => k_is)
    (case ga37 => k_is)
    (case gl37 => k_is)
    (case gc37 => k_is)
    (case gk37 => k_is)
    (case mLET => k_is)
    (case mLONGEST_NAME => k_is)
    (case mMOST_RIGHTS => k_is)
    (case mMOST_OWNERS => k_is)
    (case mMOST_FUNCTIONS => k_is)
    (case zlen => k_is)
    (case zint => k_is)
    (case zmax => k_is)
    (case zrange => k_is)
    (case zisinstance => k_is)
    (case zrepr => k_is)
    (case zlist => k_is)
    (case ztuple => k_is)
    (case zsum => k_is)
    (case zstr => k_is)
    (case zall => k_is)
    (case zbool => k_is)
