import PyProof.Rows.All
import Wide.All
import OpenK.AllK
import Wide.FinOn
import HandS.ForMost
import HandS.EndBits
import HandS.ExcInit
import HandS.MakeKw
import HandS.IsInst
import KE.KExcIs
import HandS.ExcField
import HandS.ExcIs
import HandS.ExcValue
import HandS.Evl
import HandS.Wide
import HandS.WideBits
import HandS.Defaults
import HandS.HeadHook1
import HandS.HeadHook2
import HandS.Head0
import HandS.Head1
import HandS.Head2
import HandS.Head3
import HandS.Style
import PyProof.EqKinds
import HandS.ExcOwn
import HandS.WordsExc
import HandS.Conv
import HandS.Comp
import HandS.CallLocal
import HandS.OwnEq
import PyProof.InstEq
import HandS.TupAny
import HandS.Text
import PyProof.StrReplace2
import HandS.Codes
import HandS.ReplaceDef
import HandS.ReplaceLit
import HandS.ReplaceList
import HandS.Replace
import PySem.Challenge.RW_callersrights_k70_programs_written_and_r
set_option Elab.async false
set_option maxRecDepth 100000
set_option linter.all false
set_option maxHeartbeats 2000000
/-! KitA: a def's promise where no repr is under way around it (guards), and sysModules is held fast. -/
namespace Kx
open PySem PySem.Spec PyProof.Rows L2

/-- a promise that may ask that nothing is being shown around the call -/
structure GnOk (P : Program) (w : World) (K : PySem.W.Frag) (mg : Str → Option Value) (base : Heap)
    (CX : CXT) (k : Nat) (f : Addr) (fd : FuncData) (ps : List Str) (sp : Sp) : Prop where
  len : ∀ vs H Q E, sp vs H Q E → vs.length = ps.length
  run : ∀ (A : Around) (outer : List Env) (s : Shared) (H : Hp) (args : Args) (us : List Value) (vs : List V)
    (Q : VK) (E : XK), A.guards = some [] → Room k A → Env0 P w K mg base A outer s H →
    BindsTo s fd args (ps.zip us) → Vals vs us → sp vs H Q E →
    codeAny (model P w) A (.call (.ref f) args) (CR CX outer P w H s Q E) s

section
variable {P : Program} {w : World} {K : PySem.W.Frag} {mg : Str → Option Value} {base : Heap} {CX : CXT}
  {f : Addr} {fd : FuncData} {ps : List Str} {sp : Sp}
theorem GnOk.of {k : Nat} (F : FnOk P w K mg base CX k f fd ps sp) : GnOk P w K mg base CX k f fd ps sp :=
  ⟨F.len, fun A o s H a us vs Q E _ hr => F.run A o s H a us vs Q E hr⟩
theorem GnOk.mono {j k : Nat} (F : GnOk P w K mg base CX j f fd ps sp) (h : j ≤ k) : GnOk P w K mg base CX k f fd ps sp :=
  ⟨F.len, fun A o s H a us vs Q E hg hr => F.run A o s H a us vs Q E hg (hr.mono h)⟩
theorem deeper_guards {A : Around} {env : Env} (h : A.guards = some []) : (A.deeper env).guards = some [] := h
end

/-- a def by its body, the body knowing the guards -/
theorem gn_of {CX : CXT} {P : Program} {w : World} {K : PySem.W.Frag} {mg : Str → Option Value} {base : Heap}
    {x qual : Str} {st : Stmt} {f : Addr} {fd : FuncData} {N ps : List Str} {k : Nat} {sp : Sp}
    (F : Fun K x qual st f fd) (S : FnScope N ps (defScope st)) (len : ∀ vs H Q E, sp vs H Q E → vs.length = ps.length)
    (hbody : ∀ (cdv : Value) (A : Around) (outer : List Env) (s : Shared) (H : Hp) (vs : List V) (Q : VK) (E : XK),
      A.guards = some [] → Room k (A.deeper (envOfC qual (defScope st) s.heap.objs.size f cdv)) → sp vs H Q E →
      ∃ t, PSs (cxOf CX P w K mg base N qual (defScope st) f cdv A outer s H E) (defBody st) t ∧
        t { nx := fun _ H' => Q .non H', rt := Q } (start N vs) H) :
    GnOk P w K mg base CX (k + 1) f fd ps sp := by
  obtain ⟨oc, od, kV, doc, pm, an, cdv, ct, osl, rfl, lk, hcd⟩ := F.ex
  refine ⟨len, fun A outer s H args us vs Q E hg hr e0 hb r hsp => ?_⟩
  have KX : K.In s.heap := e0.mod.kin.keeps fun b o e => (e0.bs b o e).1
  have lim : s.heap.NoLimit := e0.mod.nolimit.keeps fun b o e => (e0.bs b o e).1
  refine codeAny_call_function hr.depth (KX _ _ lk) rfl S.co S.gen rfl (PySem.W.codeRec_of KX hcd) (hb _ _ _ _ ?_)
  refine wpAny_newFunctionEnv_cells S.kind (fun ⟨n, v⟩ hy => ?_) fun env he s1 x => ?_
  · rcases S.par n (List.of_mem_zip hy).1 with q | q
    · exact Or.inl q
    · exact Or.inr ⟨q, PySem.W.cellsFrom_some _ _ _ (Or.inl q)⟩
  subst he
  refine ⟨lim.keeps x.toInCall.keep, codeAny_func ?_⟩
  obtain ⟨t, ht, hq⟩ := hbody cdv A outer s H vs Q E hg (hr.deeper _) hsp
  have J := inv_start (CX := CX) (E := E) S hr.hd e0 (len _ _ _ _ hsp) r x
  refine wpAny_mono (ht.run [] s1 (start N vs) H _ J hq) (fun fl s' hs => ?_) fun e s' hs => hs
  cases fl with
  | ret u =>
    obtain ⟨v, σ', H', J', rv, q⟩ := hs
    exact ⟨v, H', J'.os, J'.bare, J'.base, J'.hok, rv, q⟩
  | next =>
    obtain ⟨σ', H', J', q⟩ := hs
    exact ⟨V.non, H', J'.os, J'.bare, J'.base, J'.hok, rfl, q⟩
  | brk =>
    obtain ⟨_, _, _, q⟩ := hs
    exact q.elim
  | cont =>
    obtain ⟨_, _, _, q⟩ := hs
    exact q.elim
theorem gn_ok {P : Program} {w : World} {K : PySem.W.Frag} {mg : Str → Option Value} {base : Heap}
    {x qual : Str} {st : Stmt} {f : Addr} {fd : FuncData} {N ps : List Str} {k : Nat} {sp : Sp}
    (F : Fun K x qual st f fd) (S : FnScope N ps (defScope st)) (len : ∀ vs H Q E, sp vs H Q E → vs.length = ps.length)
    (hbody : ∀ (cdv : Value) (A : Around) (outer : List Env) (s : Shared) (H : Hp) (vs : List V) (Q : VK) (E : XK),
      A.guards = some [] → Room k (A.deeper (envOfC qual (defScope st) s.heap.objs.size f cdv)) → sp vs H Q E →
      ∃ t, PSs (cxOf CX0 P w K mg base N qual (defScope st) f cdv A outer s H E).nox (defBody st) t ∧
        t { nx := fun _ H' => Q .non H', rt := Q } (start N vs) H) :
    GnOk P w K mg base CX0 (k + 1) f fd ps sp :=
  gn_of F S len fun cdv A outer s H vs Q E hg hr hsp =>
    let ⟨t, h, q⟩ := hbody cdv A outer s H vs Q E hg hr hsp
    ⟨t, h.nox, q⟩

section
variable {X : Cx} {CX : CXT} {k : Nat} {f : Addr} {fd : FuncData} {ps : List Str} {sp : Sp} {dvs : List V}
  {ds : List Value} {E : XK} {x : Str} {p pos : Pos} {e : Expr} {es : List Expr} {t : TA}
theorem run_gn {pins : List (Addr × Obj)} {σ : L2.St} {H : Hp} {s : Shared} {Q : VK} {us : List Value} {vs : List V}
    (F : GnOk X.prog X.w X.K X.mg X.base CX k f fd ps sp) (hg : X.A.guards = some []) (hr : Room k X.A)
    (hb : Binds X.K fd ps ds) (hd : Vals dvs ds) (hx : Passes CX X E) (I : Inv X pins σ H s) (r : Vals vs us)
    (h : sp (vs ++ dvs) H Q E) : wpAny (model X.prog X.w) X.A (call (.ref f) us) (EP X pins σ Q) X.xe s := by
  have r2 : Vals (vs ++ dvs) (us ++ ds) := r.append hd
  have hl : (us ++ ds).length = ps.length := r2.length.symm.trans (F.len _ _ _ _ h)
  refine wpAny_call (codeAny_mono (F.run X.A X.stack s H ⟨us, []⟩ (us ++ ds) (vs ++ dvs) Q E hg hr I.env0
    (hb s us I.kIn hl) r2 h) fun r s' hq => ?_)
  cases r with
  | error e => exact hx pins σ H s e s' I hq
  | ok fl =>
    cases fl with
    | ret u => exact I.after hq
    | next => exact False.elim hq
    | brk => exact False.elim hq
    | cont => exact False.elim hq
theorem pe_callG (F : GnOk X.prog X.w X.K X.mg X.base CX k f fd ps sp) (hgu : X.A.guards = some []) (hr : Room k X.A)
    (hg : Gl X x) (hm : X.mg x = some (.ref f)) (hk : PySem.W.keepIn X.K (.ref f) = true) (hb : Binds X.K fd ps ds)
    (hd : Vals dvs ds) (hx : Passes CX X E) (ha : PA X (e :: es) t) (hdb : (x == ("__debug__" : Str)) = false := by decide)
    (he : starEach (e :: es) X.env = (false, eval e X.env) :: starEach es X.env := by rfl)
    (hpl : (backTo pos (starEach es X.env)).any (·.1) = false := by rfl) :
    PE X (.Call (.Name x p) (e :: es) [] pos) (tCall sp dvs E t) :=
  ⟨fun pins s σ H Q I h => wpAny_Call_Name_kw (ld_glob I hg hm (PySem.W.callWith_K (h₀ := X.base) I.ok.mod.kin hk
    (thn (ha.run pos pins s σ H _ I h) fun us s1 ⟨vs, H1, I1, r, q⟩ =>
      ⟨I1.kIn, run_gn F hgu hr hb hd hx I1 r q⟩) he hpl) hdb)⟩
theorem pe_callG0 (F : GnOk X.prog X.w X.K X.mg X.base CX k f fd ps sp) (hgu : X.A.guards = some []) (hr : Room k X.A)
    (hg : Gl X x) (hm : X.mg x = some (.ref f)) (hk : PySem.W.keepIn X.K (.ref f) = true) (hb : Binds X.K fd ps ds)
    (hd : Vals dvs ds) (hx : Passes CX X E) (hdb : (x == ("__debug__" : Str)) = false := by decide) :
    PE X (.Call (.Name x p) [] [] pos) (tCall sp dvs E tNil) :=
  ⟨fun pins s σ H Q I h => wpAny_Call_Name_kw (ld_glob I hg hm (PySem.W.callWith_K0 I.kIn hk
    (run_gn (us := []) F hgu hr hb hd hx I .nil h)) hdb)⟩
end

/-- sysModules is known and never written -/
def Sys (H : Hp) : Prop := ∃ o u, H sysModules = some (.frz o u)
theorem Sys.ne {H : Hp} (y : Sys H) {a : Addr} {o : HO} (h : H a = some o) (n : ∀ ob u, o ≠ .frz ob u) : a ≠ sysModules := by
  rintro rfl
  obtain ⟨ob, u, e⟩ := y
  rw [h] at e
  exact n ob u (Option.some.inj e)

theorem law_callG {P : Program} {w : World} {K : PySem.W.Frag} {mg mb : Str → Option Value} {CX : CXT} {k : Nat}
    {fa a : Addr} {fd : FuncData} {x : Str} {sp : Sp} {s₁ : Shared} {vs : List Value} {ns : List Int}
    (KX : K.In s₁.heap) (hns : s₁.heap.Ns mainGlobals mg) (hb : s₁.heap.Ns builtinsNs mb)
    (hbb : ∀ x : Str, x ≠ "__name__" → mb x = bootBuiltins x) (hlim : s₁.heap.NoLimit) (hg : s₁.gens = #[])
    (hsys : ∃ mm, s₁.heap.Ns sysModules mm) (hK1 : K.lookup sysModules = none)
    (ha : s₁.heap.get? a = some { cls := .type "list", data := .seq vs.toArray }) (hi : IntsAre vs ns)
    (hl : ns.length ≤ sizeLine) (hr : Room k callerA)
    (F : ∀ base : Heap, K.In base → base.Ns mainGlobals mg → GnOk P w K mg base CX k fa fd [x] sp)
    (hbind : ∀ (s : Shared) (u : Value), BindsTo s fd ⟨[u], []⟩ [(x, u)])
    (hsp : ∀ H : Hp, Sys H → SqL K H a (ns.map V.int) → sp [.ref a] H (fun v _ => v = .bl true) fun _ _ _ => False)
    (hCX : ∀ H e s', CX [] H s₁ (fun _ _ _ => False) e s' → False) :
    codeAny (model P w) callerA (.call (.ref fa) ⟨[.ref a], []⟩)
      (fun r s' => r = .ok (.ret (.bool true)) ∧ OldK s₁.heap s'.heap ∧ s'.os = s₁.os ∧ AllBare s'.gens) s₁ := by
  have rv := vals_ints hi
  obtain ⟨mm, o1, es1, ep1, h1, d1, r1⟩ := hsys
  have hne : sysModules ≠ a := fun z => by
    rw [z, ha] at h1
    cases h1
    cases d1
  have core : ∀ H : Hp, HOk P w H s₁.heap → (∀ b u, H b = some u → ∃ ob v, u = .frz ob v) → Sys H →
      SqL K H a (ns.map V.int) → (∀ b u, H b = some u → b = sysModules ∨ (b = a ∧ K.lookup a = none)) →
      codeAny (model P w) callerA (.call (.ref fa) ⟨[.ref a], []⟩)
        (fun r s' => r = .ok (.ret (.bool true)) ∧ OldK s₁.heap s'.heap ∧ s'.os = s₁.os ∧ AllBare s'.gens) s₁ := by
    intro H hok Hfrz hS hQ hW
    have noneD : ∀ {b : Addr} {o : Obj} {es : Array DictEntry} {ep : Nat}, s₁.heap.get? b = some o →
        o.data = .dict es ep → b ≠ sysModules → H b = none := fun {b o es ep} e d n => by
      cases q : H b with
      | none => rfl
      | some u =>
        rcases hW b u q with z | ⟨z, _⟩
        · exact absurd z n
        · rw [z, ha] at e
          cases e
          cases d
    have nsK : ∀ {b : Addr} {m : Str → Option Value}, s₁.heap.Ns b m → b ≠ sysModules → (hidT s₁.heap H).Ns b m :=
      fun {b m} ⟨o, es, ep, e, d, r⟩ n => ⟨o, es, ep, hidT_get e (noneD e d n), d, r⟩
    have hKb : K.In (hidT s₁.heap H) := fun b o e => hidT_get (KX b o e) (by
      cases q : H b with
      | none => rfl
      | some u =>
        rcases hW b u q with z | ⟨z, z2⟩
        · rw [z, hK1] at e
          cases e
        · rw [z, z2] at e
          cases e)
    obtain ⟨mc, hmc, hmc2⟩ := hlim
    have hM : Mod K mg (hidT s₁.heap H) :=
      ⟨hKb, nsK hns (by decide), ⟨mb, nsK hb (by decide), hbb⟩, ⟨mc, nsK hmc (by decide), hmc2⟩⟩
    have e0 : Env0 P w K mg (hidT s₁.heap H) callerA [] s₁ H :=
      ⟨rfl, hM, fun b o e => of_hidT e, Nat.le_of_eq (hidT_size _ _), trivial,
        fun b hb => absurd (show b ∈ ([] : List Addr) from hb) (by simp), hok, .of_eq hg⟩
    refine codeAny_mono ((F _ hKb (nsK hns (by decide))).run callerA [] s₁ H ⟨[.ref a], []⟩ [.ref a] [.ref a] _ _ rfl hr e0
      (hbind s₁ (.ref a)) (.cons rfl .nil) (hsp H hS hQ)) fun r s' h => ?_
    cases r with
    | error e => exact (hCX H e s' h).elim
    | ok fl =>
      cases fl with
      | next => exact h.elim
      | brk => exact h.elim
      | cont => exact h.elim
      | ret u =>
        obtain ⟨v, H', os, bare, un, hok', r', q⟩ := h
        have q' : v = .bl true := q
        subst q'
        obtain rfl : u = Value.bool true := r'
        refine ⟨rfl, OldK.of_keep fun b o e => ?_, os, bare⟩
        cases q : H b with
        | none => exact un.keep b o e q (by intro z; exact absurd (show b ∈ ([] : List Addr) from z) (by simp)) (by simp)
        | some u =>
          obtain ⟨ob, v, rfl⟩ := Hfrz b u q
          obtain ⟨e1, _⟩ := hok b _ q
          obtain ⟨e2, _⟩ := hok' b _ (un.frzs b ob _ q)
          rw [e] at e1
          cases e1
          exact e2
  cases hk : K.lookup a with
  | some o =>
    have e := KX a o hk
    rw [ha] at e
    cases e
    refine core (fun b => if b = sysModules then some (.frz o1 (.ext fun _ => True)) else none) (fun b u e => ?_) (fun b u e => ?_)
      ⟨_, _, if_pos rfl⟩ (.inr ⟨_, vs.toArray, _, hk, rfl, rfl, rfl, by rw [List.size_toArray, hi.length]; exact hl, by simpa using rv⟩) fun b u e => ?_
    · by_cases z : b = sysModules
      · have e' := (if_pos z).symm.trans e
        cases e'
        subst z
        exact ⟨h1, trivial, ⟨o1, h1⟩, fun _ _ _ _ => trivial⟩
      · have e' := (if_neg z).symm.trans e
        cases e'
    · by_cases z : b = sysModules
      · have e' := (if_pos z).symm.trans e
        exact ⟨_, _, (Option.some.inj e').symm⟩
      · have e' := (if_neg z).symm.trans e
        cases e'
    · by_cases z : b = sysModules
      · exact .inl z
      · have e' := (if_neg z).symm.trans e
        cases e'
  | none =>
    have Ha : (fun b => if b = a then some (HO.frz { cls := .type "list", data := .seq vs.toArray } (.lst (ns.map V.int)))
      else if b = sysModules then some (.frz o1 (.ext fun _ => True)) else none : Hp) a = _ := if_pos rfl
    refine core (fun b => if b = a then some (.frz { cls := .type "list", data := .seq vs.toArray } (.lst (ns.map V.int)))
      else if b = sysModules then some (.frz o1 (.ext fun _ => True)) else none) (fun b u e => ?_) (fun b u e => ?_)
      ⟨_, _, (if_neg hne).trans (if_pos rfl)⟩ (.inl (.inr ⟨_, Ha⟩)) fun b u e => ?_
    · by_cases z : b = a
      · have e' := (if_pos z).symm.trans e
        cases e'
        subst z
        exact ⟨ha, by rw [List.length_map]; exact hl, vs, _, rv, ha⟩
      · by_cases z2 : b = sysModules
        · have e' := ((if_neg z).trans (if_pos z2)).symm.trans e
          cases e'
          subst z2
          exact ⟨h1, trivial, ⟨o1, h1⟩, fun _ _ _ _ => trivial⟩
        · have e' := ((if_neg z).trans (if_neg z2)).symm.trans e
          cases e'
    · by_cases z : b = a
      · have e' := (if_pos z).symm.trans e
        exact ⟨_, _, (Option.some.inj e').symm⟩
      · by_cases z2 : b = sysModules
        · have e' := ((if_neg z).trans (if_pos z2)).symm.trans e
          exact ⟨_, _, (Option.some.inj e').symm⟩
        · have e' := ((if_neg z).trans (if_neg z2)).symm.trans e
          cases e'
    · by_cases z : b = a
      · exact .inr ⟨z, hk⟩
      · by_cases z2 : b = sysModules
        · exact .inl z2
        · have e' := ((if_neg z).trans (if_neg z2)).symm.trans e
          cases e'

theorem walk_G {l : PySem.W.OpenLaw} {n k : Nat} {q : Program} {loose : List Str} {XP : (Str → Option Value) → Heap → Prop}
    {YP : World → Heap → Prop} {d : PySem.DefRec} {K : Params → PySem.W.Frag} {CX : World → CXT} {sp : World → Sp} {x : Str}
    (hn : l.most = some n) (hn2 : n ≤ sizeLine) (hdf : d.params.defaults = []) (hr : Room k callerA)
    (hY : ∀ (w : World) (h : Heap), YP w h → (K w.params).In h) (hK1 : ∀ w : World, (K w.params).lookup sysModules = none)
    (hq : importsNone q = true)
    (F : ∀ (w : World) (mg : Str → Option Value) (fa : Addr) (h : Heap), (K w.params).In h → h.Ns mainGlobals mg →
      mg d.name = some (.ref fa) → ∃ fd : FuncData, (∀ (s : Shared) (u : Value), BindsTo s fd ⟨[u], []⟩ [(x, u)]) ∧
        ∀ base : Heap, (K w.params).In base → base.Ns mainGlobals mg → GnOk l.prog w (K w.params) mg base (CX w) k fa fd [x] (sp w))
    (hsp : ∀ (w : World) (H : Hp) (a : Addr) (ns : List Int), ns.length ≤ n → (∀ z ∈ ns, Builtin.Int.intBits z ≤ 1048576) →
      Sys H → SqL (K w.params) H a (ns.map V.int) → sp w [.ref a] H (fun v _ => v = .bl true) fun _ _ _ => False)
    (hCX : ∀ (w : World) (H : Hp) (s : Shared) (e : Value) (s' : Shared), CX w [] H s (fun _ _ _ => False) e s' → False) :
    PySem.W.WalkO q loose XP YP l.row.toRowW d [] (fun f vs => PySem.call f vs) := by
  refine Att.attach_callB hn hdf fun w s₀ s₁ mg mb fa o pm cd doc a vs ns G Y ho hd hcd hmg hobj hints hlen hbits hg => ?_
  have KX := hY w _ Y
  obtain ⟨fd, hb, hF⟩ := F w mg fa _ KX G.T.g hmg
  exact law_callG KX G.T.g G.T.b G.T.builtins G.T.nolimit hg (let ⟨mm, a, _⟩ := (G.T.seer hq).mods; ⟨mm, a⟩) (hK1 w) hobj hints (Nat.le_trans hlen hn2) hr hF hb
    (fun H hS hQ => hsp w H a ns hlen hbits hS hQ) fun H e s' => hCX w H s₁ e s'
end Kx

set_option Elab.async false
set_option maxRecDepth 100000
set_option linter.all false
set_option maxHeartbeats 2000000
/-! KitB: data at any depth (dicts too), and repr of it. -/
namespace Kx
open PySem PySem.Spec PyProof.Rows L2

def keyD : Key → PyData
  | .inl i => .int i
  | .inr x => .str x
mutual
/-- a value of plain data: what it shows at this heap -/
inductive Dq (K : PySem.W.Frag) (H : Hp) : V → PyData → Prop
  | non : Dq K H .non .none
  | bl (b : Bool) : Dq K H (.bl b) (.bool b)
  | int (i : Int) : Dq K H (.int i) (.int i)
  | str (x : Str) : Dq K H (.str x) (.str x)
  | lst {a : Addr} {xs : List V} {ds : List PyData} : H a = some (.lst xs) → DqA K H xs ds → Dq K H (.ref a) (.list ds)
  | tup {a : Addr} {xs : List V} {ds : List PyData} : SqT K H a xs → DqA K H xs ds → Dq K H (.ref a) (.tuple ds)
  | dic {a : Addr} {kvs : List (Key × V)} {ds : List (PyData × PyData)} : H a = some (.dK kvs) → DqD K H kvs ds → Dq K H (.ref a) (.dict ds)
inductive DqA (K : PySem.W.Frag) (H : Hp) : List V → List PyData → Prop
  | nil : DqA K H [] []
  | cons {v : V} {vs : List V} {d : PyData} {ds : List PyData} : Dq K H v d → DqA K H vs ds → DqA K H (v :: vs) (d :: ds)
inductive DqD (K : PySem.W.Frag) (H : Hp) : List (Key × V) → List (PyData × PyData) → Prop
  | nil : DqD K H [] []
  | cons {k : Key} {v : V} {vs : List (Key × V)} {d : PyData} {ds : List (PyData × PyData)} : Dq K H v d → DqD K H vs ds → DqD K H ((k, v) :: vs) ((keyD k, d) :: ds)
end
theorem sqt_ex {K : PySem.W.Frag} {H H' : Hp} {a : Addr} {xs : List V} (e : Same H H') (h : SqT K H a xs) : SqT K H' a xs := by
  rcases h with (h | ⟨o, h⟩) | h
  · exact .inl (.inl (e _ _ h))
  · exact .inl (.inr ⟨o, e _ _ h⟩)
  · exact .inr h
mutual
theorem Dq.mono {K : PySem.W.Frag} {H H' : Hp} (e : Same H H') : ∀ {d : PyData} {v : V}, Dq K H v d → Dq K H' v d
  | _, _, .non => .non
  | _, _, .bl b => .bl b
  | _, _, .int i => .int i
  | _, _, .str x => .str x
  | _, _, .lst h a => .lst (e _ _ h) (DqA.mono e a)
  | _, _, .tup h a => .tup (sqt_ex e h) (DqA.mono e a)
  | _, _, .dic h a => .dic (e _ _ h) (DqD.mono e a)
theorem DqA.mono {K : PySem.W.Frag} {H H' : Hp} (e : Same H H') : ∀ {ds : List PyData} {vs : List V}, DqA K H vs ds → DqA K H' vs ds
  | _, _, .nil => .nil
  | _, _, .cons a b => .cons (Dq.mono e a) (DqA.mono e b)
theorem DqD.mono {K : PySem.W.Frag} {H H' : Hp} (e : Same H H') : ∀ {ds : List (PyData × PyData)} {vs : List (Key × V)}, DqD K H vs ds → DqD K H' vs ds
  | _, _, .nil => .nil
  | _, _, .cons a b => .cons (Dq.mono e a) (DqD.mono e b)
end
theorem Sys.mono {H H' : Hp} (y : Sys H) (e : Same H H') : Sys H' := let ⟨o, u, h⟩ := y; ⟨o, u, e _ _ h⟩

section
variable {X : Cx} {pins : List (Addr × Obj)} {σ : L2.St} {H : Hp} {s : Shared}
theorem key_reads {P : Program} {w : World} {h : Heap} {k : Key} {u : Value} (e : (mixKind P w).is k u = true) : Reads h u (keyD k) [] := by
  rcases keyIs_shape (show keyIs k u = true from e) with ⟨i, t, rfl, rfl⟩ | ⟨x, t, rfl, rfl⟩
  · exact .int i t
  · exact .str x t
mutual
theorem Dq.reads (I : Inv X pins σ H s) (y : Sys H) : ∀ {d : PyData} {v : V} {u : Value}, Dq X.K H v d → RelV v u → ∃ as, Reads s.heap u d as ∧ sysModules ∉ as
  | _, _, _, .non, r => by
    cases r
    exact ⟨_, Reads.none, by simp⟩
  | _, _, _, .bl b, r => by
    cases r
    exact ⟨_, Reads.bool b, by simp⟩
  | _, _, _, .int i, r => by
    obtain ⟨t, rfl⟩ := r
    exact ⟨_, Reads.int i t, by simp⟩
  | _, _, _, .str x, r => by
    obtain ⟨t, rfl⟩ := r
    exact ⟨_, Reads.str x t, by simp⟩
  | _, _, _, .lst (a := a) h q, r => by
    cases r
    obtain ⟨_, its, n, rv, ho⟩ := (show ObjOk X.prog X.w H s.heap a (.lst _) from I.hok a _ h)
    obtain ⟨as, hr, hn⟩ := DqA.reads I y q rv
    exact ⟨_, Reads.list ho rfl rfl hr, fun z => (List.mem_cons.mp z).elim (fun z => y.ne h (fun _ _ z => by cases z) z.symm) hn⟩
  | _, _, _, .tup h q, r => by
    cases r
    obtain ⟨its, rv, ⟨o, ho, hc, n, hd⟩, _⟩ := I.tuple h
    obtain ⟨as, hr, hn⟩ := DqA.reads I y q rv
    exact ⟨_, Reads.tuple ho hc hd hr, hn⟩
  | _, _, _, .dic (a := a) h q, r => by
    cases r
    obtain ⟨_, ha, vs, rv, o, es, ep, ho, hx, hd, _, hp, _⟩ := (show ObjOk X.prog X.w H s.heap a (.dK _) from I.hok a _ h)
    obtain ⟨as, bs, h1, h2, n1, n2⟩ := DqD.reads I y q rv hp
    refine ⟨_, Reads.dict ho hx.1 hd h1 h2, fun z => ?_⟩
    rcases List.mem_append.mp z with z | z
    · rcases List.mem_cons.mp z with z | z
      · exact y.ne h (fun _ _ z => by cases z) z.symm
      · exact n1 z
    · exact n2 z
theorem DqA.reads (I : Inv X pins σ H s) (y : Sys H) : ∀ {ds : List PyData} {vs : List V} {us : List Value}, DqA X.K H vs ds → Vals vs us → ∃ as, ReadsAll s.heap us ds as ∧ sysModules ∉ as
  | _, _, _, .nil, r => by
    cases r
    exact ⟨_, ReadsAll.nil, by simp⟩
  | _, _, _, .cons a b, r => by
    cases r with
    | cons r1 r2 =>
      obtain ⟨as, h1, n1⟩ := Dq.reads I y a r1
      obtain ⟨bs, h2, n2⟩ := DqA.reads I y b r2
      exact ⟨_, ReadsAll.cons h1 h2, fun z => (List.mem_append.mp z).elim n1 n2⟩
theorem DqD.reads (I : Inv X pins σ H s) (y : Sys H) : ∀ {ds : List (PyData × PyData)} {kvs : List (Key × V)} {vs : List (Key × Value)} {es : List DictEntry}, DqD X.K H kvs ds → KV kvs vs →
    Pairs (mixKind X.prog X.w) es vs → ∃ as bs, ReadsAll s.heap (es.map (·.key)) (ds.map (·.1)) as ∧ ReadsAll s.heap (es.map (·.val)) (ds.map (·.2)) bs ∧ sysModules ∉ as ∧ sysModules ∉ bs
  | _, _, _, _, .nil, r, p => by
    cases r
    cases p
    exact ⟨_, _, ReadsAll.nil, ReadsAll.nil, by simp, by simp⟩
  | _, _, _, _, .cons a b, r, p => by
    cases r with
    | cons r1 r2 =>
      cases p with
      | cons p1 p2 p3 =>
        obtain ⟨e1, e2⟩ := r1
        obtain ⟨as, h1, n1⟩ := Dq.reads I y a (p2 ▸ e2)
        obtain ⟨bs, cs, h2, h3, n2, n3⟩ := DqD.reads I y b r2 p3
        refine ⟨_, _, ReadsAll.cons (key_reads (by rw [← e1] at p1; exact p1)) h2, ReadsAll.cons h1 h3, by simpa using n2, fun z => (List.mem_append.mp z).elim n1 n3⟩
end
end
/-- repr(x), x plain data -/
def rRepr (K : PySem.W.Frag) : List V → Hp → VK → Prop := fun vs H Q => ∃ v d, vs = [v] ∧ Sys H ∧ Dq K H v d ∧ d.showable = true ∧ d.depth ≤ 60 ∧ d.shown.length ≤ sizeLine ∧ Q (.str d.shown) H
theorem call_repr {X : Cx} (hg : X.A.guards = some []) (hu : X.A.units + 64 < cLine) : CallR X (.builtin "repr") (rRepr X.K) := by
  intro pins s σ H xs us Q I r h
  obtain ⟨v, d, rfl, y, hd, hs, hp, hz, q⟩ := h
  obtain ⟨u, rfl, ru⟩ := vals1 r
  obtain ⟨as, hr, hn⟩ := Dq.reads I y hd ru
  cases hd with
  | non =>
    cases ru
    exact PySem.P.repr_of_none ⟨.str _, H, I.tok _, ⟨_, rfl⟩, q⟩
  | bl b =>
    cases ru
    exact PySem.P.repr_of_bool ⟨.str _, H, I.tok _, ⟨_, rfl⟩, q⟩
  | int i =>
    obtain ⟨t, rfl⟩ := ru
    exact PySem.P.repr_of_int (by simpa [PyData.showable] using hs) ⟨.str _, H, I.tok _, ⟨_, rfl⟩, q⟩
  | str x =>
    obtain ⟨t, rfl⟩ := ru
    exact PySem.P.repr_of_str ⟨.str _, H, I.tok _, ⟨_, rfl⟩, q⟩ hz
  | lst _ _ =>
    cases ru
    exact repr_of_reads' hr hs (fun _ => hn) hg (by omega) (fun _ _ e => e) (fun h' u tk k => ⟨.str _, H, I.kept (t' := tk) k, ⟨_, rfl⟩, q⟩) hz
  | tup _ _ =>
    cases ru
    exact repr_of_reads' hr hs (fun _ => hn) hg (by omega) (fun _ _ e => e) (fun h' u tk k => ⟨.str _, H, I.kept (t' := tk) k, ⟨_, rfl⟩, q⟩) hz
  | dic _ _ =>
    cases ru
    exact repr_of_reads' hr hs (fun _ => hn) hg (by omega) (fun _ _ e => e) (fun h' u tk k => ⟨.str _, H, I.kept (t' := tk) k, ⟨_, rfl⟩, q⟩) hz
end Kx

set_option Elab.async false
set_option maxRecDepth 100000
set_option linter.all false
set_option maxHeartbeats 4000000
/-! KitC: exceptions of own classes, held as values: made (positionally, by keyword, bare), asked, read. -/
namespace PySem
namespace KxP
open PySem.W PySem.Calls PyProof.Rows PySem.HandSPX
section
variable {prog : Program} {w : World} {A : Around} {E : Value → Shared → Prop} {R : Result → Shared → Prop} {h : Heap} {g : Array GenState} {d : Drawn} {t : Nat} {os : OsState}
variable {nm q : Str} {C N : Addr} {bs bm bmB : List Value} {hdct : Bool} {sn : List Str} {sub : List Value} {ab : Bool} {col : Option Bool} {dd : Option Addr} {k0 k1 k2 k3 k5 : Option Value} {B newId initId : String}

theorem newKw_check (F : ExcBaseFacts B newId initId bmB) (hT : ∀ X : String, bm.contains (.type X) = bmB.contains (.type X))
    {rest : List Value} {kw : List (Str × Value)} {Q : Unit → Shared → Prop}
    (hC : h.get? C = some (excClassObj nm q C N bs bm hdct sn sub ab col dd k0 k1 k2 k3 k5 newId)) (hq : Q () ⟨h, g, d, t, os⟩) :
    wpAny (model prog w) A (checkBuiltinCall newId ⟨.ref C :: rest, kw⟩) Q E ⟨h, g, d, t, os⟩ := by
  have hc : (Value.ref C :: bm).contains (.type B) = true := by
    rw [List.contains_cons, hT, F.hasB, Bool.or_true]
  have hs := F.noStar
  simp only [checkBuiltinCall, F.newKind, F.newSplit, F.newRow]
  repeat (first
    | refine wpAny_loadPart_at hC ?_
    | (refine wpAny_isSubtype_exc hC ?_; rw [hc])
    | refine wpAny_staticBase_exc hC ?_
    | refine wpAny_madeBy_exc hC ?_
    | simp only [bne_self_eq_false, Bool.false_eq_true, if_false]
    | wp_step)
  exact hq
theorem newKw (F : ExcBaseFacts B newId initId bmB) (hT : ∀ X : String, bm.contains (.type X) = bmB.contains (.type X))
    {rest : List Value} {kw : List (Str × Value)} (hC : h.get? C = some (excClassObj nm q C N bs bm hdct sn sub ab col dd k0 k1 k2 k3 k5 newId))
    (hq : R (.ok (.ret (.ref (h.objs.size + 1)))) ⟨(h.push (kdv_tup rest)).push (excO C h.objs.size), g, d, t, os⟩)
    (hz : rest.length ≤ sizeLine) : codeAny (model prog w) A (.builtin newId ⟨.ref C :: rest, kw⟩) R ⟨h, g, d, t, os⟩ := by
  have he := F.ends
  have hB : (Value.ref C :: bm).contains (.type B) = true := by
    rw [List.contains_cons, hT, F.hasB, Bool.or_true]
  have hA : (Value.ref C :: bm).contains (.type "AttributeError") = false := by
    rw [List.contains_cons, hT, F.noAttr]
    rfl
  have hN : (Value.ref C :: bm).contains (.type "NameError") = false := by
    rw [List.contains_cons, hT, F.noName]
    rfl
  refine codeAny_builtinAt F.entry ?_
  unfold Builtin.«BaseException.__new__»
  refine wpAt_bind ?_
  show wpAt _ _ _ (stack >>= _) _ _ _
  refine wpAt_bind (wpAt_stack fun p below => wpAt_of_wpAny ?_)
  wp_walk
  refine wpAt_of_wpAny ?_
  rw [F.owner]
  repeat (first
    | with_reducible refine wpAny_madeHere_exc F.canon hC ?_
    | with_reducible refine wpAny_loadPart_at hC ?_
    | (with_reducible refine wpAny_isSubtype_exc hC ?_; first | rw [hB] | rw [hA] | rw [hN])
    | wp_step)
  show R _ _
  rw [Heap.size_push]
  exact hq
theorem typeCallKw (F : ExcBaseFacts B newId initId bmB) (hT : ∀ X : String, bm.contains (.type X) = bmB.contains (.type X))
    {rest : List Value} {kw : List (Str × Value)} {fI : Addr} {Q : Fin → Shared → Prop}
    (hC : h.get? C = some (excClassObj nm q C N bs bm hdct sn sub ab col dd k0 k1 k2 k3 k5 newId))
    (hi : Looks (model prog w) h (typeLookup (.ref C) "__init__") (some (.ref fI)))
    (hb : ∀ self, Looks (model prog w) h (bindSpecial (.ref fI) self) (.ref fI, [self])) (hz : rest.length ≤ sizeLine)
    (hq : codeAny (model prog w) A (.call (.ref fI) ⟨.ref (h.objs.size + 1) :: rest, kw⟩)
      (fun r s' => match r with
        | .ok (.ret v) => v = .none ∧ Q (.done (.ret (.ref (h.objs.size + 1)))) s'
        | .ok _ => False
        | .error e => E e s') ⟨(h.push (kdv_tup rest)).push (excO C h.objs.size), g, d, t, os⟩) :
    wpAny (model prog w) A (Builtin.«type.__call__» ⟨.ref C :: rest, kw⟩) Q E ⟨h, g, d, t, os⟩ := by
  repeat (first | with_reducible refine wpAny_loadPart_at hC ?_ | with_reducible refine wpAny_madeBy_exc hC ?_ | wp_step)
  refine codeAny_call_builtin_code (Code.quiet_builtin _ F.quiet) (newKw_check F hT hC ?_)
  refine newKw F hT hC ?_ hz
  show wpAny _ _ _ _ _ _
  have k : ∀ b o, h.get? b = some o → ((h.push (kdv_tup rest)).push (excO C h.objs.size)).get? b = some o :=
    fun b o e => Heap.get?_push_of_some _ (Heap.get?_push_of_some _ e)
  have hC1 := k _ _ hC
  have hget : ((h.push (kdv_tup rest)).push (excO C h.objs.size)).get? (h.objs.size + 1) = some (excO C h.objs.size) := by
    heap_get
  have hcC : (Value.ref C :: bm).contains (.ref C) = true := by
    simp
  have i1 := hi.keeps k
  have b1 := (hb (.ref (h.objs.size + 1))).keeps k
  unfold isInstance
  repeat (first
    | with_reducible refine wpAny_loadPart_at hget ?_
    | (with_reducible refine wpAny_isSubtype_exc hC1 ?_; rw [hcC])
    | wp_step)
  show wpAny _ _ (typeLookup (.ref C) _) _ _ _
  refine i1.at (wpAny_holding (wpAny_bind (b1.at ?_)))
  refine wpAny_bind (wpAny_call (codeAny_mono hq fun r s' z => ?_))
  rcases r with e | (v | _ | _ | _) <;> first | exact z | exact z.elim | skip
  obtain ⟨rfl, z⟩ := z
  first
    | exact wpAny_pure (wpAny_pure z)
    | (wp_walk; exact z)
theorem callKw (F : ExcBaseFacts B newId initId bmB) (hT : ∀ X : String, bm.contains (.type X) = bmB.contains (.type X))
    {rest : List Value} {kw : List (Str × Value)} {fI : Addr}
    (hC : h.get? C = some (excClassObj nm q C N bs bm hdct sn sub ab col dd k0 k1 k2 k3 k5 newId))
    (hi : Looks (model prog w) h (typeLookup (.ref C) "__init__") (some (.ref fI)))
    (hb : ∀ self, Looks (model prog w) h (bindSpecial (.ref fI) self) (.ref fI, [self])) (hz : rest.length ≤ sizeLine)
    (hq : codeAny (model prog w) (A.under (.builtin "type.__call__" ⟨.ref C :: rest, kw⟩))
      (.call (.ref fI) ⟨.ref (h.objs.size + 1) :: rest, kw⟩) (InitBack (h.objs.size + 1) R)
      ⟨(h.push (kdv_tup rest)).push (excO C h.objs.size), g, d, t, os⟩) :
    codeAny (model prog w) A (.call (.ref C) ⟨rest, kw⟩) R ⟨h, g, d, t, os⟩ := by
  have f1 := tc_lookup
  have f2 := tc_bind (.ref C)
  have hTy : (⟨h, g, d, t, os⟩ : Shared).TypeIs (.ref C) "type" := ⟨_, hC, rfl⟩
  refine codeAny_of_tree ?_
  show wpAny _ _ (callAny (.ref C) _) _ _ _
  repeat (any_goals (first | assumption | with_reducible refine wpAny_loadPart_at hC ?_ | wp_step))
  refine ⟨rfl, codeAny_call_builtin_at (Code.quiet_builtin _ (by decide +kernel)) entry_typeCall
    (wpAny_check_type_call_sub hC (typeCallKw F hT hC hi hb hz (codeAny_mono hq fun r s' z => ?_)))⟩
  rcases r with e | (v | _ | _ | _) <;> exact z
end
end KxP
end PySem

set_option Elab.async false
set_option maxRecDepth 100000
set_option linter.all false
set_option maxHeartbeats 4000000
/-! KitD: the hand layer's rules over KitC. -/
namespace Kx
open PySem PySem.Spec PyProof.Rows L2

/-- what the written part says of an own exception class -/
structure ExK (K : PySem.W.Frag) (C : Addr) : Prop where
  o : OexC K C
  x : ExcC K C
/-- at a stands an exception of the class at C, its own dict at d -/
def XAt (H : Hp) (a C : Addr) (d : Option Addr) : Prop :=
  ∃ φ : Heap → Prop, H a = some (.ext φ) ∧ ∀ h, φ h → ∃ ox : Obj, h.get? a = some ox ∧ ox.cls = .ref C ∧ ox.dict = d ∧ PySem.W.notCls ox = true
/-- the fields of such a dict -/
def FAt (H : Hp) (d : Addr) (fs : List (Str × V)) : Prop := H d = some (exd d fs) ∨ H d = some (.xd fs)
theorem xat_exo {H : Hp} {a C : Addr} {d : Option Addr} (h : H a = some (exo a C d)) : XAt H a C d :=
  ⟨_, h, fun _ ⟨_, e⟩ => ⟨_, e, rfl, rfl, rfl⟩⟩
theorem XAt.mono {H H' : Hp} {a C : Addr} {d : Option Addr} (e : Same H H') (h : XAt H a C d) : XAt H' a C d :=
  let ⟨p, q, r⟩ := h
  ⟨p, e _ _ q, r⟩
theorem FAt.mono {H H' : Hp} {d : Addr} {fs : List (Str × V)} (e : Same H H') (h : FAt H d fs) : FAt H' d fs := h.elim (fun h => .inl (e _ _ h)) fun h => .inr (e _ _ h)

section
variable {X : Cx} {pins : List (Addr × Obj)} {σ : L2.St} {H : Hp} {s : Shared} {a C dx : Addr} {fs : List (Str × V)}
theorem xat_inst0 (I : Inv X pins σ H s) (h : XAt H a C none) : ∃ ox, PySem.W.InstAt s.heap a ox C none := by
  obtain ⟨p, q, r⟩ := h
  obtain ⟨ox, e1, e2, e3, e4⟩ := r _ (show ObjOk X.prog X.w H s.heap a (.ext p) from I.hok a _ q).1
  exact ⟨ox, e1, e2, e4, by rw [e3]; trivial⟩
theorem fat_ns (I : Inv X pins σ H s) (h : FAt H dx fs) : ∃ mA, s.heap.Ns1 dx mA ∧ ∀ f, RelO (fs.lookup f) (mA f) := by
  rcases h with h | h
  · exact (show ObjOk X.prog X.w H s.heap dx (exd dx fs) from I.hok dx _ h).1
  · exact (show ObjOk X.prog X.w H s.heap dx (.xd fs) from I.hok dx _ h)
theorem xat_inst (I : Inv X pins σ H s) (h : XAt H a C (some dx)) (hf : FAt H dx fs) :
    ∃ ox od, PySem.W.InstAt s.heap a ox C (some od) ∧ ∃ mA : Str → Option Value, (∀ f, RelO (fs.lookup f) (mA f)) ∧ ∀ f, PySem.W.lookIn f od = some (mA f) := by
  obtain ⟨p, q, r⟩ := h
  obtain ⟨ox, e1, e2, e3, e4⟩ := r _ (show ObjOk X.prog X.w H s.heap a (.ext p) from I.hok a _ q).1
  obtain ⟨mA, hn, hr⟩ := fat_ns I hf
  obtain ⟨od, ho, hl⟩ := lookIn_ns hn
  exact ⟨ox, od, ⟨e1, e2, e4, by rw [e3]; exact ho⟩, mA, hr, hl⟩
end

/-- e.f of such an exception -/
def tXat (K : PySem.W.Frag) (f : Str) (te : TE) : TE := fun σ H Q => te σ H fun x H1 => ∃ (a C dx : Addr) (fs : List (Str × V)) (v : V),
  x = .ref a ∧ XAt H1 a C (some dx) ∧ FAt H1 dx fs ∧ ExcC K C ∧ PySem.W.findIn K (.ref C) f = some none ∧ fs.lookup f = some v ∧ Q v H1
theorem pe_xat {X : Cx} {e : Expr} {te : TE} {pos : Pos} {n : Str} (he : PE X e te) (hb : attributeBase e n X.env (eval e X.env) = eval e X.env := by rfl) :
    PE X (.Attribute e n pos) (tXat X.K n te) := by
  refine ⟨fun pins s σ H Q I h => attr_of hb (thn (he.run pins s σ H _ I h) fun u s1 hh => ?_)⟩
  obtain ⟨x, H1, I1, rx, a, C, dx, fs, v, ex, hx, hf, T, hno, l, q⟩ := hh
  subst ex
  obtain rfl : u = Value.ref a := rx
  obtain ⟨ox, od, J, mA, hr, hl⟩ := xat_inst I1 hx hf
  obtain ⟨u, hu, ru⟩ := RelO.some_of (v := v) (o := mA n) (by rw [← l]; exact hr n)
  exact HandSPX.exc_get I1.kIn J T.hg T.hk T.hs (PySem.W.findObj_own T.hd hno rfl (by rw [hl, hu])) (handed_of ru) ⟨v, H1, I1.tok _, ru, q⟩

/-- isinstance(e, c), one class, e an exception held -/
def rIsX (K : PySem.W.Frag) : List V → Hp → VK → Prop := fun xs H Q => ∃ (a C : Addr) (c : V) (u : Value) (b : Bool),
  xs = [.ref a, c] ∧ (XAt H a C none ∨ ∃ dx fs, XAt H a C (some dx) ∧ FAt H dx fs) ∧ ExcC K C ∧ ClsV c u ∧ PySem.W.kitOne K (.ref C) u = some b ∧ Q (.bl b) H
theorem call_isX {X : Cx} : CallR X (.builtin "isinstance") (rIsX X.K) := by
  intro pins s σ H xs us Q I r h
  obtain ⟨a, C, c, u, b, rfl, hx, T, k, e, q⟩ := h
  obtain ⟨u1, u2, rfl, r1, r2⟩ := vals2 r
  obtain rfl : u1 = Value.ref a := r1
  obtain rfl := k.eq r2
  have hcl : (PySem.W.clsIn X.K C).isSome = true := by
    obtain ⟨cd, hc, _⟩ := PySem.W.any_some T.hd
    rw [hc]
    rfl
  rcases hx with hx | ⟨dx, fs, hx, hf⟩
  · obtain ⟨ox, J⟩ := xat_inst0 I hx
    exact PySem.W.kia_one (PySem.W.kitx_exc hcl T.hg T.hk T.hs T.ha T.hn T.ht T.hm) I.kIn J e (fun z => nomatch z) fun tk => ⟨.bl b, H, I.tok tk, rfl, q⟩
  · obtain ⟨ox, od, J, _⟩ := xat_inst I hx hf
    exact PySem.W.kia_one (PySem.W.kitx_exc hcl T.hg T.hk T.hs T.ha T.hn T.ht T.hm) I.kIn J e (fun z => nomatch z) fun tk => ⟨.bl b, H, I.tok tk, rfl, q⟩

section
variable {X : Cx} {CX : CXT} {k : Nat} {fI C : Addr} {fd : FuncData} {ps ks : List Str} {sp : Sp} {dvs : List V} {ds : List Value} {E : XK} {x : Str} {p pos : Pos} {e : Expr} {es : List Expr} {kws : List Keyword} {t tk : TA}
  {g : List Value → List Value → List Value} {gV : List V → List V → List V}
theorem run_mk {pins : List (Addr × Obj)} {σ : L2.St} {H : Hp} {s : Shared} {Q : VK} {us bs : List Value} {kw : List (Str × Value)} {ys : List V}
    (T : OexC X.K C) (iC : PySem.W.findIn X.K (.ref C) "__init__" = some (some (.ref fI))) (tI : PySem.W.typeIn X.K (.ref fI) = some (.type "function"))
    (F : FnOk X.prog X.w X.K X.mg X.base CX k fI fd ps sp) (hr : Room (k + 1) X.A) (hx : Passes CX X E)
    (hb : ∀ (s : Shared) (self : Value), X.K.In s.heap → BindsTo s fd ⟨self :: us, kw⟩ (ps.zip (self :: bs))) (I : Inv X pins σ H s) (r : Vals ys bs)
    (hus : us.length ≤ sizeLine) (h : ∀ a, H a = none → sp (.ref a :: ys) (upd H a (exo a C none)) (fun v H2 => v = .non ∧ Q (.ref a) H2) E) :
    wpAny (model X.prog X.w) X.A (call (.ref C) us kw) (EP X pins σ Q) X.xe s := by
  obtain ⟨nm, q, N, bs', bm, sn, sub, ab, col, dd, k0, k1, k2, k3, k5, hC, hbm⟩ := T.cls
  obtain ⟨hp, g, dr, tk, os⟩ := s
  have hsz : hp.objs.size ≤ hp.objs.size + 1 := Nat.le_succ _
  have hn : H (hp.objs.size + 1) = none := I.hok.fresh hsz
  have kk : ∀ b o, hp.get? b = some o → ((hp.push (PySem.W.kdv_tup us)).push (PySem.HandSPX.excO C hp.objs.size)).get? b = some o :=
    fun b o e => Heap.get?_push_of_some _ (Heap.get?_push_of_some _ e)
  have hget : ((hp.push (PySem.W.kdv_tup us)).push (PySem.HandSPX.excO C hp.objs.size)).get? (hp.objs.size + 1) = some (PySem.HandSPX.excO C hp.objs.size) := by
    heap_get
  have I2 : Inv X pins σ (upd H (hp.objs.size + 1) (exo (hp.objs.size + 1) C none)) ⟨(hp.push (PySem.W.kdv_tup us)).push (PySem.HandSPX.excO C hp.objs.size), g, dr, tk, os⟩ :=
    I.laid (t' := tk) (a := hp.objs.size + 1) (o := exo (hp.objs.size + 1) C none) kk hsz (exo_ok hget)
  refine wpAny_call (PySem.KxP.callKw PySem.F.excBase_ValueError (fun Y => PySem.HandSPX.refsVE_contains Y bm hbm) (I.kIn _ _ hC) (PySem.W.looks_findIn I.kIn iC)
    (fun self => PySem.W.bind_fn I.kIn self tI) hus (codeAny_mono (F.run _ X.stack _ _ ⟨Value.ref (hp.objs.size + 1) :: us, kw⟩ (Value.ref (hp.objs.size + 1) :: bs) (V.ref (hp.objs.size + 1) :: ys) _ E
      (hr.make C us kw) (I2.env0.make C us kw) (hb _ _ I2.kIn) (.cons rfl r) (h _ hn)) fun r s' hq' => ?_))
  cases r with
  | error e => exact hx pins σ _ _ e s' I2 hq'
  | ok fl =>
    cases fl with
    | ret u =>
      obtain ⟨v, H', I3, rv, ev, q3⟩ := I2.after hq'
      subst ev
      exact ⟨rv, ⟨V.ref (hp.objs.size + 1), H', I3, rfl, q3⟩⟩
    | next => exact False.elim hq'
    | brk => exact False.elim hq'
    | cont => exact False.elim hq'
/-- C(e, ..) as a value -/
def tMkV (C : Addr) (sp : Sp) (dvs : List V) (E : XK) (ta : TA) : TE := fun σ H Q => ta σ H fun vs H1 => vs.length ≤ 1000 ∧
  ∀ a, H1 a = none → sp (.ref a :: (vs ++ dvs)) (upd H1 a (exo a C none)) (fun v H2 => v = .non ∧ Q (.ref a) H2) E
theorem pe_mkV (T : OexC X.K C) (iC : PySem.W.findIn X.K (.ref C) "__init__" = some (some (.ref fI))) (tI : PySem.W.typeIn X.K (.ref fI) = some (.type "function"))
    (F : FnOk X.prog X.w X.K X.mg X.base CX k fI fd ps sp) (hr : Room (k + 1) X.A) (hg : Gl X x) (hm : X.mg x = some (.ref C)) (hb : Binds X.K fd ps ds) (hd : Vals dvs ds) (hx : Passes CX X E)
    (ha : PA X (e :: es) t) (hdb : (x == ("__debug__" : Str)) = false := by decide) (he : starEach (e :: es) X.env = (false, eval e X.env) :: starEach es X.env := by rfl)
    (hpl : (backTo pos (starEach es X.env)).any (·.1) = false := by rfl) : PE X (.Call (.Name x p) (e :: es) [] pos) (tMkV C sp dvs E t) := by
  refine ⟨fun pins s σ H Q I h => wpAny_Call_Name_kw (ld_glob I hg hm (PySem.W.callWith_K (h₀ := X.base) I.ok.mod.kin T.kC
    (thn (ha.run pos pins s σ H _ I h) fun us s1 ⟨vs, H1, I1, r, hz, q⟩ => ⟨I1.kIn, ?_⟩) he hpl) hdb)⟩
  have hus : us.length ≤ sizeLine := by
    rw [← Paired.length r, sizeLine_eq]
    omega
  have r2 := r.append hd
  refine run_mk (us := us) (kw := []) (bs := us ++ ds) T iC tI F hr hx (fun s' self hs => hb s' (self :: us) hs ?_) I1 r2 hus q
  have hl := F.len _ _ _ _ (q s1.heap.objs.size (I1.hok.fresh (Nat.le_refl _)))
  rw [List.length_append, List.length_cons, ← hl, List.length_cons, ← r2.length.symm, List.length_append]
  omega
theorem pe_mkV0 (T : OexC X.K C) (iC : PySem.W.findIn X.K (.ref C) "__init__" = some (some (.ref fI))) (tI : PySem.W.typeIn X.K (.ref fI) = some (.type "function"))
    (F : FnOk X.prog X.w X.K X.mg X.base CX k fI fd ps sp) (hr : Room (k + 1) X.A) (hg : Gl X x) (hm : X.mg x = some (.ref C)) (hb : Binds X.K fd ps ds) (hd : Vals dvs ds) (hx : Passes CX X E)
    (hdb : (x == ("__debug__" : Str)) = false := by decide) : PE X (.Call (.Name x p) [] [] pos) (tMkV C sp dvs E tNil) := by
  refine ⟨fun pins s σ H Q I ⟨_, h⟩ => wpAny_Call_Name_kw (ld_glob I hg hm (PySem.W.callWith_K0 I.kIn T.kC ?_) hdb)⟩
  refine run_mk (us := []) (kw := []) (bs := ds) T iC tI F hr hx (fun s' self hs => hb s' [self] hs ?_) I hd (Nat.zero_le _) h
  have hl := F.len _ _ _ _ (h _ (I.hok.fresh (Nat.le_refl _)))
  have hq := hd.length
  rw [List.length_append, ← hl]
  show 1 + ds.length = ([] ++ dvs).length + 1
  rw [List.nil_append, hq]
  omega
/-- C(k = v): one keyword -/
def tMkK (C : Addr) (sp : Sp) (E : XK) (tk : TA) : TE := fun σ H Q => tk σ H fun zs H1 =>
  ∀ a, H1 a = none → sp (.ref a :: zs) (upd H1 a (exo a C none)) (fun v H2 => v = .non ∧ Q (.ref a) H2) E
theorem pe_mkK (T : OexC X.K C) (iC : PySem.W.findIn X.K (.ref C) "__init__" = some (some (.ref fI))) (tI : PySem.W.typeIn X.K (.ref fI) = some (.type "function"))
    (F : FnOk X.prog X.w X.K X.mg X.base CX k fI fd ps sp) (hr : Room (k + 1) X.A) (hg : Gl X x) (hm : X.mg x = some (.ref C)) (hx : Passes CX X E)
    (hb : ∀ (s : Shared) (self : Value) (ws : List Value), X.K.In s.heap → ws.length = ks.length → BindsTo s fd ⟨[self], ks.zip ws⟩ (ps.zip (self :: ws)))
    (hkw : PK X kws tk) (hps : ps.length = ks.length + 1) (hall : (backToKw pos (keywordEach kws X.env)).all (·.1.isSome) = true := by rfl) (hks : (backToKw pos (keywordEach kws X.env)).filterMap (·.1) = ks := by rfl)
    (hdb : (x == ("__debug__" : Str)) = false := by decide) (hpl : ((backTo pos (starEach [] X.env)).any (·.1) || (backToKw pos (keywordEach kws X.env)).any (·.1.isNone)) = false := by rfl)
    : PE X (.Call (.Name x p) [] kws pos) (tMkK C sp E tk) := by
  refine ⟨fun pins s σ H Q I h => wpAny_Call_Name_kw (ld_glob I hg hm (PySem.W.callWith_KW0 (h₀ := X.base) I.ok.mod.kin T.kC hall
    (thn (hkw.run pos pins s σ H _ I h) fun ws s1 ⟨zs, H1, I1, r, q⟩ => ⟨I1.kIn, ?_⟩) hpl) hdb)⟩
  rw [hks]
  have hl := F.len _ _ _ _ (q _ (I1.hok.fresh (Nat.le_refl _)))
  refine run_mk (us := []) (bs := ws) T iC tI F hr hx (fun s' self hs => hb s' self ws hs ?_) I1 r (Nat.zero_le _) q
  rw [← r.length]
  rw [List.length_cons, hps] at hl
  omega
end
end Kx

set_option Elab.async false
set_option maxRecDepth 100000
set_option linter.all false
set_option maxHeartbeats 4000000
/-! KitE: own exception classes with one field that an __init__ sets from a default None; big powers; evaluation words. -/
namespace Kx
open PySem PySem.Spec PyProof.Rows L2 Evl

theorem op_powB {X : Cx} : OpR X (binaryOp .Pow) (rI (fun i j => 0 ≤ j ∧ (Builtin.Int.intBits i : Int) * j ≤ 2 ^ 27) fun i j => .int (i ^ j.toNat)) :=
  opI fun _ _ _ _ _ _ _ hc q => pow_int hc.1 hc.2 q
theorem same_ex {H H' : Hp} (e : Ex H H') : Same H H' := e
theorem ex_same {H H' : Hp} (e : Same H H') : Ex H H' := e

/-! ### an __init__ that sets one field -/
def spXI (C : Addr) (f : Str) : Sp := fun vs H Q _ => ∃ (a : Addr) (v : V), vs = [.ref a, v] ∧ H a = some (exo a C none) ∧
  ∀ d, H d = none → d ≠ a → Q .non (upd (upd H d (exd d [(f, v)])) a (exo a C (some d)))
section
variable {P : Program} {w : World} {K : PySem.W.Frag} {mg : Str → Option Value} {base : Heap}
theorem ok_XI {C fI : Addr} {fd : FuncData} {qual f : Str} {pa : Arguments} {bd : List Stmt} {sc : Scope} {p1 p2 p3 p4 : Pos}
    (F : FunD K "__init__" qual pa bd sc [V.non] [] fI fd) (S : FnScope ["self", f] ["self", f] sc)
    (hb : bd = [.Assign [.Attribute (.Name "self" p1) f p2] (.Name f p3) p4]) (T : OexC K C) (hno : PySem.W.findIn K (.ref C) f = some none)
    (v0 : Vis sc "self") (v1 : Vis sc f) (n1 : (f == ("__debug__" : Str)) = false) (n2 : (f == ("__classdict__" : Str)) = false)
    (hs : ∀ env : Env, swapsWith (.Name f p3) (some (.Attribute (.Name "self" p1) f p2)) p4.line env = pure false) :
    FnOk P w K mg base CX0 1 fI fd ["self", f] (spXI C f) := by
  refine F.ok (CX := CX0) S (fun vs H Q E h => ?_) (fun cdv A outer s H vs Q E hr h => ?_)
  · obtain ⟨a, v, rfl, _⟩ := h
    rfl
  · obtain ⟨a, v, rfl, ha, k⟩ := h
    subst hb
    refine ⟨_, PSs.nox (pss_one (ps_ost (pe_var (i := 0) rfl v0) (pe_var (i := 1) rfl v1 n1 n2) (hs _))), ?_⟩
    exact ⟨_, rfl, _, rfl, a, C, rfl, T, hno, .inl ⟨ha, fun d hd hne => k d hd hne⟩⟩
end

/-- an own exception class of the text whose __init__ sets the field f -/
structure XCls (P : Program) (w : World) (K : PySem.W.Frag) (mg : Str → Option Value) (x f : Str) (C fI : Addr) (fd : FuncData) : Prop where
  mgC : mg x = some (.ref C)
  o : OexC K C
  e : ExcC K C
  no : PySem.W.findIn K (.ref C) f = some none
  iC : PySem.W.findIn K (.ref C) "__init__" = some (some (.ref fI))
  tI : PySem.W.typeIn K (.ref fI) = some (.type "function")
  b2 : Binds K fd ["self", f] []
  b1 : ∃ ds, Vals [V.non] ds ∧ Binds K fd ["self", f] ds
  bk : ∀ (s : Shared) (self : Value) (ws : List Value), K.In s.heap → ws.length = 1 → BindsTo s fd ⟨[self], ([f] : List Str).zip ws⟩ ((["self", f] : List Str).zip (self :: ws))
  fn : ∀ base : Heap, FnOk P w K mg base CX0 1 fI fd ["self", f] (spXI C f)

/-- e is an exception of the class at C with the field f holding v -/
def XV (H : Hp) (e C : Addr) (f : Str) (v : V) : Prop := ∃ d, H e = some (exo e C (some d)) ∧ H d = some (exd d [(f, v)])
theorem XV.mono {H H' : Hp} {e C : Addr} {f : Str} {v : V} (x : Same H H') (h : XV H e C f v) : XV H' e C f v :=
  let ⟨d, a, b⟩ := h
  ⟨d, x _ _ a, x _ _ b⟩
theorem XV.xat {H : Hp} {e C : Addr} {f : Str} {v : V} (h : XV H e C f v) : ∃ dx fs, XAt H e C (some dx) ∧ FAt H dx fs :=
  let ⟨d, a, b⟩ := h
  ⟨d, _, xat_exo a, .inl b⟩
/-- a new exception with its field: what was there stays -/
theorem xv_made {H : Hp} {C a d : Addr} {f : Str} {v : V} (ha : H a = none) (hd : (upd H a (exo a C none)) d = none) (hne : d ≠ a) :
    Same H (upd (upd (upd H a (exo a C none)) d (exd d [(f, v)])) a (exo a C (some d))) ∧ XV (upd (upd (upd H a (exo a C none)) d (exd d [(f, v)])) a (exo a C (some d))) a C f v := by
  refine ⟨fun b o e => ?_, d, upd_same, by rw [upd_ne hne]; exact upd_same⟩
  have h1 : b ≠ a := ne_of_none e ha
  have h2 : b ≠ d := fun z => by
    rw [← z, upd_ne h1, e] at hd
    cases hd
  rw [upd_ne h1, upd_ne h2, upd_ne h1]
  exact e

section
variable {X : Cx} {fI C : Addr} {fd : FuncData} {x f : Str} {p pos : Pos}
/-- C(e), C(), C(f = e) of such a class, telling only that it holds the field -/
def tXV (C : Addr) (f : Str) (te : TE) : TE := fun σ H Q => te σ H fun v H1 => ∀ a H2, H1 a = none → Same H1 H2 → XV H2 a C f v → Q (.ref a) H2
theorem PE.imp {e : Expr} {t t' : TE} (h : PE X e t) (k : ∀ σ H Q, t' σ H Q → t σ H Q) : PE X e t' := ⟨fun pins s σ H Q I q => h.run pins s σ H Q I (k σ H Q q)⟩
theorem pe_xv1 {e : Expr} {te : TE} (T : XCls X.prog X.w X.K X.mg x f C fI fd) (hr : Room 2 X.A) (hg : Gl X x) (he : PE X e te)
    (hm : ∀ σ H (Q Q' : VK), (∀ v H1, Q v H1 → Q' v H1) → te σ H Q → te σ H Q')
    (hdb : (x == ("__debug__" : Str)) = false := by decide) (hs : starEach [e] X.env = (false, eval e X.env) :: starEach [] X.env := by rfl)
    (hpl : (backTo pos (starEach [] X.env)).any (·.1) = false := by rfl) : PE X (.Call (.Name x p) [e] [] pos) (tXV C f te) := by
  refine PE.imp (pe_mkV T.o T.iC T.tI (T.fn X.base) hr hg T.mgC T.b2 .nil pass0 (pa_cons he pa_nil hs) hdb hs hpl) fun σ H Q q => ?_
  refine hm σ H _ _ (fun v H1 k => ?_) q
  refine ⟨by show 1 ≤ 1000; decide, fun a ha => ⟨a, v, rfl, upd_same, fun d hd hne => ⟨rfl, ?_⟩⟩⟩
  obtain ⟨h1, h2⟩ := xv_made (f := f) (v := v) ha hd hne
  exact k a _ ha h1 h2
theorem pe_xv0 (T : XCls X.prog X.w X.K X.mg x f C fI fd) (hr : Room 2 X.A) (hg : Gl X x) (hdb : (x == ("__debug__" : Str)) = false := by decide) :
    PE X (.Call (.Name x p) [] [] pos) (tXV C f (tC .non)) := by
  obtain ⟨ds, hd, hb⟩ := T.b1
  refine PE.imp (pe_mkV0 T.o T.iC T.tI (T.fn X.base) hr hg T.mgC hb hd pass0 hdb) fun σ H Q q => ?_
  refine ⟨Nat.zero_le _, fun a ha => ⟨a, .non, rfl, upd_same, fun d hd hne => ⟨rfl, ?_⟩⟩⟩
  obtain ⟨h1, h2⟩ := xv_made (f := f) (v := .non) ha hd hne
  exact q a _ ha h1 h2
theorem pe_xvk {e : Expr} {te : TE} {kp : Pos} (T : XCls X.prog X.w X.K X.mg x f C fI fd) (hr : Room 2 X.A) (hg : Gl X x) (he : PE X e te)
    (hm : ∀ σ H (Q Q' : VK), (∀ v H1, Q v H1 → Q' v H1) → te σ H Q → te σ H Q')
    (hall : (backToKw pos (keywordEach [⟨some f, e, kp⟩] X.env)).all (·.1.isSome) = true := by rfl) (hks : (backToKw pos (keywordEach [⟨some f, e, kp⟩] X.env)).filterMap (·.1) = [f] := by rfl)
    (hdb : (x == ("__debug__" : Str)) = false := by decide) (hpl : ((backTo pos (starEach [] X.env)).any (·.1) || (backToKw pos (keywordEach [⟨some f, e, kp⟩] X.env)).any (·.1.isNone)) = false := by rfl) :
    PE X (.Call (.Name x p) [] [⟨some f, e, kp⟩] pos) (tXV C f te) := by
  refine PE.imp (pe_mkK (ks := [f]) T.o T.iC T.tI (T.fn X.base) hr hg T.mgC pass0 T.bk (pk_cons he pk_nil) rfl hall hks hdb hpl) fun σ H Q q => ?_
  refine hm σ H _ _ (fun v H1 k => ?_) q
  refine fun a ha => ⟨a, v, rfl, upd_same, fun d hd hne => ⟨rfl, ?_⟩⟩
  obtain ⟨h1, h2⟩ := xv_made (f := f) (v := v) ha hd hne
  exact k a _ ha h1 h2
/-- C() of an own exception class without own __init__ -/
theorem pe_exc0 {bmB : List Value} {B newId initId : String} (F : ExcBaseFacts B newId initId bmB) (q : PySem.W.excIn X.K C bmB newId = true) (gC : X.mg x = some (.ref C)) (kC : PySem.W.keepIn X.K (.ref C) = true) (hg : Gl X x)
    (hdb : (x == ("__debug__" : Str)) = false := by decide) : PE X (.Call (.Name x p) [] [] pos) (fun σ H Q => ∀ a, H a = none → Q (.ref a) (upd H a (ExO (.ref C) a))) := by
  refine ⟨fun pins s σ H Q I h => wpAny_Call_Name_kw (ld_glob I hg gC (PySem.W.callWith_K0 I.kIn kC ?_) hdb)⟩
  show wpAny _ _ (call (.ref C) []) _ _ _
  obtain ⟨bm, N, nm, qn, bs, hdct, sn, sub, ab, col, dd, k0, k1, k2, k3, k5, mN, hC, hN, hni, T⟩ := exc_obj I.kIn q
  refine wpAny_call_exc_subT F T hC hN hni (fun h' a hm => ?_) (Nat.zero_le _)
  have hn : H a = none := I.hok.gone hm.new
  obtain ⟨t, ht, _, _⟩ := hm.there
  exact ⟨.ref a, upd H a (ExO (.ref C) a), I.laidN hm.keeps hm.new hn (exO_ok ht ⟨rfl, rfl⟩ rfl rfl rfl (show 4 < 6 by decide)), rfl, h a hn⟩
end
theorem xat_ExO {H : Hp} {a C : Addr} (h : H a = some (ExO (.ref C) a)) : XAt H a C none :=
  ⟨_, h, fun _ ⟨oe, vs, e, z, d, _⟩ => ⟨oe, e, z.1, z.2, by unfold PySem.W.notCls; rw [d]⟩⟩
end Kx

set_option Elab.async false
set_option maxRecDepth 100000
set_option linter.all false
set_option maxHeartbeats 4000000
/-! KitHd: the head by one run of the top in the kernel; what a law's end leans on as data (defs by names) and one Bool. -/
namespace Kx
open PySem PySem.Spec PyProof.Rows L2 Evl
abbrev AlX : Type := He.AlD × Bool
def obsK (fa : List He.Fa) (fn : List He.DefD) (chk : PySem.W.Frag → Bool) (K : PySem.W.Frag) : AlX := (He.obsD fa fn K, chk K)
def obsX (n : Nat) (fa : List He.Fa) (fn : List He.DefD) (chk : PySem.W.Frag → Bool) (g : Addr → Option Obj) : AlX := obsK fa fn chk (He.frG g (He.asD g n))
structure SaysX (fa : List He.Fa) (fn : List He.DefD) (chk : PySem.W.Frag → Bool) (K : PySem.W.Frag) : Prop where
  d : He.SaysD fa fn K
  c : chk K = true
def hookX (n : Nat) (fa : List He.Fa) (fn : List He.DefD) (chk : PySem.W.Frag → Bool) : PySem.W.Hook where
  α := AlX
  obs := fun s => obsX n fa fn chk s.heap.get?
  val := fun _ => (He.valD fn, true)
  says := fun _ h => ∃ K : PySem.W.Frag, K.In h ∧ SaysX fa fn chk K
  of := fun _ _ e => ⟨_, He.frG_in, ⟨congrArg (fun z : AlX => z.1) e, congrArg (fun z : AlX => z.2) e⟩⟩
  keeps := fun _ _ _ ⟨K, hK, c⟩ k => ⟨K, PySem.W.Frag.In.keeps hK k, c⟩
theorem obsX_eq {n : Nat} {fa : List He.Fa} {fn : List He.DefD} {chk : PySem.W.Frag → Bool} {g : Addr → Option Obj} {s : Shared} (h : ∀ a, g a = s.heap.get? a) : obsX n fa fn chk g = (hookX n fa fn chk).obs s := by
  have e : g = s.heap.get? := funext h
  rw [e] <;> rfl
/-- .. the part of the heap told by its addresses -/
def obsL (as : List Addr) (fa : List He.Fa) (fn : List He.DefD) (chk : PySem.W.Frag → Bool) (g : Addr → Option Obj) : AlX := obsK fa fn chk (He.frG g as)
def hookL (as : List Addr) (fa : List He.Fa) (fn : List He.DefD) (chk : PySem.W.Frag → Bool) : PySem.W.Hook where
  α := AlX
  obs := fun s => obsL as fa fn chk s.heap.get?
  val := fun _ => (He.valD fn, true)
  says := fun _ h => ∃ K : PySem.W.Frag, K.In h ∧ SaysX fa fn chk K
  of := fun _ _ e => ⟨_, He.frG_in, ⟨congrArg (fun z : AlX => z.1) e, congrArg (fun z : AlX => z.2) e⟩⟩
  keeps := fun _ _ _ ⟨K, hK, c⟩ k => ⟨K, PySem.W.Frag.In.keeps hK k, c⟩
theorem obsL_eq {as : List Addr} {fa : List He.Fa} {fn : List He.DefD} {chk : PySem.W.Frag → Bool} {g : Addr → Option Obj} {s : Shared} (h : ∀ a, g a = s.heap.get? a) : obsL as fa fn chk g = (hookL as fa fn chk).obs s := by
  have e : g = s.heap.get? := funext h
  rw [e] <;> rfl
theorem funD_fun {K : PySem.W.Frag} {x q : Str} {st : Stmt} {f : Addr} {fd : FuncData} (F : FunD K x q (defArgs st) (defBody st) (defScope st) [] [] f fd) : Fun K x q st f fd := by
  obtain ⟨⟨oc, od, dV, kV, doc, pm, an, cdv, ct, osl, rfl, lk, hcd, hD, hK⟩, kp⟩ := F
  rcases hD with ⟨_, rfl⟩ | ⟨e, _⟩
  · exact ⟨⟨oc, od, kV, doc, pm, an, cdv, ct, osl, rfl, lk, hcd⟩, kp⟩
  · exact absurd rfl e
/-- a law: what the Hook says gives the written part, the law's def, its promise -/
theorem walk_GE {l : PySem.W.OpenLaw} {n k : Nat} {q : Program} {loose : List Str} {XP : (Str → Option Value) → Heap → Prop}
    {YP : World → Heap → Prop} {d : PySem.DefRec} {CX : World → CXT} {x : Str}
    (hn : l.most = some n) (hn2 : n ≤ sizeLine) (hdf : d.params.defaults = []) (hr : Room k callerA) (hq : importsNone q = true)
    (F : ∀ (w : World) (mg : Str → Option Value) (fa : Addr) (h : Heap), YP w h → h.Ns mainGlobals mg → mg d.name = some (.ref fa) →
      ∃ (K : PySem.W.Frag) (fd : FuncData) (sp : Sp), K.In h ∧ K.lookup sysModules = none ∧ (∀ (s : Shared) (u : Value), BindsTo s fd ⟨[u], []⟩ [(x, u)]) ∧
        (∀ (H : Hp) (a : Addr) (ns : List Int), ns.length ≤ n → (∀ z ∈ ns, Builtin.Int.intBits z ≤ 1048576) → Sys H → SqL K H a (ns.map V.int) → sp [.ref a] H (fun v _ => v = .bl true) fun _ _ _ => False) ∧
        ∀ base : Heap, K.In base → base.Ns mainGlobals mg → GnOk l.prog w K mg base (CX w) k fa fd [x] sp)
    (hCX : ∀ (w : World) (H : Hp) (s : Shared) (e : Value) (s' : Shared), CX w [] H s (fun _ _ _ => False) e s' → False) :
    PySem.W.WalkO q loose XP YP l.row.toRowW d [] (fun f vs => PySem.call f vs) := by
  refine Att.attach_callB hn hdf fun w s₀ s₁ mg mb fa o pm cd doc a vs ns G Y ho hd hcd hmg hobj hints hlen hbits hg => ?_
  obtain ⟨K, fd, sp, KX, hK1, hb, hsp, hF⟩ := F w mg fa _ Y G.T.g hmg
  exact law_callG KX G.T.g G.T.b G.T.builtins G.T.nolimit hg (let ⟨mm, a, _⟩ := (G.T.seer hq).mods; ⟨mm, a⟩) hK1 hobj hints (Nat.le_trans hlen hn2) hr hF hb
    (fun H hS hQ => hsp H a ns hlen hbits hS hQ) fun H e s' => hCX w H s₁ e s'

/-! ### own exception classes, by a Bool -/
def exB (K : PySem.W.Frag) (C : Addr) : Bool :=
  decide (PySem.W.findIn K (.ref C) "__getattribute__" = some (some (.builtin "BaseException.__getattribute__"))) && decide (PySem.W.findIn K (.ref C) "__getattr__" = some none) &&
    decide (PySem.W.subIn K (.ref C) (.type "BaseException") = some true) && PySem.W.hasDictIn K C && decide (PySem.W.findIn K (.ref C) "__class__" = some (some (.builtin "object.__class__"))) &&
    decide (PySem.W.specialIn K (.builtin "object.__class__") "__get__" = some (some (.builtin "getset_descriptor.__get__"))) && decide (PySem.W.takesIn K (.builtin "object.__class__") = some true) &&
    decide (PySem.W.mroIn K C (.type "object") = some true) && decide (PySem.W.findIn K (.ref C) "__setattr__" = some (some (.builtin "object.__setattr__"))) && decide (PySem.W.typeIn K (.ref C) = some (.type "type")) && PySem.W.keepIn K (.ref C)
theorem exB_ok {K : PySem.W.Frag} {C : Addr} (h : exB K C = true) : ExcC K C ∧ PySem.W.findIn K (.ref C) "__setattr__" = some (some (.builtin "object.__setattr__")) ∧ PySem.W.typeIn K (.ref C) = some (.type "type") ∧ PySem.W.keepIn K (.ref C) = true := by
  unfold exB at h
  simp only [Bool.and_eq_true, decide_eq_true_eq] at h
  obtain ⟨⟨⟨⟨⟨⟨⟨⟨⟨⟨h1, h2⟩, h3⟩, h4⟩, h5⟩, h6⟩, h7⟩, h8⟩, h9⟩, h10⟩, h11⟩ := h
  exact ⟨⟨h1, h2, h3, h4, h5, h6, h7, h8⟩, h9, h10, h11⟩
def exFm (K : PySem.W.Frag) (C : Addr) : Bool := match K.lookup C with
  | some ⟨.type "type", _, .cls cd, sl⟩ => (match cd.mro, sl.toList with
    | .ref C' :: bm, [_, _, _, _, some (.builtin n), _] => C' == C && (n == "ValueError.__new__" && (!cd.hasDel && (cd.hasDict && PySem.HandSPX.refsVE bm)))
    | _, _ => false)
  | _ => false
theorem exFm_ok {K : PySem.W.Frag} {C : Addr} (q : exFm K C = true) : ∃ nm q N bs bm sn sub ab col dd k0 k1 k2 k3 k5, K.lookup C = some (excClassObj nm q C N bs bm true sn sub ab col dd k0 k1 k2 k3 k5 "ValueError.__new__") ∧ PySem.HandSPX.refsVE bm = true := by
  unfold exFm at q
  split at q
  · rename_i dd cd sl ho
    split at q
    · rename_i C' bm k0 k1 k2 k3 n k5 hm hs
      simp only [Bool.and_eq_true, beq_iff_eq, Bool.not_eq_true'] at q
      obtain ⟨rfl, rfl, hdel, hdc, ht⟩ := q
      obtain ⟨nm, bs, mro, ns, qn, hd, sn, sub, ab, col, del⟩ := cd
      dsimp only at hm hdel hdc
      subst hm hdel hdc
      have hsl : sl = #[k0, k1, k2, k3, some (.builtin "ValueError.__new__"), k5] := by
        obtain ⟨l⟩ := sl
        simp only at hs
        rw [hs]
      subst hsl
      exact ⟨nm, qn, ns, bs, bm, sn, sub, ab, col, dd, k0, k1, k2, k3, k5, ho, ht⟩
    · cases q
  · cases q
/-- all that is asked of an own exception class with one field -/
def exAll (K : PySem.W.Frag) (x : Str) (f : Str) : Bool :=
  exFm K (He.ga K x) && exB K (He.ga K x) && decide (PySem.W.findIn K (.ref (He.ga K x)) "__init__" = some (some (.ref (He.ma K (He.ga K x) "__init__")))) && decide (PySem.W.typeIn K (.ref (He.ma K (He.ga K x) "__init__")) = some (.type "function")) &&
    decide (PySem.W.findIn K (.ref (He.ga K x)) f = some none)
theorem xcls_of {P : Program} {w : World} {K : PySem.W.Frag} {mg : Str → Option Value} {x f qual : Str} {st : Stmt} {fd : FuncData} {p1 p2 p3 p4 : Pos}
    (aC : mg x = some (.ref (He.ga K x))) (q : exAll K x f = true) (F : FunD K "__init__" qual (defArgs st) (defBody st) (defScope st) [V.non] [] (He.ma K (He.ga K x) "__init__") fd)
    (S : FnScope ["self", f] ["self", f] (defScope st)) (hb : defBody st = [.Assign [.Attribute (.Name "self" p1) f p2] (.Name f p3) p4])
    (v0 : Vis (defScope st) "self") (v1 : Vis (defScope st) f) (n1 : (f == ("__debug__" : Str)) = false) (n2 : (f == ("__classdict__" : Str)) = false)
    (hs : ∀ env : Env, swapsWith (.Name f p3) (some (.Attribute (.Name "self" p1) f p2)) p4.line env = pure false)
    (B2 : ∀ (T : Addr) (kV doc pm : Value) (an : Option Addr) (cdv ct : Value) (us its : List Value), us.length = 2 → its.length = 1 → ∃ k, bindArgs (PySem.W.fnOf "__init__" qual (defArgs st) (defBody st) (defScope st) (.ref T) kV doc pm an cdv ct) ⟨us, []⟩ = seqItems? (.ref T) >>= k ∧ k (some its.toArray) = pure ((["self", f] : List Str).zip (us ++ its.drop 1)))
    (B1 : ∀ (T : Addr) (kV doc pm : Value) (an : Option Addr) (cdv ct : Value) (us its : List Value), us.length = 1 → its.length = 1 → ∃ k, bindArgs (PySem.W.fnOf "__init__" qual (defArgs st) (defBody st) (defScope st) (.ref T) kV doc pm an cdv ct) ⟨us, []⟩ = seqItems? (.ref T) >>= k ∧ k (some its.toArray) = pure ((["self", f] : List Str).zip (us ++ its.drop 0)))
    (BK : ∀ (T : Addr) (kV doc pm : Value) (an : Option Addr) (cdv ct : Value) (us its ws : List Value), us.length = 1 → its.length = 1 → ws.length = 1 → ∃ k, bindArgs (PySem.W.fnOf "__init__" qual (defArgs st) (defBody st) (defScope st) (.ref T) kV doc pm an cdv ct) ⟨us, ([f] : List Str).zip ws⟩ = seqItems? (.ref T) >>= k ∧ k (some its.toArray) = pure ((["self", f] : List Str).zip (us ++ ws))) :
    XCls P w K mg x f (He.ga K x) (He.ma K (He.ga K x) "__init__") fd := by
  unfold exAll at q
  simp only [Bool.and_eq_true, decide_eq_true_eq] at q
  obtain ⟨⟨⟨⟨q1, q2⟩, q3⟩, q4⟩, q5⟩ := q
  obtain ⟨e1, e2, e3, e4⟩ := exB_ok q2
  have O : OexC K (He.ga K x) := ⟨exFm_ok q1, e2, e1.hs, e3, e4⟩
  have fn : ∀ base : Heap, FnOk P w K mg base CX0 1 (He.ma K (He.ga K x) "__init__") fd ["self", f] (spXI (He.ga K x) f) := fun base => ok_XI (p1 := p1) (p2 := p2) (p3 := p3) (p4 := p4) F S hb O q5 v0 v1 n1 n2 hs
  obtain ⟨⟨oc, od, dV, kV, doc, pm, an, cdv, ct, osl, rfl, l, c, hD, hK⟩, kp⟩ := F
  rcases hD with ⟨e, _⟩ | ⟨_, T, o, its, n, rfl, tl, to, vi⟩
  · cases e
  cases vi with
  | @cons v u vs us r rr =>
  cases rr
  cases (show u = Value.none from r)
  have lk : ∀ (us : List Value) (kw : List (Str × Value)) (binds : List (Str × Value)), (∃ k, bindArgs (PySem.W.fnOf "__init__" qual (defArgs st) (defBody st) (defScope st) (.ref T) kV doc pm an cdv ct) ⟨us, kw⟩ = seqItems? (.ref T) >>= k ∧ k (some #[Value.none]) = pure binds) →
      ∀ s : Shared, K.In s.heap → BindsTo s (PySem.W.fnOf "__init__" qual (defArgs st) (defBody st) (defScope st) (.ref T) kV doc pm an cdv ct) ⟨us, kw⟩ binds := fun us kw binds ⟨k, q1, q2⟩ s hs => BindsTo.of_looks fun M => by
    rw [q1]
    exact looks_items hs tl to (.of_pure q2)
  refine ⟨aC, O, e1, q5, q3, q4, fun s us hs hl => ?_, ⟨[Value.none], .cons rfl .nil, fun s us hs hl => ?_⟩, fun s self ws hs hl => ?_, fn⟩
  · rw [List.append_nil] at hl ⊢
    have q := B2 T kV doc pm an cdv ct us [Value.none] hl rfl
    rw [show us ++ List.drop 1 [Value.none] = us from List.append_nil us] at q
    exact lk us [] _ q s hs
  · have hl' : us.length = 1 := by
      rw [List.length_append] at hl
      have h2 : us.length + 1 = 2 := hl
      omega
    exact lk us [] _ (B1 T kV doc pm an cdv ct us [Value.none] hl' rfl) s hs
  · exact lk [self] _ _ (BK T kV doc pm an cdv ct [self] [Value.none] ws rfl rfl hl) s hs
/-! ### an own class whose instances are made, asked and compared -/
def tysB : List String := ["NoneType", "bool", "int", "str", "list", "tuple", "dict"]
def clsB (K : PySem.W.Frag) (x : Str) : Bool :=
  let C := He.ga K x
  PySem.W.plainGet K C Str.empty && PySem.W.hasDictIn K C && PySem.W.plainOver K C && decide (PySem.W.findIn K (.ref C) "__setattr__" = some (some (.builtin "object.__setattr__"))) &&
    decide (PySem.W.findIn K (.ref C) "__class__" = some (some (.builtin "object.__class__"))) && decide (PySem.W.specialIn K (.builtin "object.__class__") "__get__" = some (some (.builtin "getset_descriptor.__get__"))) && decide (PySem.W.takesIn K (.builtin "object.__class__") = some true) && decide (PySem.W.mroIn K C (.type "object") = some true) &&
    (tysB.all fun T => decide (PySem.W.kitOne K (.type T) (.ref C) = some false)) && (tysB.all fun T => decide (PySem.W.subIn K (.ref C) (.type T) = some false)) && (tysB.all fun T => PySem.W.notFirst K C (.type T)) && PySem.W.notFirst K C (.ref C)
structure ClsB (K : PySem.W.Frag) (C : Addr) : Prop where
  cl : Cls K C
  ha : PySem.W.findIn K (.ref C) "__class__" = some (some (.builtin "object.__class__"))
  hn : PySem.W.specialIn K (.builtin "object.__class__") "__get__" = some (some (.builtin "getset_descriptor.__get__"))
  ht : PySem.W.takesIn K (.builtin "object.__class__") = some true
  hm : PySem.W.mroIn K C (.type "object") = some true
  no : ∀ T ∈ tysB, PySem.W.kitOne K (.type T) (.ref C) = some false
  su : ∀ T ∈ tysB, PySem.W.subIn K (.ref C) (.type T) = some false
  nf : ∀ T ∈ tysB, PySem.W.notFirst K C (.type T) = true
  ns : PySem.W.notFirst K C (.ref C) = true
theorem clsB_ok {K : PySem.W.Frag} {x : Str} (h : clsB K x = true) : ClsB K (He.ga K x) := by
  unfold clsB at h
  simp only [Bool.and_eq_true, decide_eq_true_eq] at h
  obtain ⟨⟨⟨⟨⟨⟨⟨⟨⟨⟨⟨p1, p2⟩, p3⟩, p4⟩, p5⟩, p6⟩, p7⟩, p8⟩, p9⟩, p10⟩, p11⟩, p12⟩ := h
  exact ⟨⟨p1, p2, p3, p4⟩, p5, p6, p7, p8, fun T hT => of_decide_eq_true (List.all_eq_true.mp p9 T hT), fun T hT => of_decide_eq_true (List.all_eq_true.mp p10 T hT), fun T hT => List.all_eq_true.mp p11 T hT, p12⟩
def eqB (K : PySem.W.Frag) (x : Str) : Bool := PySem.W.isFn K (.ref (He.ma K (He.ga K x) "__eq__")) && decide (PySem.W.findIn K (.ref (He.ga K x)) "__ne__" = some (some (.builtin "object.__ne__"))) && decide (PySem.W.subIn K (.ref (He.ga K x)) (.type "object") = some true) &&
  decide (PySem.W.findIn K (.ref (He.ga K x)) "__eq__" = some (some (.ref (He.ma K (He.ga K x) "__eq__"))))
end Kx

set_option Elab.async false
set_option maxRecDepth 100000
set_option linter.all false
namespace Lx
open PySem PySem.Spec PyProof.Rows L2
def top (i : Nat) : Stmt := PySem.Challenge.pw_callersrights_k70_programs_written_and_r.main.body.getD i (.Pass ⟨0, 0, 0, 0⟩)
end Lx

set_option Elab.async false
set_option maxRecDepth 100000
set_option linter.all false
set_option maxHeartbeats 0
namespace Lx
open PySem PySem.Spec PyProof.Rows L2 Evl Kx
def fnH : List He.DefD := [
  ⟨("is_name", none), "is_name", "is_name", defArgs (top 9), defBody (top 9), defScope (top 9), [], []⟩,
  ⟨("is_tuple_of", none), "is_tuple_of", "is_tuple_of", defArgs (top 10), defBody (top 10), defScope (top 10), [], []⟩,
  ⟨("is_step", none), "is_step", "is_step", defArgs (top 12), defBody (top 12), defScope (top 12), [], []⟩,
  ⟨("is_nest", none), "is_nest", "is_nest", defArgs (top 13), defBody (top 13), defScope (top 13), [], []⟩,
  ⟨("copy_body", none), "copy_body", "copy_body", defArgs (top 14), defBody (top 14), defScope (top 14), [], []⟩,
  ⟨("copy_step", none), "copy_step", "copy_step", defArgs (top 15), defBody (top 15), defScope (top 15), [], []⟩,
  ⟨("with_inner", none), "with_inner", "with_inner", defArgs (top 16), defBody (top 16), defScope (top 16), [], []⟩,
  ⟨("check_size", none), "check_size", "check_size", defArgs (top 22), defBody (top 22), defScope (top 22), [], []⟩,
  ⟨("check_rights", none), "check_rights", "check_rights", defArgs (top 23), defBody (top 23), defScope (top 23), [], []⟩,
  ⟨("check_owners", none), "check_owners", "check_owners", defArgs (top 24), defBody (top 24), defScope (top 24), [], []⟩,
  ⟨("check_functions", none), "check_functions", "check_functions", defArgs (top 25), defBody (top 25), defScope (top 25), [], []⟩,
  ⟨("is_owner", none), "is_owner", "is_owner", defArgs (top 26), defBody (top 26), defScope (top 26), [], []⟩,
  ⟨("is_choice", none), "is_choice", "is_choice", defArgs (top 27), defBody (top 27), defScope (top 27), [], []⟩,
  ⟨("is_function", none), "is_function", "is_function", defArgs (top 28), defBody (top 28), defScope (top 28), [], []⟩,
  ⟨("copy_owners", none), "copy_owners", "copy_owners", defArgs (top 29), defBody (top 29), defScope (top 29), [], []⟩,
  ⟨("copy_functions", none), "copy_functions", "copy_functions", defArgs (top 30), defBody (top 30), defScope (top 30), [], []⟩,
  ⟨("need_program", none), "need_program", "need_program", defArgs (top 31), defBody (top 31), defScope (top 31), [], []⟩,
  ⟨("_law_cell", none), "_law_cell", "_law_cell", defArgs (top 43), defBody (top 43), defScope (top 43), [], []⟩,
  ⟨("_law_hash", none), "_law_hash", "_law_hash", defArgs (top 42), defBody (top 42), defScope (top 42), [], []⟩,
  ⟨("_law_generator", none), "_law_generator", "_law_generator", defArgs (top 50), defBody (top 50), defScope (top 50), [], []⟩,
  ⟨("_law_random", none), "_law_random", "_law_random", defArgs (top 49), defBody (top 49), defScope (top 49), [], []⟩,
  ⟨("_law_rights_drawn", none), "_law_rights_drawn", "_law_rights_drawn", defArgs (top 44), defBody (top 44), defScope (top 44), [], []⟩,
  ⟨("_law_owners_drawn", none), "_law_owners_drawn", "_law_owners_drawn", defArgs (top 45), defBody (top 45), defScope (top 45), [], []⟩,
  ⟨("_law_step_drawn", none), "_law_step_drawn", "_law_step_drawn", defArgs (top 41), defBody (top 41), defScope (top 41), [], []⟩,
  ⟨("_law_body_drawn", none), "_law_body_drawn", "_law_body_drawn", defArgs (top 46), defBody (top 46), defScope (top 46), [], []⟩,
  ⟨("_law_copied", none), "_law_copied", "_law_copied", defArgs (top 48), defBody (top 48), defScope (top 48), [], []⟩,
  ⟨("_law_program", none), "_law_program", "_law_program", defArgs (top 52), defBody (top 52), defScope (top 52), [], []⟩,
  ⟨("_law_count", none), "_law_count", "_law_count", defArgs (top 47), defBody (top 47), defScope (top 47), [], []⟩,
  ⟨("_law_parts", none), "_law_parts", "_law_parts", defArgs (top 51), defBody (top 51), defScope (top 51), [], []⟩,
  ⟨("body_tokens", none), "body_tokens", "body_tokens", defArgs (top 35), defBody (top 35), defScope (top 35), [], []⟩,
  ⟨("step_tokens", none), "step_tokens", "step_tokens", defArgs (top 36), defBody (top 36), defScope (top 36), [], []⟩,
  ⟨("text_of", none), "text_of", "text_of", defArgs (top 34), defBody (top 34), defScope (top 34), [], []⟩,
  ⟨("read_program", none), "read_program", "read_program", defArgs (top 37), defBody (top 37), defScope (top 37), [], []⟩,
  ⟨("tokens_of", none), "tokens_of", "tokens_of", defArgs (top 38), defBody (top 38), defScope (top 38), [], []⟩,
  ⟨("_law_step_tokens", none), "_law_step_tokens", "_law_step_tokens", defArgs (top 53), defBody (top 53), defScope (top 53), [], []⟩,
  ⟨("_law_braced", none), "_law_braced", "_law_braced", defArgs (top 54), defBody (top 54), defScope (top 54), [], []⟩,
  ⟨("_law_lines", none), "_law_lines", "_law_lines", defArgs (top 55), defBody (top 55), defScope (top 55), [], []⟩,
  ⟨("_law_spaced", none), "_law_spaced", "_law_spaced", defArgs (top 56), defBody (top 56), defScope (top 56), [], []⟩,
  ⟨("_law_deep_right", none), "_law_deep_right", "_law_deep_right", defArgs (top 57), defBody (top 57), defScope (top 57), [], []⟩,
  ⟨("law", none), "law", "law", defArgs (top 58), defBody (top 58), defScope (top 58), [], []⟩,
  ⟨("is_body", none), "is_body", "is_body", defArgs (top 11), defBody (top 11), defScope (top 11), [.bl false], []⟩,
  ⟨("Program", some "__init__"), "__init__", "Program.__init__", defArgs (inClass (top 21) 0), defBody (inClass (top 21) 0), defScope (inClass (top 21) 0), [], []⟩,
  ⟨("Program", some "rights"), "rights", "Program.rights", defArgs (inClass (top 21) 1), defBody (inClass (top 21) 1), defScope (inClass (top 21) 1), [], []⟩,
  ⟨("Program", some "owners"), "owners", "Program.owners", defArgs (inClass (top 21) 2), defBody (inClass (top 21) 2), defScope (inClass (top 21) 2), [], []⟩,
  ⟨("Program", some "functions"), "functions", "Program.functions", defArgs (inClass (top 21) 3), defBody (inClass (top 21) 3), defScope (inClass (top 21) 3), [], []⟩,
  ⟨("Program", some "__eq__"), "__eq__", "Program.__eq__", defArgs (inClass (top 21) 4), defBody (inClass (top 21) 4), defScope (inClass (top 21) 4), [], []⟩,
  ⟨("Reader", some "__init__"), "__init__", "Reader.__init__", defArgs (inClass (top 39) 0), defBody (inClass (top 39) 0), defScope (inClass (top 39) 0), [], []⟩,
  ⟨("Reader", some "read_owner"), "read_owner", "Reader.read_owner", defArgs (inClass (top 39) 1), defBody (inClass (top 39) 1), defScope (inClass (top 39) 1), [], []⟩,
  ⟨("Reader", some "read_function"), "read_function", "Reader.read_function", defArgs (inClass (top 39) 2), defBody (inClass (top 39) 2), defScope (inClass (top 39) 2), [], []⟩,
  ⟨("Reader", some "token"), "token", "Reader.token", defArgs (inClass (top 39) 3), defBody (inClass (top 39) 3), defScope (inClass (top 39) 3), [], []⟩,
  ⟨("Reader", some "skip"), "skip", "Reader.skip", defArgs (inClass (top 39) 4), defBody (inClass (top 39) 4), defScope (inClass (top 39) 4), [], []⟩,
  ⟨("Reader", some "read_body"), "read_body", "Reader.read_body", defArgs (inClass (top 39) 5), defBody (inClass (top 39) 5), defScope (inClass (top 39) 5), [], []⟩,
  ⟨("Reader", some "read_step"), "read_step", "Reader.read_step", defArgs (inClass (top 39) 6), defBody (inClass (top 39) 6), defScope (inClass (top 39) 6), [], []⟩,
  ⟨("InvalidList", some "__init__"), "__init__", "InvalidList.__init__", defArgs (inClass (top 2) 0), defBody (inClass (top 2) 0), defScope (inClass (top 2) 0), [.non], []⟩,
  ⟨("InvalidItem", some "__init__"), "__init__", "InvalidItem.__init__", defArgs (inClass (top 3) 0), defBody (inClass (top 3) 0), defScope (inClass (top 3) 0), [.non], []⟩,
  ⟨("InvalidProgram", some "__init__"), "__init__", "InvalidProgram.__init__", defArgs (inClass (top 4) 0), defBody (inClass (top 4) 0), defScope (inClass (top 4) 0), [.non], []⟩]
def faH : List He.Fa := [
  .free "len",
  .free "int",
  .free "max",
  .free "min",
  .free "range",
  .free "isinstance",
  .free "repr",
  .free "list",
  .free "tuple",
  .free "sum",
  .free "str",
  .free "all",
  .free "bool",
  .int "LONGEST_NAME" 8,
  .int "MOST_RIGHTS" 5,
  .int "MOST_OWNERS" 5,
  .int "MOST_FUNCTIONS" 6,
  .int "MOST_OPEN" 8,
  .str "LETTERS" "abcdefghijklmnopqrstuvwxyz",
  .glo "is_name",
  .glo "is_tuple_of",
  .glo "is_step",
  .glo "is_nest",
  .glo "copy_body",
  .glo "copy_step",
  .glo "with_inner",
  .glo "check_size",
  .glo "check_rights",
  .glo "check_owners",
  .glo "check_functions",
  .glo "is_owner",
  .glo "is_choice",
  .glo "is_function",
  .glo "copy_owners",
  .glo "copy_functions",
  .glo "need_program",
  .glo "_law_cell",
  .glo "_law_hash",
  .glo "_law_generator",
  .glo "_law_random",
  .glo "_law_rights_drawn",
  .glo "_law_owners_drawn",
  .glo "_law_step_drawn",
  .glo "_law_body_drawn",
  .glo "_law_copied",
  .glo "_law_program",
  .glo "_law_count",
  .glo "_law_parts",
  .glo "body_tokens",
  .glo "step_tokens",
  .glo "text_of",
  .glo "read_program",
  .glo "tokens_of",
  .glo "_law_step_tokens",
  .glo "_law_braced",
  .glo "_law_lines",
  .glo "_law_spaced",
  .glo "_law_deep_right",
  .glo "law",
  .glo "is_body",
  .mkr "Program",
  .meth "Program" "rights",
  .meth "Program" "owners",
  .meth "Program" "functions",
  .mkr "Reader",
  .meth "Reader" "read_owner",
  .meth "Reader" "read_function",
  .meth "Reader" "token",
  .meth "Reader" "skip",
  .meth "Reader" "read_body",
  .meth "Reader" "read_step",
  .glo "InvalidList",
  .glo "InvalidItem",
  .glo "InvalidProgram",
  .glo "RightsError",
  .glo "Program",
  .glo "Reader",
  .noat "Program" "_rights",
  .noat "Program" "_owners",
  .noat "Program" "_functions",
  .noat "Reader" "text",
  .noat "Reader" "tokens",
  .noat "Reader" "at",
  .noat "Reader" "depth"]
def chkH (K : PySem.W.Frag) : Bool := (K.lookup sysModules).isNone && (exAll K "InvalidList" "value" && (exAll K "InvalidItem" "value" && (exAll K "InvalidProgram" "value" && (((([He.ga K "InvalidList", He.ga K "InvalidItem", He.ga K "InvalidProgram"] : List Addr).all fun C => decide (PySem.W.exmOne K (.ref C) (.ref (He.ga K "RightsError")) = some true)) && ((List.range 3).all fun i => (List.range 3).all fun j => decide (PySem.W.kitOne K (.ref (([He.ga K "InvalidList", He.ga K "InvalidItem", He.ga K "InvalidProgram"] : List Addr).getD i 0)) (.ref (([He.ga K "InvalidList", He.ga K "InvalidItem", He.ga K "InvalidProgram"] : List Addr).getD j 0)) = some (decide (i = j))))) && (clsB K "Program" && (eqB K "Program" && (clsB K "Reader" && (decide (PySem.W.exmOne K (.ref (He.ga K "InvalidProgram")) (.ref (He.ga K "InvalidProgram")) = some true)))))))))
end Lx
namespace Lx
open PySem PySem.W PySem.Calls PyProof.Rows
abbrev RwH : OpenRow := OpenLaw.row PySem.Challenge.rw_callersrights_k70_programs_written_and_r
abbrev qvH : Program := view RwH.prog [58]
def nmH0 : List PySem.Str := ["RightsError", "InvalidList", "InvalidItem", "InvalidProgram", "InvalidText", "LETTERS", "LONGEST_NAME", "is_name", "is_tuple_of", "is_body", "is_step", "is_nest", "copy_body", "copy_step", "with_inner", "MOST_RIGHTS", "MOST_OWNERS", "MOST_FUNCTIONS", "Program", "check_size", "check_rights", "check_owners", "check_functions", "is_owner", "is_choice", "is_function", "copy_owners", "copy_functions", "need_program", "MOST_OPEN"]
def nmH1 : List PySem.Str := ["text_of", "body_tokens", "step_tokens", "read_program", "tokens_of", "Reader", "_law_step_drawn", "_law_hash", "_law_cell", "_law_rights_drawn", "_law_owners_drawn", "_law_body_drawn", "_law_count", "_law_copied", "_law_random", "_law_generator", "_law_parts", "_law_program", "_law_step_tokens", "_law_braced", "_law_lines", "_law_spaced", "_law_deep_right"]
def nmH : List PySem.Str := nmH0 ++ nmH1
def asH0 : List Addr := [2, 3, 15, 22, 23, 24, 25, 28, 35, 36, 38, 39, 41, 42, 43, 44, 45, 48, 55, 56, 58, 59, 61, 62, 63, 64, 65, 68, 75, 76, 78, 79, 81, 82, 83, 84, 85, 88, 95, 96]
def asH1 : List Addr := [98, 99, 101, 102, 103, 104, 105, 108, 111, 112, 113, 115, 116, 118, 119, 120, 121, 123, 124, 126, 127, 128, 130, 131, 133, 134, 135, 138, 139, 140, 143, 144, 145, 147, 148, 150, 151, 152, 155, 156]
def asH2 : List Addr := [164, 166, 167, 169, 170, 171, 173, 174, 176, 177, 178, 180, 181, 183, 184, 185, 187, 188, 190, 191, 192, 194, 195, 197, 198, 199, 200, 201, 202, 203, 206, 208, 209, 211, 212, 213, 215, 216, 218, 219]
def asH3 : List Addr := [220, 222, 223, 225, 226, 227, 230, 231, 232, 234, 235, 237, 238, 239, 242, 243, 244, 246, 247, 249, 250, 251, 254, 255, 256, 259, 260, 261, 263, 264, 266, 267, 268, 271, 272, 273, 275, 276, 278, 279]
def asH4 : List Addr := [280, 282, 283, 285, 286, 287, 290, 291, 292, 295, 296, 304, 306, 307, 309, 310, 311, 313, 314, 316, 317, 318, 320, 321, 323, 324, 325, 327, 328, 330, 331, 332, 334, 335, 337, 338, 339, 341, 342, 344]
def asH5 : List Addr := [345, 346, 348, 349, 351, 352, 353, 354, 355, 356, 357, 360, 363, 364, 365, 367, 368, 370, 371, 372, 374, 375, 377, 378, 379, 381, 382, 384, 385, 386, 389, 390, 391, 393, 394, 396, 397, 398, 401, 402]
def asH6 : List Addr := [403, 406, 407, 408, 410, 411, 413, 414, 415, 417, 418, 420, 421, 422, 424, 425, 427, 428, 429, 432, 433, 434, 436, 437, 439, 440, 441, 443, 444, 446, 447, 448, 450, 451, 453, 454, 455, 457, 458, 460]
def asH7 : List Addr := [461, 462, 465, 466, 467, 470, 471]
def asH : List Addr := asH0 ++ (asH1 ++ (asH2 ++ (asH3 ++ (asH4 ++ (asH5 ++ (asH6 ++ (asH7)))))))
abbrev hkH : PySem.W.Hook := Kx.hookL asH faH fnH chkH
def obH (s : PySem.W.SharedT) : Kx.AlX := Kx.obsL asH faH fnH chkH (HandSHeadRun.getT s)
theorem obH_eq (s : PySem.W.SharedT) : obH s = hkH.obs s.abs := Kx.obsL_eq (HandSHeadRun.getT_eq s)
theorem runH (w : World) : HandSHeadRun.RunEqI RwH qvH hkH obH 12000 nmH w := by
  unfold HandSHeadRun.RunEqI
  kernel_rfl
end Lx

set_option Elab.async false
set_option maxRecDepth 100000
set_option linter.all false
set_option maxHeartbeats 4000000
/-! KitF: how long data shows; evaluation to data (a known part G of the heap, that only grows). -/
namespace Kx
open PySem PySem.Spec PyProof.Rows L2 Evl

/-! ### how long data shows -/
mutual
def bnd : PyData → Nat
  | .none => 4
  | .bool _ => 5
  | .int i => i.natAbs.log2 + 2
  | .str x => (reprText x).length
  | .list xs => 2 + bndA xs
  | .tuple xs => 3 + bndA xs
  | .dict kvs => 2 + bndD kvs
def bndA : List PyData → Nat
  | [] => 0
  | x :: xs => bnd x + 2 + bndA xs
def bndD : List (PyData × PyData) → Nat
  | [] => 0
  | (k, v) :: r => bnd k + bnd v + 4 + bndD r
end
def lens (ts : List Str) : Nat := (ts.map fun t => t.length + 2).sum
theorem textFrom_le : ∀ (ts : List Str) (k : Nat) (acc : Str), (textFrom k acc ts).length ≤ acc.length + lens ts
  | [], k, acc => Nat.le_add_right _ _
  | t :: r, k, acc => by
    have h := textFrom_le r (k + 1) (acc ++ (if k > 0 then ", " else "" : String) ++ t)
    have e : (acc ++ (Str.ofString (if k > 0 then ", " else "")) ++ t).length ≤ acc.length + 2 + t.length := by
      rw [strLen_append, strLen_append]
      have h2 : (Str.ofString (if k > 0 then ", " else "")).length ≤ 2 := by
        split <;> decide
      omega
    have e2 : lens (t :: r) = t.length + 2 + lens r := by
      unfold lens
      rw [List.map_cons, List.sum_cons]
    rw [e2]
    refine Nat.le_trans h ?_
    have e3 : (acc ++ (if k > 0 then ", " else "" : String) ++ t).length ≤ acc.length + 2 + t.length := e
    omega
theorem listText_le (ts : List Str) : (listText ts).length ≤ 2 + lens ts := by
  unfold listText
  rw [strLen_append]
  have h := textFrom_le ts 0 "["
  have e1 : Str.length ("[" : Str) = 1 := by decide
  have e2 : Str.length ("]" : Str) = 1 := by decide
  omega
theorem piled_eq : ∀ ts : List Str, piled ts = lens ts
  | [] => rfl
  | t :: r => by
    have e := piled_eq r
    unfold lens at e ⊢
    rw [List.map_cons, List.sum_cons, ← e]
    simp [piled]
theorem joined_le (ts : List Str) : (Str.join ", " ts).length ≤ lens ts := by
  by_cases h : ts = []
  · subst h
    decide
  · have e := join_length_add ts h
    rw [piled_eq] at e
    omega
theorem tupleText_le (ts : List Str) : (tupleText ts).length ≤ 3 + lens ts := by
  unfold tupleText
  rw [strLen_append, strLen_append]
  have h := joined_le ts
  have e1 : Str.length ("(" : Str) = 1 := by decide
  have e2 : (Str.ofString (if ts.length == 1 then ",)" else ")")).length ≤ 2 := by
    split <;> decide
  have e3 : Str.length ((if ts.length == 1 then ",)" else ")" : String) : Str) ≤ 2 := e2
  omega
theorem dictText_le (ts : List Str) : (dictText ts).length ≤ 2 + lens ts := by
  unfold dictText
  rw [strLen_append, strLen_append]
  have h := joined_le ts
  have e1 : Str.length ("{" : Str) = 1 := by decide
  have e2 : Str.length ("}" : Str) = 1 := by decide
  omega
mutual
theorem shown_le : ∀ d : PyData, d.shown.length ≤ bnd d
  | .none => by
    simp only [PyData.shown, bnd]
    decide
  | .bool b => by
    simp only [PyData.shown, bnd]
    cases b <;> decide
  | .int i => by
    simp only [PyData.shown, bnd]
    have h := int_text_length_le (a := i) (k := i.natAbs.log2 + 1) (Nat.succ_pos _) (Nat.lt_succ_self _)
    have e : Str.length (Str.ofString (toString i)) = (toString i).length := PySem.ofString_length _
    show Str.length (Str.ofString (toString i)) ≤ _
    omega
  | .str x => by
    simp only [PyData.shown, bnd]
    exact Nat.le_refl _
  | .list xs => by
    simp only [PyData.shown, bnd]
    exact Nat.le_trans (listText_le _) (Nat.add_le_add_left (shownAll_le xs) _)
  | .tuple xs => by
    simp only [PyData.shown, bnd]
    exact Nat.le_trans (tupleText_le _) (Nat.add_le_add_left (shownAll_le xs) _)
  | .dict kvs => by
    simp only [PyData.shown, bnd]
    exact Nat.le_trans (dictText_le _) (Nat.add_le_add_left (shownKv_le kvs) _)
theorem shownAll_le : ∀ xs : List PyData, lens (PyData.shownAll xs) ≤ bndA xs
  | [] => by
    simp only [PyData.shownAll, bndA]
    decide
  | x :: xs => by
    have h1 := shown_le x
    have h2 := shownAll_le xs
    simp only [PyData.shownAll, bndA]
    have e : lens (PyData.shown x :: PyData.shownAll xs) = (PyData.shown x).length + 2 + lens (PyData.shownAll xs) := by
      unfold lens
      rw [List.map_cons, List.sum_cons]
    omega
theorem shownKv_le : ∀ xs : List (PyData × PyData), lens (PyData.shownKv xs) ≤ bndD xs
  | [] => by
    simp only [PyData.shownKv, bndD]
    decide
  | (k, v) :: xs => by
    have h1 := shown_le k
    have h3 := shown_le v
    have h2 := shownKv_le xs
    simp only [PyData.shownKv, bndD]
    have e : lens ((PyData.shown k ++ ": " ++ PyData.shown v) :: PyData.shownKv xs) = (PyData.shown k).length + 2 + (PyData.shown v).length + 2 + lens (PyData.shownKv xs) := by
      unfold lens
      rw [List.map_cons, List.sum_cons, strLen_append, strLen_append]
      have e1 : Str.length (": " : Str) = 2 := by decide
      rw [e1]
      try omega
    omega
end

/-! ### the known part of the heap grows -/
structure Ext (G H1 G2 H2 : Hp) : Prop where
  hh : Ex H1 H2
  gg : Ex G G2
  gh : Ex G2 H2
  ag : ∀ a o, H1 a = some o → G2 a = G a
theorem Ext.refl {G H : Hp} (e : Ex G H) : Ext G H G H := ⟨Ex.refl H, Ex.refl G, e, fun _ _ _ => rfl⟩
theorem Ext.trans {G H1 G2 H2 G3 H3 : Hp} (a : Ext G H1 G2 H2) (b : Ext G2 H2 G3 H3) : Ext G H1 G3 H3 :=
  ⟨a.hh.trans b.hh, a.gg.trans b.gg, b.gh, fun c o h => (b.ag c o (a.hh c o h)).trans (a.ag c o h)⟩
/-- a new object, known from now on -/
theorem Ext.new {G H H2 : Hp} {p : Addr} {o : HO} (e : Ex G H) (hp : H p = none) (hh : Ex H H2) (h : H2 p = some o) : Ext G H (upd G p o) H2 := by
  refine ⟨hh, Ex.new (fresh_back e hp), fun a u q => ?_, fun a u q => upd_ne (ne_of_none q hp)⟩
  by_cases z : a = p
  · rw [z, upd_same] at q
    rw [z, h]
    exact q
  · rw [upd_ne z] at q
    exact hh a u (e a u q)
/-- .. where the known part had grown before -/
theorem Ext.more {G H1 G2 H2 H3 : Hp} {p : Addr} {o : HO} (x : Ext G H1 G2 H2) (hp : H2 p = none) (hh : Ex H2 H3) (h : H3 p = some o) : Ext G H1 (upd G2 p o) H3 := x.trans (Ext.new x.gh hp hh h)

/-- te gives a value of the data d, G being known -/
def EvD (K : PySem.W.Frag) (te : TE) (σ : L2.St) (G : Hp) (d : PyData) : Prop := ∀ H1, Ex G H1 → ∀ Q : VK, (∀ v G2 H2, Ext G H1 G2 H2 → Dq K G2 v d → Q v H2) → te σ H1 Q
def EvDA (K : PySem.W.Frag) (ta : TA) (σ : L2.St) (G : Hp) (ds : List PyData) : Prop := ∀ H1, Ex G H1 → ∀ Q : List V → Hp → Prop, (∀ vs G2 H2, Ext G H1 G2 H2 → DqA K G2 vs ds → Q vs H2) → ta σ H1 Q
section
variable {K : PySem.W.Frag} {σ : L2.St} {G G' : Hp} {te ta tb : TE} {d : PyData}
theorem EvD.mono (e : Ex G G') (h : EvD K te σ G d) : EvD K te σ G' d := fun H1 a Q q => h H1 (e.trans a) Q fun v G2 H2 x hd => by
  let G3 : Hp := fun b => match G' b with
    | some o => some o
    | none => G2 b
  have e3 : Ex G2 G3 := fun b o hb => by
    show (match G' b with | some o => some o | none => G2 b) = some o
    cases z : G' b with
    | none => exact hb
    | some o' =>
      have h1 := x.hh b o' (a b o' z)
      have h2 := x.gh b o hb
      rw [h1] at h2
      exact h2
  refine q v G3 H2 ⟨x.hh, fun b o hb => ?_, fun b o hb => ?_, fun b o hb => ?_⟩ (hd.mono (same_ex e3))
  · show (match G' b with | some o => some o | none => G2 b) = some o
    rw [hb]
  · have hb' : (match G' b with | some o => some o | none => G2 b) = some o := hb
    cases z : G' b with
    | none =>
      rw [z] at hb'
      exact x.gh b o hb'
    | some o' =>
      rw [z] at hb'
      rw [← hb']
      exact x.hh b o' (a b o' z)
  · show (match G' b with | some o => some o | none => G2 b) = G' b
    cases z : G' b with
    | none =>
      show G2 b = none
      rw [x.ag b o hb]
      cases z2 : G b with
      | none => rfl
      | some u =>
        rw [e b u z2] at z
        cases z
    | some o' => rfl
theorem ed_ev {v : V} (h : Ev te σ G v) (hd : Dq K G v d) : EvD K te σ G d := fun H1 e Q q => h H1 e Q fun H2 e2 => q v G H2 ⟨e2, Ex.refl G, e.trans e2, fun _ _ _ => rfl⟩ hd
theorem ed_evL {xs : List V} {ds : List PyData} (h : EvL te σ G xs) (hd : DqA K G xs ds) : EvD K te σ G (.list ds) := fun H1 e Q q => h H1 e Q fun p H2 hp e2 hx =>
  q _ _ H2 (Ext.new e hp e2 hx) (.lst upd_same (hd.mono (same_ex (Ex.new (fresh_back e hp)))))
theorem eda_nil : EvDA K tNil σ G [] := fun H1 e Q q => q [] G H1 (Ext.refl e) .nil
theorem eda_cons {tr : TA} {ds : List PyData} (h : EvD K te σ G d) (hr : ∀ G1, Ex G G1 → EvDA K tr σ G1 ds) : EvDA K (tCons te tr) σ G (d :: ds) := fun H1 e Q q =>
  h H1 e _ fun v G2 H2 x hd => hr G2 x.gg H2 x.gh _ fun vs G3 H3 y hds => q _ G3 H3 (x.trans y) (.cons (hd.mono (same_ex y.gg)) hds)
theorem dqa_len {H : Hp} : ∀ {vs : List V} {ds : List PyData}, DqA K H vs ds → vs.length = ds.length
  | _, _, .nil => rfl
  | _, _, .cons _ b => congrArg Nat.succ (dqa_len b)
theorem ed_lst {ta : TA} {ds : List PyData} (h : EvDA K ta σ G ds) (hl : ds.length ≤ 100000) : EvD K (tLst ta) σ G (.list ds) := fun H1 e Q q =>
  h H1 e _ fun vs G2 H2 x hd => ⟨sz_of (by rw [dqa_len hd]; exact hl), fun p hp => q _ _ _ (x.more hp (Ex.new hp) upd_same) (.lst upd_same (hd.mono (same_ex (Ex.new (fresh_back x.gh hp)))))⟩
theorem ed_tup {ta : TA} {ds : List PyData} (h : EvDA K ta σ G ds) (hl : ds.length ≤ 100000) : EvD K (tTup ta) σ G (.tuple ds) := fun H1 e Q q =>
  h H1 e _ fun vs G2 H2 x hd => ⟨sz_of (by rw [dqa_len hd]; exact hl), fun p hp => q _ _ _ (x.more hp (Ex.new hp) upd_same) (.tup (.inl (.inl upd_same)) (hd.mono (same_ex (Ex.new (fresh_back x.gh hp)))))⟩

/-! ### comprehensions of data -/
def gvn (n : Nat) (f : Nat → Bool) (ds : Nat → PyData) : List PyData := ((List.range n).filter f).map ds
theorem gvn_yes {n : Nat} {f : Nat → Bool} {ds : Nat → PyData} (h : f n = true) : gvn (n + 1) f ds = gvn n f ds ++ [ds n] := by
  unfold gvn
  rw [List.range_succ, List.filter_append, List.map_append, List.filter_cons, if_pos h] <;> rfl
theorem gvn_no {n : Nat} {f : Nat → Bool} {ds : Nat → PyData} (h : f n = false) : gvn (n + 1) f ds = gvn n f ds := by
  unfold gvn
  rw [List.range_succ, List.filter_append, List.map_append, List.filter_cons, if_neg (by rw [h]; decide)]
  exact List.append_nil _
theorem gvn_len (n : Nat) (f : Nat → Bool) (ds : Nat → PyData) : (gvn n f ds).length ≤ n := by
  unfold gvn
  rw [List.length_map]
  have h := List.length_filter_le f (List.range n)
  rw [List.length_range] at h
  exact h
theorem dqa_app {H : Hp} {v : V} : ∀ {vs : List V} {ds : List PyData}, DqA K H vs ds → Dq K H v d → DqA K H (vs ++ [v]) (ds ++ [d])
  | _, _, .nil, h => .cons h .nil
  | _, _, .cons a b, h => .cons a (dqa_app b h)
/-- the word between two turns: Dl grows, all it holds is known without it -/
def Cd (K : PySem.W.Frag) (G H1 : Hp) (f : Nat → Bool) (ds : Nat → PyData) (Dl : Addr) (i : Nat) (H' : Hp) : Prop :=
  ∃ Gi vs, Ext G H1 Gi H' ∧ Gi Dl = none ∧ H' Dl = some (.lst vs) ∧ DqA K Gi vs (gvn i f ds)
theorem cd_turn {G H1 H' : Hp} {f : Nat → Bool} {ds : Nat → PyData} {Dl : Addr} {i : Nat} {σ2 : L2.St} {t : TT} (hD : H1 Dl = none) (p : Cd K G H1 f ds Dl i H') (hi : i < 50000)
    (ht : ∀ G1, Ex G G1 → EvT t σ2 G1 (f i)) (he : ∀ G1, Ex G G1 → f i = true → EvD K te σ2 G1 (ds i)) :
    t σ2 H' fun b H3 => if b = true then te σ2 H3 fun y H4 => ∃ acc, H4 Dl = some (.lst acc) ∧ acc.length < sizeLine ∧ Cd K G H1 f ds Dl (i + 1) (upd H4 Dl (.lst (acc ++ [y]))) else Cd K G H1 f ds Dl (i + 1) H3 := by
  obtain ⟨Gi, vs, x, g0, hv, hd⟩ := p
  refine ht Gi x.gg H' x.gh _ fun H3 e3 => ?_
  cases hf : f i with
  | true =>
    show te σ2 H3 _
    refine he Gi x.gg hf H3 (x.gh.trans e3) _ fun y G2 H4 z hy => ?_
    have e4 : H4 Dl = some (.lst vs) := z.hh _ _ (e3 _ _ hv)
    have g2 : G2 Dl = none := (z.ag _ _ (e3 _ _ hv)).trans g0
    refine ⟨vs, e4, sz_lt (by have h1 := dqa_len hd; have h2 := gvn_len i f ds; omega), G2, vs ++ [y], ⟨?_, x.gg.trans z.gg, ?_, ?_⟩, g2, upd_same, ?_⟩
    · exact Ex.mut ((x.hh.trans e3).trans z.hh) hD
    · exact Ex.mut z.gh g2
    · intro a o ha
      exact (z.ag a o (e3 _ _ (x.hh a o ha))).trans (x.ag a o ha)
    · rw [gvn_yes hf]
      exact dqa_app (hd.mono (same_ex z.gg)) hy
  | false =>
    show Cd K G H1 f ds Dl (i + 1) H3
    refine ⟨Gi, vs, ⟨x.hh.trans e3, x.gg, x.gh.trans e3, x.ag⟩, g0, e3 _ _ hv, ?_⟩
    rw [gvn_no hf]
    exact hd
theorem cd_end {G H1 H' : Hp} {f : Nat → Bool} {ds : Nat → PyData} {Dl : Addr} {n : Nat} (hD : H1 Dl = none) (p : Cd K G H1 f ds Dl n H') : ∃ G2, Ext G H1 G2 H' ∧ Dq K G2 (.ref Dl) (.list (gvn n f ds)) := by
  obtain ⟨Gi, vs, x, g0, hv, hd⟩ := p
  refine ⟨upd Gi Dl (.lst vs), ⟨x.hh, x.gg.trans (Ex.new g0), fun a o h => ?_, fun a o h => ?_⟩, .lst upd_same (hd.mono (same_ex (Ex.new g0)))⟩
  · by_cases z : a = Dl
    · rw [z, upd_same] at h
      rw [z, hv]
      exact h
    · rw [upd_ne z] at h
      exact x.gh a o h
  · rw [upd_ne (ne_of_none h hD)]
    exact x.ag a o h
theorem cd_start {G H1 : Hp} {f : Nat → Bool} {ds : Nat → PyData} {Dl : Addr} (e : Ex G H1) (hD : H1 Dl = none) : Cd K G H1 f ds Dl 0 (upd H1 Dl (.lst [])) :=
  ⟨G, [], ⟨Ex.new hD, Ex.refl G, e.trans (Ex.new hD), fun _ _ _ => rfl⟩, fresh_back e hD, upd_same, .nil⟩
variable {t : TT}
theorem ed_lcL {a : Addr} {xs : List V} {tl : TE} {j : Nat} {ws : List Nat} (f : Nat → Bool) (ds : Nat → PyData) (h : Ev tl σ G (.ref a)) (hx : SqL K G a xs) (hz : xs.length ≤ 40000) (hw : ∀ x, wipe ((wipe σ ws).set j (some x)) ws = wipe σ ws)
    (ht : ∀ (i : Nat) (x : V) G1, Ex G G1 → xs[i]? = some x → EvT t ((wipe σ ws).set j (some x)) G1 (f i)) (he : ∀ (i : Nat) (x : V) G1, Ex G G1 → xs[i]? = some x → f i = true → EvD K te ((wipe σ ws).set j (some x)) G1 (ds i)) :
    EvD K (tLc (iList K tl) (gName j) t te ws) σ G (.list (gvn xs.length f ds)) := fun H0 e Q q => h H0 e _ fun H1 e1 => ⟨a, rfl, ⟨xs, ex_l (e.trans e1) hx⟩, fun Dl hD =>
  lc_list (xs := xs) (Cd K G H1 f ds Dl) (cd_start (e.trans e1) hD) (fun i H' _ p => by obtain ⟨Gi, vs, x, _⟩ := p; exact ex_l (x.gg.trans x.gh) hx)
    (fun i x H' hi p => ⟨hw x, cd_turn hD p (by have := (List.getElem?_eq_some_iff.mp hi).1; omega) (fun G1 g1 => ht i x G1 g1 hi) (fun G1 g1 hf => he i x G1 g1 hi hf)⟩)
    (fun H' p => by
      obtain ⟨G2, x, hd⟩ := cd_end hD p
      exact q _ G2 H' ⟨e1.trans x.hh, x.gg, x.gh, fun b o hb => x.ag b o (e1 b o hb)⟩ hd)⟩
theorem ed_lcR {ta : TA} {j : Nat} {ws : List Nat} {n : Int} (f : Nat → Bool) (ds : Nat → PyData) (h : EvA ta σ G [.int n]) (hn : 0 ≤ n ∧ n ≤ 40000) (hw : ∀ x, wipe ((wipe σ ws).set j (some x)) ws = wipe σ ws)
    (ht : ∀ (i : Nat) G1, Ex G G1 → (i : Int) < n → EvT t ((wipe σ ws).set j (some (.int (i : Int)))) G1 (f i)) (he : ∀ (i : Nat) G1, Ex G G1 → (i : Int) < n → f i = true → EvD K te ((wipe σ ws).set j (some (.int (i : Int)))) G1 (ds i)) :
    EvD K (tLc (iRng1 ta) (gName j) t te ws) σ G (.list (gvn n.toNat f ds)) := fun H0 e Q q => h H0 e _ fun H1 e1 => ⟨n, rfl, by omega, by omega, fun Dl hD =>
  lc_range (lo := 0) (n := n.toNat) (Cd K G H1 f ds Dl) (cd_start (e.trans e1) hD) (fun i H' hi p => by
      have e0 : (0 : Int) + (i : Int) = (i : Int) := Int.zero_add _
      show wipe ((wipe σ ws).set j (some (.int ((0 : Int) + (i : Int))))) ws = wipe σ ws ∧ t ((wipe σ ws).set j (some (.int ((0 : Int) + (i : Int))))) H' _
      rw [e0]
      exact ⟨hw _, cd_turn hD p (by omega) (fun G1 g1 => ht i G1 g1 (by omega)) (fun G1 g1 hf => he i G1 g1 (by omega) hf)⟩)
    (fun H' p => by
      obtain ⟨G2, x, hd⟩ := cd_end hD p
      exact q _ G2 H' ⟨e1.trans x.hh, x.gg, x.gh, fun b o hb => x.ag b o (e1 b o hb)⟩ hd)⟩
theorem et_yes {H : Hp} : EvT tYes σ H true := fun H1 _ _ q => q H1 (Ex.refl H1)
theorem el_cat {H : Hp} {a : Addr} {xs ys : List V} (ha : Ev ta σ H (.ref a)) (h : H a = some (.lst xs)) (hb : EvL tb σ H ys) (hl : xs.length + ys.length ≤ 100000) : EvL (tOp rCat ta tb) σ H (xs ++ ys) := fun H1 e Q q =>
  ha H1 e _ fun H2 e2 => hb H2 (e.trans e2) _ fun p H3 hp e3 h3 => ⟨a, p, xs, ys, rfl, rfl, e3 _ _ (e2 _ _ (e _ _ h)), h3, sz_of hl,
    fun l hl' => q l _ (fresh_back (e2.trans e3) hl') ((e2.trans e3).trans (Ex.new hl')) upd_same⟩
theorem el_catLL {H : Hp} {xs ys : List V} (ha : EvL ta σ H xs) (hb : ∀ H1, Ex H H1 → EvL tb σ H1 ys) (hl : xs.length + ys.length ≤ 100000) : EvL (tOp rCat ta tb) σ H (xs ++ ys) := fun H1 e Q q =>
  ha H1 e _ fun p H2 hp e2 h2 => hb H2 (e.trans e2) H2 (Ex.refl H2) _ fun p' H3 hp' e3 h3 => ⟨p, p', xs, ys, rfl, rfl, e3 _ _ h2, h3, sz_of hl,
    fun l hl' => q l _ (fresh_back (e2.trans e3) hl') ((e2.trans e3).trans (Ex.new hl')) upd_same⟩
/-- two data compared, no dicts in them -/
theorem dp_of {H : Hp} : ∀ {d : PyData} {v : V}, Dq K H v d → d.hasDict = false → Dp K H v d := by
  intro d v h
  exact Dq.rec (motive_1 := fun v d _ => d.hasDict = false → Dp K H v d) (motive_2 := fun vs ds _ => PyData.hasDictAll ds = false → DpAll K H vs ds) (motive_3 := fun _ _ _ => True)
    (fun _ => .non) (fun b _ => .bl b) (fun i _ => .int i) (fun x _ => .str x)
    (fun h1 _ ih q => .lst (SqL.of h1) (ih (by simpa only [PyData.hasDict] using q)))
    (fun h1 _ ih q => .tup h1 (ih (by simpa only [PyData.hasDict] using q)))
    (fun _ _ _ q => absurd q (by simp only [PyData.hasDict]; decide))
    (fun _ => .nil)
    (fun _ _ i1 i2 q => by
      simp only [PyData.hasDictAll, Bool.or_eq_false_iff] at q
      exact .cons (i1 q.1) (i2 q.2))
    trivial (fun _ _ _ _ => trivial) h
end
end Kx
namespace Kx
open PySem PySem.Spec PyProof.Rows L2 Evl
section
variable {X : Cx} {K : PySem.W.Frag}
theorem pe_cls {x : Str} {C : Addr} {pos : Pos} (hg : Gl X x) (hm : X.mg x = some (.ref C)) (hd : (x == ("__debug__" : Str)) = false := by decide) : PE X (.Name x pos) (tC (.ref C)) := pe_glob hg hm rfl hd
/-- the rules that name the written part, the part told from outside (for a comprehension's block) -/
theorem pe_xatK {e : Expr} {te : TE} {pos : Pos} {n : Str} (he : PE X e te) (h : X.K = K := by rfl) (hb : attributeBase e n X.env (eval e X.env) = eval e X.env := by rfl) : PE X (.Attribute e n pos) (tXat K n te) := h ▸ pe_xat he hb
theorem isX_K (h : X.K = K := by rfl) : CallR X (.builtin "isinstance") (rIsX K) := h ▸ call_isX
structure rIsiS (K : PySem.W.Frag) (vs : List V) (H : Hp) (Q : VK) : Prop where
  mk' ::
  out : rIsi K vs H Q
theorem isi_K (h : X.K = K := by rfl) : CallR X (.builtin "isinstance") (rIsi K) := h ▸ call_isi
theorem isi_S (h : X.K = K := by rfl) : CallR X (.builtin "isinstance") (rIsiS K) := by
  intro pins s σ H xs us Q I r g
  exact isi_K h pins s σ H xs us Q I r g.out
theorem ixL_K (h : X.K = K := by rfl) : IxR X (rIxL K) := h ▸ ix_list
theorem ixT_K (h : X.K = K := by rfl) : IxR X (rIxT K) := h ▸ ix_tup
end
end Kx

set_option Elab.async false
set_option maxRecDepth 100000
set_option linter.all false
set_option maxHeartbeats 4000000
/-! KitG: evaluation words for repr, comparisons of data, copies. -/
namespace Kx
open PySem PySem.Spec PyProof.Rows L2 Evl
/-- what may be shown -/
def okD (d : PyData) : Prop := d.showable = true ∧ d.depth ≤ 50 ∧ bnd d ≤ 1000000
theorem okD.fits {d : PyData} (h : okD d) : d.showable = true ∧ d.depth ≤ 60 ∧ d.shown.length ≤ sizeLine :=
  ⟨h.1, Nat.le_trans h.2.1 (by decide), Nat.le_trans (shown_le d) (Nat.le_trans h.2.2 (by decide))⟩
def okL (ds : List PyData) : Prop := (PyData.list ds).showable = true ∧ (PyData.list ds).depth ≤ 60 ∧ bnd (.list ds) ≤ 16000000
section
variable {K : PySem.W.Frag} {σ : L2.St} {G H : Hp} {te ta tb : TE} {d e : PyData} {v : V}
theorem ev_repr (h : Ev te σ H v) (y : Sys H) (hd : Dq K H v d) (ok : okD d) : Ev (tCB (rRepr K) (tCons te tNil)) σ H (.str d.shown) := fun H1 x Q q =>
  h H1 x _ fun H2 x2 => ⟨v, d, rfl, y.mono (same_ex (x.trans x2)), hd.mono (same_ex (x.trans x2)), ok.fits.1, ok.fits.2.1, ok.fits.2.2, q H2 x2⟩
theorem ev_reprB (h : Ev te σ H v) (y : Sys H) (hd : Dq K H v d) (o1 : d.showable = true) (o2 : d.depth ≤ 60) (o3 : bnd d ≤ 16000000) : Ev (tCB (rRepr K) (tCons te tNil)) σ H (.str d.shown) := fun H1 x Q q =>
  h H1 x _ fun H2 x2 => ⟨v, d, rfl, y.mono (same_ex (x.trans x2)), hd.mono (same_ex (x.trans x2)), o1, o2, Nat.le_trans (shown_le d) (Nat.le_trans o3 (by decide)), q H2 x2⟩
theorem ev_reprN {xs : List V} {ds : List PyData} (h : EvL te σ H xs) (y : Sys H) (hd : DqA K H xs ds) (ok : okL ds) : Ev (tCB (rRepr K) (tCons te tNil)) σ H (.str (PyData.list ds).shown) := fun H1 x Q q =>
  h H1 x _ fun p H2 hp x2 hx => ⟨_, .list ds, rfl, y.mono (same_ex (x.trans x2)), .lst hx (hd.mono (same_ex (x.trans x2))), ok.1, ok.2.1, Nat.le_trans (shown_le _) (Nat.le_trans ok.2.2 (by decide)), q H2 x2⟩
theorem ed_repr (h : EvD K te σ G d) (y : Sys G) (ok : okD d) : Ev (tCB (rRepr K) (tCons te tNil)) σ G (.str d.shown) := fun H1 x Q q =>
  h H1 x _ fun v G2 H2 z hd => ⟨v, d, rfl, y.mono (same_ex (z.gg.trans z.gh)), hd.mono (same_ex z.gh), ok.fits.1, ok.fits.2.1, ok.fits.2.2, q H2 z.hh⟩
theorem el_rep {xs : List V} {n : Nat} (h : EvL ta σ H xs) (hn : xs.length * n ≤ 100000) (hn2 : n ≤ 100000) : EvL (tOp rRep ta (tC (.int (n : Int)))) σ H (List.replicate n xs).flatten := fun H1 x Q q =>
  h H1 x _ fun p H2 hp x2 hx => ⟨p, (n : Int), xs, rfl, rfl, hx, by omega, by omega, by rw [Int.toNat_natCast]; exact sz_of hn, fun l hl => by
    rw [Int.toNat_natCast]
    exact q l _ (fresh_back x2 hl) (x2.trans (Ex.new hl)) upd_same⟩
theorem et_neD (ha : EvD K ta σ G d) (hb : EvD K tb σ G e) (n1 : d.hasDict = false) (n2 : e.hasDict = false) (s1 : SeqAt.shaped d = true) (s2 : SeqAt.shaped e = true) :
    EvT (tTest (tOp (rNeD K) ta tb)) σ G (!PyData.eqv d e) := fun H1 x Q q => ha H1 x _ fun v G2 H2 y hd => (hb.mono y.gg) H2 y.gh _ fun v' G3 H3 z he =>
  ⟨d, e, dp_of (hd.mono (same_ex (y.gh.trans z.hh))) n1, dp_of (he.mono (same_ex z.gh)) n2, s1, s2, _, rfl, q H3 (y.hh.trans z.hh)⟩
theorem ev_eqD (ha : EvD K ta σ G d) (hb : EvD K tb σ G e) (n1 : d.hasDict = false) (n2 : e.hasDict = false) (s1 : SeqAt.shaped d = true) (s2 : SeqAt.shaped e = true) :
    Ev (tOp (rEqD K) ta tb) σ G (.bl (PyData.eqv d e)) := fun H1 x Q q => ha H1 x _ fun v G2 H2 y hd => (hb.mono y.gg) H2 y.gh _ fun v' G3 H3 z he =>
  ⟨d, e, dp_of (hd.mono (same_ex (y.gh.trans z.hh))) n1, dp_of (he.mono (same_ex z.gh)) n2, s1, s2, q H3 (y.hh.trans z.hh)⟩
/-- e.f of an exception with one field -/
theorem ev_xat {C a : Addr} {f : Str} (h : Ev te σ H (.ref a)) (hx : XV H a C f v) (T : ExcC K C) (hno : PySem.W.findIn K (.ref C) f = some none) : Ev (tXat K f te) σ H v := fun H1 x Q q =>
  h H1 x _ fun H2 x2 => by
    obtain ⟨dx, h1, h2⟩ := hx.mono (same_ex (x.trans x2))
    exact ⟨a, C, dx, _, v, rfl, xat_exo h1, .inl h2, T, hno, by simp [List.lookup], q H2 x2⟩
end
end Kx

set_option Elab.async false
set_option maxRecDepth 100000
set_option linter.all false
set_option maxHeartbeats 4000000
/-! KitP: steps, bodies and parts of programs as data; growth of the heap but for one list that is written (a generator's). -/
namespace Kx
open PySem PySem.Spec PyProof.Rows L2 Evl

inductive Stp where
  | call (n : Str) | tail (n : Str) | check (r : Str) | back
  | either (a b : List Stp) | loop (b : List Stp) | block (m : Bool) (b : List Stp)
mutual
def stpD : Stp → PyData
  | .call n => .tuple [.str "call", .str n]
  | .tail n => .tuple [.str "tail", .str n]
  | .check r => .tuple [.str "check", .str r]
  | .back => .tuple [.str "back"]
  | .either a b => .tuple [.str "either", .list (bodyD a), .list (bodyD b)]
  | .loop b => .tuple [.str "loop", .list (bodyD b)]
  | .block m b => .tuple [.str "block", .bool m, .list (bodyD b)]
def bodyD : List Stp → List PyData
  | [] => []
  | s :: r => stpD s :: bodyD r
end
theorem bodyD_map : ∀ b : List Stp, bodyD b = b.map stpD
  | [] => by simp only [bodyD, List.map_nil]
  | s :: r => by simp only [bodyD, List.map_cons, bodyD_map r]
mutual
/-- fits for these rights and names; mk: within a marked block -/
def okS (rs ns : List Str) (mk : Bool) : Stp → Bool
  | .call n => decide (n ∈ ns)
  | .tail n => decide (n ∈ ns) && !mk
  | .check r => decide (r ∈ rs)
  | .back => true
  | .either a b => okB rs ns mk a && okB rs ns mk b
  | .loop b => okB rs ns mk b
  | .block m b => okB rs ns (mk || m) b
def okB (rs ns : List Str) (mk : Bool) : List Stp → Bool
  | [] => true
  | s :: r => okS rs ns mk s && okB rs ns mk r
end
theorem okB_app {rs ns : List Str} {mk : Bool} : ∀ {a b : List Stp}, okB rs ns mk a = true → okB rs ns mk b = true → okB rs ns mk (a ++ b) = true
  | [], _, _, h => h
  | s :: r, b, h1, h2 => by
    simp only [okB, Bool.and_eq_true, List.cons_append] at h1 ⊢
    exact ⟨h1.1, okB_app h1.2 h2⟩
theorem okB_mem {rs ns : List Str} {mk : Bool} {s : Stp} : ∀ {a : List Stp}, okB rs ns mk a = true → s ∈ a → okS rs ns mk s = true
  | t :: r, h, hm => by
    simp only [okB, Bool.and_eq_true] at h
    rcases List.mem_cons.mp hm with rfl | hm
    · exact h.1
    · exact okB_mem h.2 hm
theorem okB_of {rs ns : List Str} {mk : Bool} : ∀ {a : List Stp}, (∀ s ∈ a, okS rs ns mk s = true) → okB rs ns mk a = true
  | [], _ => by simp only [okB]
  | t :: r, h => by
    simp only [okB, Bool.and_eq_true]
    exact ⟨h t (List.mem_cons_self ..), okB_of fun s hs => h s (List.mem_cons_of_mem _ hs)⟩
mutual
/-- the number of steps; how deep they are nested -/
def cntS : Stp → Nat
  | .either a b => 1 + cntB a + cntB b
  | .loop b => 1 + cntB b
  | .block _ b => 1 + cntB b
  | _ => 1
def cntB : List Stp → Nat
  | [] => 0
  | s :: r => cntS s + cntB r
end
mutual
def nstS : Stp → Nat
  | .either a b => 1 + max (nstB a) (nstB b)
  | .loop b => 1 + nstB b
  | .block _ b => 1 + nstB b
  | _ => 0
def nstB : List Stp → Nat
  | [] => 0
  | s :: r => max (nstS s) (nstB r)
end
theorem cntB_app : ∀ a b : List Stp, cntB (a ++ b) = cntB a + cntB b
  | [], b => by simp only [List.nil_append, cntB, Nat.zero_add]
  | s :: r, b => by simp only [List.cons_append, cntB, cntB_app r b, Nat.add_assoc]
theorem nstB_app : ∀ a b : List Stp, nstB (a ++ b) = max (nstB a) (nstB b)
  | [], b => by simp [nstB]
  | s :: r, b => by simp only [List.cons_append, nstB, nstB_app r b, Nat.max_assoc]

/-! ### growth but for one written list -/
structure ExtG (g : Addr) (G H1 G2 H2 : Hp) : Prop where
  hh : ∀ a o, a ≠ g → H1 a = some o → H2 a = some o
  gg : Ex G G2
  gh : Ex G2 H2
  ag : ∀ a o, H1 a = some o → G2 a = G a
section
variable {g : Addr} {G H1 G2 H2 G3 H3 : Hp}
theorem ExtG.refl (e : Ex G H1) : ExtG g G H1 G H1 := ⟨fun _ _ _ h => h, Ex.refl G, e, fun _ _ _ => rfl⟩
/-- H1 knows g all along -/
theorem ExtG.trans (a : ExtG g G H1 G2 H2) (b : ExtG g G2 H2 G3 H3) (hg : ∃ o, H2 g = some o) : ExtG g G H1 G3 H3 :=
  ⟨fun c o n h => b.hh c o n (a.hh c o n h), a.gg.trans b.gg, b.gh, fun c o h => by
    by_cases z : c = g
    · obtain ⟨o', h'⟩ := hg
      rw [z] at h ⊢
      exact (b.ag g o' h').trans (a.ag g o h)
    · exact (b.ag c o (a.hh c o z h)).trans (a.ag c o h)⟩
theorem Ext.extG (x : Ext G H1 G2 H2) : ExtG g G H1 G2 H2 := ⟨fun a o _ h => x.hh a o h, x.gg, x.gh, x.ag⟩
theorem ExtG.thenE (a : ExtG g G H1 G2 H2) (b : Ext G2 H2 G3 H3) (hg : ∃ o, H2 g = some o) : ExtG g G H1 G3 H3 := a.trans b.extG hg
/-- g itself is written -/
theorem ExtG.wr {o : HO} (e : Ex G H1) (n : G g = none) : ExtG g G H1 G (upd H1 g o) :=
  ⟨fun a u z h => by rw [upd_ne z]; exact h, Ex.refl G, fun a u h => by
    rw [upd_ne (ne_of_none h n)]
    exact e a u h, fun _ _ _ => rfl⟩
theorem ExtG.off (a : ExtG g G H1 G2 H2) (n : G g = none) (h : ∃ o, H1 g = some o) : G2 g = none := by
  obtain ⟨o, h⟩ := h
  exact (a.ag g o h).trans n
theorem ExtG.new {p : Addr} {o : HO} (a : ExtG g G H1 G2 H2) (hp : H2 p = none) (hg : ∃ o, H2 g = some o) : ExtG g G H1 (upd G2 p o) (upd H2 p o) := a.thenE (Ext.new a.gh hp (Ex.new hp) upd_same) hg
end
end Kx
namespace Kx
open PySem PySem.Spec PyProof.Rows L2 Evl
/-- a generator at g: what a draw may ask; n: how far its counter may have gone -/
def GenAt (H : Hp) (g : Addr) (n : Nat) : Prop := ∃ a b c : Int, H g = some (.lst [.int a, .int b, .int c]) ∧ (0 ≤ a ∧ a < 2 ^ 2000) ∧ (0 ≤ b ∧ b < 2147483647) ∧ (0 ≤ c ∧ c ≤ n)
theorem GenAt.is {H : Hp} {g : Addr} {n : Nat} (h : GenAt H g n) : ∃ o, H g = some o := let ⟨_, _, _, e, _⟩ := h; ⟨_, e⟩
theorem GenAt.le {H : Hp} {g : Addr} {n m : Nat} (h : GenAt H g n) (l : n ≤ m) : GenAt H g m := let ⟨a, b, c, e, h1, h2, h3⟩ := h; ⟨a, b, c, e, h1, h2, by omega⟩
theorem GenAt.of {H H' : Hp} {g : Addr} {n : Nat} (h : GenAt H g n) (x : H' g = H g) : GenAt H' g n := let ⟨a, b, c, e, r⟩ := h; ⟨a, b, c, x.trans e, r⟩
theorem GenAt.ex {H H' : Hp} {g : Addr} {n : Nat} (h : GenAt H g n) (x : Ex H H') : GenAt H' g n := let ⟨a, b, c, e, r⟩ := h; ⟨a, b, c, x _ _ e, r⟩
/-- where we stand: the known part, the heap, the generator's counter -/
structure KS (g : Addr) (G0 H0 G H : Hp) (n : Nat) : Prop where
  x : ExtG g G0 H0 G H
  gen : GenAt H g n
  off : G g = none
section
variable {g p : Addr} {G0 H0 G H G2 H2 : Hp} {n m : Nat} {o : HO}
theorem KS.start (e : Ex G H) (h : GenAt H g n) (o : G g = none) : KS g G H G H n := ⟨ExtG.refl e, h, o⟩
theorem KS.draw (k : KS g G0 H0 G H n) (e : H2 = upd H g o) (h : GenAt H2 g m) : KS g G0 H0 G H2 m := by
  subst e
  exact ⟨k.x.trans (ExtG.wr k.x.gh k.off) k.gen.is, h, k.off⟩
theorem KS.ne (k : KS g G0 H0 G H n) (h : H p = none) : p ≠ g := fun z => by
  obtain ⟨o, e⟩ := k.gen.is
  rw [z, e] at h
  cases h
/-- a new object that is known -/
theorem KS.new (k : KS g G0 H0 G H n) (h : H p = none) : KS g G0 H0 (upd G p o) (upd H p o) n :=
  ⟨k.x.new h k.gen.is, k.gen.ex (Ex.new h), by rw [upd_ne (k.ne h).symm]; exact k.off⟩
/-- a new object that is our own -/
theorem KS.own (k : KS g G0 H0 G H n) (h : H p = none) : KS g G0 H0 G (upd H p o) n :=
  ⟨k.x.thenE ⟨Ex.new h, Ex.refl G, k.x.gh.trans (Ex.new h), fun _ _ _ => rfl⟩ k.gen.is, k.gen.ex (Ex.new h), k.off⟩
theorem KS.step (k : KS g G0 H0 G H n) (x : Ext G H G2 H2) : KS g G0 H0 G2 H2 n :=
  ⟨k.x.thenE x k.gen.is, k.gen.ex x.hh, by obtain ⟨o, e⟩ := k.gen.is; exact (x.ag _ _ e).trans k.off⟩
theorem KS.then (k : KS g G0 H0 G H n) (x : KS g G H G2 H2 m) : KS g G0 H0 G2 H2 m := ⟨k.x.trans x.x k.gen.is, x.gen, x.off⟩
/-- our own object is written -/
theorem KS.put (k : KS g G0 H0 G H n) (n0 : H0 p = none) (ng : G p = none) (hp : p ≠ g) : KS g G0 H0 G (upd H p o) n := by
  refine ⟨⟨fun a u z h => ?_, k.x.gg, fun a u h => ?_, k.x.ag⟩, k.gen.of (upd_ne hp.symm), k.off⟩
  · rw [upd_ne (ne_of_none h n0)]
    exact k.x.hh a u z h
  · rw [upd_ne (ne_of_none h ng)]
    exact k.x.gh a u h
/-- our own object is known from now on -/
theorem KS.freeze (k : KS g G0 H0 G H n) (n0 : H0 p = none) (ng : G p = none) (hp : p ≠ g) (h : H p = some o) : KS g G0 H0 (upd G p o) H n := by
  refine ⟨⟨k.x.hh, k.x.gg.trans (Ex.new ng), fun a u q => ?_, fun a u q => ?_⟩, k.gen, by rw [upd_ne hp.symm]; exact k.off⟩
  · by_cases z : a = p
    · rw [z, upd_same] at q
      rw [z, h]
      exact q
    · rw [upd_ne z] at q
      exact k.x.gh a u q
  · rw [upd_ne (ne_of_none q n0)]
    exact k.x.ag a u q
theorem KS.hnone (k : KS g G0 H0 G H n) (h : H p = none) : H0 p = none := by
  cases e : H0 p with
  | none => rfl
  | some o => rw [k.x.hh p o (k.ne h) e] at h; cases h
theorem KS.le (k : KS g G0 H0 G H n) (l : n ≤ m) : KS g G0 H0 G H m := ⟨k.x, k.gen.le l, k.off⟩
theorem KS.gnone (k : KS g G0 H0 G H n) (h : H p = none) : G p = none := fresh_back k.x.gh h
end
end Kx
namespace Kx
open PySem PySem.Spec PyProof.Rows L2 Evl
/-! ### owners -/
theorem nodup_rev {α : Type} {l : List α} (h : l.Nodup) : l.reverse.Nodup := List.pairwise_reverse.mpr (h.imp fun h e => h e.symm)
abbrev Own := Str × List Str
def strsD (xs : List Str) : PyData := .list (xs.map .str)
def ownD (o : Own) : PyData := .tuple [.str o.1, strsD o.2]
def rights3 : List Str := ["write", "read", "net"]
def names3 : List Str := ["app", "lib", "web"]
def ownOk (rs : List Str) (o : Own) : Prop := o.1 ∈ names3 ∧ o.2.Nodup ∧ ∀ r ∈ o.2, r ∈ rs
structure OwnsOk (rs : List Str) (os : List Own) : Prop where
  nd : (os.map (·.1)).Nodup
  ne : os ≠ []
  le : os.length ≤ 3
  ok : ∀ o ∈ os, ownOk rs o
section
variable {K : PySem.W.Frag} {G : Hp}
theorem dqa_strs : ∀ xs : List Str, DqA K G (xs.map V.str) (xs.map PyData.str)
  | [] => .nil
  | x :: xs => .cons (.str x) (dqa_strs xs)
theorem dq_strs {p : Addr} {xs : List Str} (h : G p = some (.lst (xs.map V.str))) : Dq K G (.ref p) (strsD xs) := .lst h (dqa_strs xs)
theorem dqa_rev : ∀ {vs : List V} {ds : List PyData}, DqA K G vs ds → DqA K G vs.reverse ds.reverse
  | _, _, .nil => .nil
  | _, _, .cons a b => by
    rw [List.reverse_cons, List.reverse_cons]
    exact dqa_app (dqa_rev b) a
end
end Kx

set_option Elab.async false
set_option maxRecDepth 100000
set_option linter.all false
set_option maxHeartbeats 4000000
namespace Lx
open PySem PySem.Spec PyProof.Rows L2 Evl Kx
abbrev sCell : Stmt := top 43
abbrev sHash : Stmt := top 42
abbrev sGen : Stmt := top 50
abbrev sRnd : Stmt := top 49
section
variable {P : Program} {w : World} {K : PySem.W.Frag} {mg : Str → Option Value} {base : Heap} {f : Addr} {fd : FuncData}

theorem scCell : FnScope ["script", "index"] ["script", "index"] (defScope sCell) := ⟨rfl, rfl, rfl, by decide +kernel, rfl, by decide +kernel, by decide +kernel⟩
def spCell (K : PySem.W.Frag) : Sp := fun vs H Q _ => ∃ (l : Addr) (ns : List Int) (j : Nat), vs = [.ref l, .int j] ∧ SqL K H l (ns.map V.int) ∧ Q (.int (ns.getD j 0)) H
theorem ok_cell (F : Fun K "_law_cell" "_law_cell" sCell f fd) (mL : mg "len" = none) : FnOk P w K mg base CX0 1 f fd ["script", "index"] (spCell K) := by
  refine F.ok scCell (fun vs H Q E h => ?_) (fun cdv A outer s H vs Q E hr h => ?_)
  · obtain ⟨l, ns, j, rfl, _⟩ := h
    rfl
  · obtain ⟨l, ns, j, rfl, hS, q⟩ := h
    refine ⟨_, pss_cons (ps_if (pt_cmpR op_lt (pv 1) (pe_callB call_len_seq (by rfl) mL PySem.boot_len (pa_cons (pv 0) pa_nil)) (nomark _))
      (pss_one (ps_ret (pe_ix ix_list (pv 0) (pv 1) (fun _ _ => rfl)))) pss_nil) (pss_one (ps_ret pe_int)), ?_⟩
    refine ⟨_, rfl, _, rfl, l, _, rfl, .inl hS, _, _, rfl, rfl, _, rfl, ?_⟩
    refine ite2 (fun h => ?_) (fun h => ?_)
    · have hj : j < ns.length := by
        have h2 := of_decide_eq_true h
        rw [List.length_map] at h2
        omega
      refine ⟨_, rfl, _, rfl, l, _, _, .int (ns.getD j 0), rfl, rfl, hS, atI_nat ?_, q⟩
      rw [List.getElem?_map, List.getElem?_eq_getElem hj, List.getD_eq_getElem?_getD, List.getElem?_eq_getElem hj] <;> rfl
    · have hj : ¬ j < ns.length := fun z => h (decide_eq_true (by rw [List.length_map]; omega))
      rw [List.getD_eq_getElem?_getD, List.getElem?_eq_none (by omega)] at q
      exact q

theorem scHash : FnScope ["seed", "index", "mixed"] ["seed", "index"] (defScope sHash) := ⟨rfl, rfl, rfl, by decide +kernel, rfl, by decide +kernel, by decide +kernel⟩
def spHash : Sp := fun vs H Q _ => ∃ s i : Int, vs = [.int s, .int i] ∧ (0 ≤ s ∧ s < 2147483647) ∧ (0 ≤ i ∧ i < 2 ^ 60) ∧ ∀ r : Int, 0 ≤ r ∧ r < 2147483587 → Q (.int r) H
theorem ok_hash (F : Fun K "_law_hash" "_law_hash" sHash f fd) (mI : mg "int" = none) : FnOk P w K mg base CX0 1 f fd ["seed", "index"] spHash := by
  refine F.ok scHash (fun vs H Q E h => ?_) (fun cdv A outer s H vs Q E hr h => ?_)
  · obtain ⟨_, _, rfl, _⟩ := h
    rfl
  · obtain ⟨z, i, rfl, hz, hi, q⟩ := h
    refine ⟨_, pss_cons (ps_set (i := 2) scHash.nd rfl (Or.inl rfl) (pe_op op_mod (pe_callTy call_int1 (by rfl) mI PyProof.Rows.boot_int
        (pa_cons (pe_op op_add (pe_op op_add (pe_op op_add (pe_op op_mul (pv 0) pe_int) (pe_op op_mul (pe_op op_mul pe_int (pv 1)) (pv 1))) (pv 1)) pe_int) pa_nil)) pe_int))
      (pss_cons (ps_set (i := 2) scHash.nd rfl (Or.inl rfl) (pe_op op_mod (pe_callTy call_int1 (by rfl) mI PyProof.Rows.boot_int
        (pa_cons (pe_op op_add (pe_op op_mul (pv 2) (pv 2)) pe_int) pa_nil)) pe_int))
      (pss_one (ps_ret (pe_op op_mod (pe_callTy call_int1 (by rfl) mI PyProof.Rows.boot_int (pa_cons (pe_op op_mul (pv 2) pe_int) pa_nil)) pe_int)))), ?_⟩
    have e60 : (2 : Int) ^ 60 = 1152921504606846976 := by decide
    rw [e60] at hi
    have c1 : CMul z 1103515245 := .inr (by decide)
    have c2 : CMul 7919 i := .inl (by decide)
    have c3 : CMul (7919 * i) i := .inr (by
      have e64 : (2 : Int) ^ 64 = 18446744073709551616 := by decide
      rw [e64]
      omega)
    have c4 : ∀ x : Int, CMul (x % 2147483647) (x % 2147483647) := fun x => .inr (by
      have e64 : (2 : Int) ^ 64 = 18446744073709551616 := by decide
      rw [e64]
      omega)
    have c5 : ∀ x : Int, CMul x 48271 := fun x => .inr (by decide)
    have mp : ∀ {b : Int}, 0 < b → 0 < b := fun h => h
    refine ⟨_, rfl, _, _, rfl, rfl, c1, ?_⟩
    refine ⟨_, rfl, _, _, rfl, rfl, c2, _, rfl, _, _, rfl, rfl, c3, _, _, rfl, rfl, _, rfl, _, _, rfl, rfl, _, _, rfl, rfl, ?_⟩
    refine .inl ⟨_, rfl, _, _, rfl, rfl, mp (by decide), ?_⟩
    refine ⟨_, rfl, _, rfl, _, _, rfl, rfl, c4 _, _, _, rfl, rfl, .inl ⟨_, rfl, _, _, rfl, rfl, mp (by decide), ?_⟩⟩
    refine ⟨_, rfl, _, _, rfl, rfl, c5 _, .inl ⟨_, rfl, _, _, rfl, rfl, mp (by decide), ?_⟩⟩
    exact q _ (by omega)
theorem scGen : FnScope ["script", "index", "seed"] ["script", "index"] (defScope sGen) := ⟨rfl, rfl, rfl, by decide +kernel, rfl, by decide +kernel, by decide +kernel⟩
structure spGen (K : PySem.W.Frag) (vs : List V) (H : Hp) (Q : VK) (E_ : XK) : Prop where
  mk' ::
  out : ∃ (l : Addr) (ns : List Int) (j : Nat), vs = [.ref l, .int j] ∧ SqL K H l (ns.map V.int) ∧ ∀ p H', H p = none → Same H H' → GenAt H' p (1000 * j) → Q (.ref p) H'
theorem ok_gen {fC : Addr} {fdC : FuncData} (F : Fun K "_law_generator" "_law_generator" sGen f fd) (mI : mg "int" = none) (mM : mg "max" = none)
    (FC : FnOk P w K mg base CX0 1 fC fdC ["script", "index"] (spCell K)) (mC : mg "_law_cell" = some (.ref fC)) (kC : PySem.W.keepIn K (.ref fC) = true) (bC : Binds K fdC ["script", "index"] []) :
    FnOk P w K mg base CX0 2 f fd ["script", "index"] (spGen K) := by
  refine F.ok scGen (fun vs H Q E h => ?_) (fun cdv A outer s H vs Q E hr h => ?_)
  · obtain ⟨_, _, _, rfl, _⟩ := h
    rfl
  · obtain ⟨l, ns, j, rfl, hS, q⟩ := h
    refine ⟨_, pss_cons (ps_set (i := 2) scGen.nd rfl (Or.inl rfl) (pe_call FC hr rfl mC kC bC .nil pass0 (pa_cons (pv 0) (pa_cons (pv 1) pa_nil))))
      (pss_one (ps_ret (pe_lst (pa_cons (pe_op op_mod (pe_callTy call_int1 (by rfl) mI PyProof.Rows.boot_int (pa_cons (pe_callB (call_max2 rfl) (by rfl) mM (by decide +kernel)
          (pa_cons (pe_op op_sub (pv 2) (pe_op op_pow pe_int pe_int)) (pa_cons pe_int pa_nil))) pa_nil)) (pe_op op_powB (pe_op op_pow pe_int pe_int) pe_int))
        (pa_cons (pe_op op_mod (pe_callTy call_int1 (by rfl) mI PyProof.Rows.boot_int (pa_cons (pv 2) pa_nil)) pe_int)
        (pa_cons (pe_op op_mul pe_int (pv 1)) pa_nil)))))), ?_⟩
    have mp : ∀ {b : Int}, 0 < b → 0 < b := fun h => h
    refine ⟨_, rfl, _, rfl, l, ns, j, rfl, hS, ?_⟩
    have hp : CPow 10 18 := ⟨by decide, by decide, by decide⟩
    have hp2 : CPow 10 60 := ⟨by decide, by decide, by decide⟩
    refine ⟨_, rfl, _, _, rfl, rfl, hp, _, _, rfl, rfl, _, _, rfl, ?_⟩
    refine .inl ⟨_, rfl, _, _, rfl, rfl, hp2, _, _, rfl, rfl, ⟨by decide, by decide +kernel⟩, _, _, rfl, rfl, mp (by decide +kernel), ?_⟩
    refine ⟨_, rfl, .inl ⟨_, rfl, _, _, rfl, rfl, mp (by decide), ?_⟩⟩
    refine ⟨_, rfl, _, _, rfl, rfl, .inl (by decide), ?_⟩
    refine ⟨by show 3 ≤ sizeLine; decide, fun p hp => q p _ hp (same_ex (Ex.new hp)) ⟨_, _, _, upd_same, ⟨?_, ?_⟩, ⟨?_, ?_⟩, ?_, ?_⟩⟩
    · exact Int.emod_nonneg _ (by decide +kernel)
    · exact Int.lt_of_lt_of_le (Int.emod_lt_of_pos _ (by decide +kernel)) (by decide +kernel)
    · omega
    · omega
    · omega
    · omega

theorem scRnd : FnScope ["generator", "bound", "drawn", "turn"] ["generator", "bound"] (defScope sRnd) := ⟨rfl, rfl, rfl, by decide +kernel, rfl, by decide +kernel, by decide +kernel⟩
structure spRnd (vs : List V) (H : Hp) (Q : VK) (E_ : XK) : Prop where
  mk' ::
  out : ∃ (g : Addr) (n : Nat) (m : Int), vs = [.ref g, .int m] ∧ GenAt H g n ∧ n < 2 ^ 50 ∧ (1 ≤ m ∧ m < 2 ^ 59) ∧
  ∀ (r : Int) H' o, 0 ≤ r ∧ r < m → H' = upd H g o → GenAt H' g (n + 2) → Q (.int r) H'
theorem ok_rnd {fH : Addr} {fdH : FuncData} (F : Fun K "_law_random" "_law_random" sRnd f fd) (mI : mg "int" = none) (mR : mg "range" = none)
    (FH : FnOk P w K mg base CX0 1 fH fdH ["seed", "index"] spHash) (mH : mg "_law_hash" = some (.ref fH)) (kH : PySem.W.keepIn K (.ref fH) = true) (bH : Binds K fdH ["seed", "index"] []) :
    FnOk P w K mg base CX0 2 f fd ["generator", "bound"] spRnd := by
  refine F.ok scRnd (fun vs H Q E h => ?_) (fun cdv A outer s H vs Q E hr h => ?_)
  · obtain ⟨_, _, _, rfl, _⟩ := h
    rfl
  · obtain ⟨g, n, m, rfl, ⟨a, b, c, hg, ha, hb, hc⟩, hn, hm, q⟩ := h
    refine ⟨_, pss_cons (ps_if (pt_cmpR op_gt (pe_ix ix_list (pv 0) pe_int (fun _ _ => rfl)) pe_int (nomark _))
        (pss_cons (ps_set (i := 2) scRnd.nd rfl (Or.inl rfl) (pe_op op_mod (pe_callTy call_int1 (by rfl) mI PyProof.Rows.boot_int (pa_cons (pe_ix ix_list (pv 0) pe_int (fun _ _ => rfl)) pa_nil)) (pv 1)))
        (pss_cons (ps_asg (pe_op op_fdivW (pe_ix ix_list (pv 0) pe_int (fun _ _ => rfl)) (pv 1)) (pg_sub (pv 0) pe_int set_list))
        (pss_one (ps_ret (pv 2))))) pss_nil)
      (pss_cons (ps_set (i := 2) scRnd.nd rfl (Or.inl rfl) pe_int)
      (pss_cons (ps_for PassesOwn.never rfl (pi_range1 (by rfl) mR (pa_cons (pe_op op_add pe_int (pe_op op_fdiv (pe_bits (pv 1)) pe_int)) pa_nil)) (pg_name (i := 3) scRnd.nd rfl (Or.inl rfl))
        (pss_cons (ps_asg (pe_op op_add (pe_ix ix_list (pv 0) pe_int (fun _ _ => rfl)) pe_int) (pg_sub (pv 0) pe_int set_list))
        (pss_one (ps_set (i := 2) scRnd.nd rfl (Or.inl rfl) (pe_op op_add (pe_op op_mul (pv 2) pe_int)
          (pe_call FH hr rfl mH kH bH .nil pass0 (pa_cons (pe_ix ix_list (pv 0) pe_int (fun _ _ => rfl)) (pa_cons (pe_ix ix_list (pv 0) pe_int (fun _ _ => rfl)) pa_nil))))))))
      (pss_one (ps_ret (pe_op op_mod (pe_callTy call_int1 (by rfl) mI PyProof.Rows.boot_int (pa_cons (pv 2) pa_nil)) (pv 1)))))), ?_⟩
    have mp : ∀ {b : Int}, 0 < b → 0 < b := fun h => h
    have hm0 : 0 < m := by omega
    have hmb : m.natAbs < 2 ^ 59 := by
      have e : ((2 ^ 59 : Nat) : Int) = 2 ^ 59 := by decide
      omega
    refine ⟨_, rfl, g, _, _, _, rfl, rfl, SqL.of hg, rfl, _, _, rfl, rfl, _, rfl, ite2 (fun h => ?_) (fun h => ?_)⟩
    · have h0 : 0 < a := of_decide_eq_true h
      refine ⟨_, rfl, g, _, _, _, rfl, rfl, SqL.of hg, rfl, .inl ⟨_, rfl, _, rfl, _, _, rfl, rfl, mp hm0, ?_⟩⟩
      refine ⟨_, rfl, g, _, _, _, rfl, rfl, SqL.of hg, rfl, _, rfl, _, _, rfl, rfl, wide_div hm0 hmb (by decide) (by decide), ?_⟩
      refine ⟨_, rfl, g, _, _, 0, rfl, rfl, hg, rfl, _, rfl, ?_⟩
      refine q _ _ _ ⟨Int.emod_nonneg _ (by omega), Int.emod_lt_of_pos _ hm0⟩ rfl ⟨a / m, b, c, upd_same, ⟨Int.ediv_nonneg (by omega) (by omega), ?_⟩, hb, by omega, by omega⟩
      exact Int.lt_of_le_of_lt (Int.ediv_le_self _ (by omega)) ha.2
    · have bits : Builtin.Int.intBits m ≤ 59 := by
        unfold Builtin.Int.intBits
        split
        · decide
        · have h1 : m.natAbs ≠ 0 := by omega
          exact (Nat.log2_lt h1).mpr hmb
      refine ⟨_, rfl, _, rfl, _, _, rfl, rfl, ⟨by decide, by decide⟩, _, _, rfl, rfl, _, rfl, by omega, by omega, ?_⟩
      refine for_range (lo := 0) (n := (1 + (Builtin.Int.intBits m : Int) / 30).toNat) (fun i σ H' => ∃ (c' d : Int) (t : Option V) (o : HO), σ = [some (.ref g), some (.int m), some (.int d), t] ∧ H' = upd H g o ∧
        H' g = some (.lst [.int a, .int b, .int c']) ∧ 0 ≤ c' ∧ c' ≤ n + i) ?_ ?_ ?_
      · refine ⟨c, 0, none, .lst [.int a, .int b, .int c], rfl, ?_, hg, by omega, by omega⟩
        funext z
        by_cases e : z = g
        · rw [e, hg, upd_same]
        · rw [upd_ne e]
      · rintro i σ H' hi ⟨c', d, t, o, rfl, rfl, h1, h2, h3⟩
        refine ⟨_, rfl, g, _, _, _, rfl, rfl, SqL.of h1, rfl, _, _, rfl, rfl, _, rfl, g, _, _, 2, rfl, rfl, h1, rfl, ?_⟩
        have e60 : (2 : Int) ^ 60 = 1152921504606846976 := by decide
        have e50 : (2 : Nat) ^ 50 = 1125899906842624 := by decide
        refine ⟨_, rfl, _, _, rfl, rfl, .inr (by decide), _, rfl, g, _, _, _, rfl, rfl, SqL.of upd_same, rfl, _, rfl, g, _, _, _, rfl, rfl, SqL.of upd_same, rfl, ?_⟩
        refine ⟨_, _, rfl, hb, ⟨by omega, by rw [e60]; omega⟩, fun r hr => ⟨_, _, rfl, rfl, c' + 1, _, _, _, rfl, upd_upd, upd_same, by omega, by omega⟩⟩
      · rintro σ H' ⟨c', d, t, o, rfl, rfl, h1, h2, h3⟩
        refine ⟨_, rfl, .inl ⟨_, rfl, _, rfl, _, _, rfl, rfl, mp hm0, ?_⟩⟩
        exact q _ _ o ⟨Int.emod_nonneg _ (by omega), Int.emod_lt_of_pos _ hm0⟩ rfl ⟨a, b, c', h1, ha, hb, h2, by omega⟩

/-! ### the rights -/
abbrev sRts : Stmt := top 44
theorem scRts : FnScope ["generator"] ["generator"] (defScope sRts) := ⟨rfl, rfl, rfl, by decide +kernel, rfl, by decide +kernel, by decide +kernel⟩
/-- drawn rights: at the list p, known -/
structure spRts (vs : List V) (H : Hp) (Q : VK) (E_ : XK) : Prop where
  mk' ::
  out : ∃ (g : Addr) (n : Nat) (G : Hp), vs = [.ref g] ∧ GenAt H g n ∧ n < 2 ^ 49 ∧ Ex G H ∧ G g = none ∧
  ∀ (p : Addr) G2 H2 (k : Nat), KS g G H G2 H2 (n + 2) → G2 p = some (.lst ((rights3.take (k + 1)).map V.str)) → k < 3 → Q (.ref p) H2
theorem ok_rts {fR : Addr} {fdR : FuncData} (F : Fun K "_law_rights_drawn" "_law_rights_drawn" sRts f fd) (FR : FnOk P w K mg base CX0 2 fR fdR ["generator", "bound"] spRnd) (mR : mg "_law_random" = some (.ref fR)) (kR : PySem.W.keepIn K (.ref fR) = true) (bR : Binds K fdR ["generator", "bound"] []) :
    FnOk P w K mg base CX0 3 f fd ["generator"] spRts := by
  refine F.ok scRts (fun vs H Q E h => ?_) (fun cdv A outer s H vs Q E hr h => ?_)
  · obtain ⟨_, _, _, rfl, _⟩ := h
    rfl
  · obtain ⟨g, n, G, rfl, hg, hn, e, n0, q⟩ := h
    refine ⟨_, pss_one (ps_ret (pe_slice sl_list (pe_lst (pa_cons pe_str (pa_cons pe_str (pa_cons pe_str pa_nil)))) po_none (po_some (pe_op op_add pe_int (pe_call FR hr rfl mR kR bR .nil pass0 (pa_cons (pv 0) (pa_cons pe_int pa_nil))))))), ?_⟩
    refine ⟨by show 3 ≤ sizeLine; decide, fun p hp => ⟨_, rfl, g, n, 3, rfl, (KS.start e hg n0).own hp |>.gen, by omega, by decide, fun r H2 o hr2 hH2 g2 => ?_⟩⟩
    have k1 := ((KS.start e hg n0).own (p := p) (o := .lst [V.str "write", V.str "read", V.str "net"]) hp).draw hH2 g2
    have pg : p ≠ g := (KS.start e hg n0).ne hp
    have h2 : H2 p = some (.lst [V.str "write", V.str "read", V.str "net"]) := by
      rw [hH2, upd_ne pg]
      exact upd_same
    refine ⟨_, _, rfl, rfl, _, rfl, p, _, rfl, SqL.of h2, fun p2 hp2 => ?_⟩
    obtain ⟨k, hk, rfl⟩ : ∃ k : Nat, k < 3 ∧ r = (k : Int) := ⟨r.toNat, by omega, by omega⟩
    refine q p2 _ _ k (k1.new (o := .lst ((rights3.take (k + 1)).map V.str)) hp2) upd_same hk |> fun z => ?_
    match k, hk, z with
    | 0, _, z => exact z
    | 1, _, z => exact z
    | 2, _, z => exact z
    | k + 3, h, _ => omega

/-- a draw, from where we stand -/
theorem rnd_k {g : Addr} {G0 H0 G H : Hp} {n : Nat} {m : Int} {Q : VK} {E : XK} (k : KS g G0 H0 G H n) (hn : n < 2 ^ 50) (hm : 1 ≤ m ∧ m < 2 ^ 59)
    (q : ∀ (r : Int) H2, 0 ≤ r ∧ r < m → (∀ a, a ≠ g → H2 a = H a) → KS g G0 H0 G H2 (n + 2) → Q (.int r) H2) : spRnd [.ref g, .int m] H Q E :=
  ⟨g, n, m, rfl, k.gen, hn, hm, fun r H2 _ hr e g2 => q r H2 hr (fun a z => by rw [e, upd_ne z]) (k.draw e g2)⟩
/-- a list of our own choice, or the same turned about -/
theorem rev_or {g z : Addr} {G0 H0 G H : Hp} {n i : Nat} {xs : List V} {σ : L2.St} {Qc : VK} {c : Prop} [Decidable c] (k : KS g G0 H0 G H n) (hz : G z = some (.lst xs)) (hσ : σ[i]? = some (some (.ref z)))
    (fin : ∀ p G2 H2 (b : Bool), KS g G0 H0 G2 H2 n → Ext G H G2 H2 → G2 p = some (.lst (if b then xs.reverse else xs)) → Qc (.ref p) H2) :
    if c then tRevL K (tVar i) σ H Qc else tVar i σ H Qc := by
  refine ite2 (fun _ => ⟨_, hσ, z, xs, rfl, SqL.of (k.x.gh _ _ hz), fun p hp => ?_⟩) (fun _ => ⟨_, hσ, ?_⟩)
  · exact fin p _ _ true (k.new hp) (Ext.new k.x.gh hp (Ex.new hp) upd_same) upd_same
  · exact fin z _ _ false k (Ext.refl k.x.gh) hz
/-! ### the owners -/
abbrev sOws : Stmt := top 45
theorem scOws : FnScope ["generator", "rights", "found", "name", "some", "right"] ["generator", "rights"] (defScope sOws) := ⟨rfl, rfl, rfl, by decide +kernel, rfl, by decide +kernel, by decide +kernel⟩
structure spOws (K : PySem.W.Frag) (vs : List V) (H : Hp) (Q : VK) (E_ : XK) : Prop where
  mk' ::
  out : ∃ (g pr : Addr) (n : Nat) (G : Hp) (rs : List Str), vs = [.ref g, .ref pr] ∧ GenAt H g n ∧ n < 2 ^ 49 ∧ Ex G H ∧ G g = none ∧ G pr = some (.lst (rs.map V.str)) ∧ rs.length ≤ 3 ∧ rs.Nodup ∧
  ∀ (p : Addr) G2 H2 (os : List Own), KS g G H G2 H2 (n + 40) → Dq K G2 (.ref p) (.list (os.map ownD)) → OwnsOk rs os → Q (.ref p) H2
theorem ok_ows {fR : Addr} {fdR : FuncData} (F : Fun K "_law_owners_drawn" "_law_owners_drawn" sOws f fd) (FR : FnOk P w K mg base CX0 2 fR fdR ["generator", "bound"] spRnd) (mR : mg "_law_random" = some (.ref fR)) (kR : PySem.W.keepIn K (.ref fR) = true) (bR : Binds K fdR ["generator", "bound"] []) :
    FnOk P w K mg base CX0 3 f fd ["generator", "rights"] (spOws K) := by
  refine F.ok scOws (fun vs H Q E h => ?_) (fun cdv A outer s H vs Q E hr h => ?_)
  · obtain ⟨_, _, _, _, _, rfl, _⟩ := h
    rfl
  · obtain ⟨g, pr, n, G, rs, rfl, hg, hn, e, n0, hpr, hrl, hrn, q⟩ := h
    refine ⟨_, pss_cons (ps_set (i := 2) scOws.nd rfl (Or.inl rfl) (pe_lst pa_nil))
      (pss_cons (ps_for PassesOwn.never rfl (pi_list (pe_slice sl_list (pe_lst (pa_cons pe_str (pa_cons pe_str (pa_cons pe_str pa_nil)))) po_none (po_some (pe_op op_add pe_int (pe_call FR hr rfl mR kR bR .nil pass0 (pa_cons (pv 0) (pa_cons pe_int pa_nil))))))) (pg_name (i := 3) scOws.nd rfl (Or.inl rfl))
        (pss_cons (ps_setLc (i := 4) (own := [("right", 5)]) (g := gName 5) rfl scOws.nd rfl rfl (sw_true rfl rfl rfl (by decide +kernel)) (pi_list (pv 1)) (blkOk_by (own := [("right", 5)]) (N := ["generator", "rights", "found", "name", "some", "right"]) (sc := defScope sOws) (by decide +kernel))
            (fun _ _ _ _ _ => pg_name (i := 5) scOws.nd rfl (Or.inl rfl)) (fun _ _ _ _ _ => pts_one (pt_cmpR op_gt (pe_call FR hr rfl mR kR bR .nil pass0 (pa_cons (pv 0) (pa_cons pe_int pa_nil))) pe_int (nomark _))) (fun _ _ _ _ _ => pv 5))
        (pss_one (ps_expr (pe_bm PySem.F.plainAttrs_list PySem.F.slot_list_append PySem.F.type_list_append mt_append (pv 2) (pa_cons (pe_tup (pa_cons (pv 3) (pa_cons (pe_ifExp (pt_cmpR op_eq (pe_call FR hr rfl mR kR bR .nil pass0 (pa_cons (pv 0) (pa_cons pe_int pa_nil))) pe_int (nomark _)) (pe_revL (pv 4)) (pv 4)) pa_nil))) pa_nil))))))
      (pss_one (ps_ret (pe_ifExp (pt_cmpR op_eq (pe_call FR hr rfl mR kR bR .nil pass0 (pa_cons (pv 0) (pa_cons pe_int pa_nil))) pe_int (nomark _)) (pe_revL (pv 2)) (pv 2))))), ?_⟩
    have e49 : (2 : Nat) ^ 49 = 562949953421312 := by decide
    have e50 : (2 : Nat) ^ 50 = 1125899906842624 := by decide
    have k0 := KS.start e hg n0
    refine ⟨by show 0 ≤ sizeLine; decide, fun pf npf => ?_⟩
    have k1 := k0.own (o := .lst []) npf
    have fg : pf ≠ g := k0.ne npf
    have Gf : G pf = none := k0.gnone npf
    refine ⟨by show 3 ≤ sizeLine; decide, fun p1 np1 => ⟨_, rfl, rnd_k (k1.own np1) (by omega) (by decide) fun r H2 hr s2 k2 => ?_⟩⟩
    have p1g : p1 ≠ g := k1.ne np1
    have h1 : H2 p1 = some (.lst [V.str "app", V.str "lib", V.str "web"]) := by
      rw [s2 _ p1g]
      exact upd_same
    refine ⟨_, _, rfl, rfl, _, rfl, p1, _, rfl, SqL.of h1, fun p2 np2 => ?_⟩
    obtain ⟨c, hc, rfl⟩ : ∃ c : Nat, c < 3 ∧ r = (c : Int) := ⟨r.toNat, by omega, by omega⟩
    have hcut : cutV [V.str "app", V.str "lib", V.str "web"] none (some (1 + (c : Int))) = (names3.take (c + 1)).map V.str := by
      match c, hc with
      | 0, _ => rfl
      | 1, _ => rfl
      | 2, _ => rfl
    rw [hcut]
    have k3 := k2.new (o := .lst ((names3.take (c + 1)).map V.str)) np2
    have hf2 : H2 pf = some (.lst []) := by
      rw [s2 _ fg, upd_ne (ne_of_none upd_same np1)]
      exact upd_same
    have f2 : pf ≠ p2 := ne_of_none hf2 np2
    refine ⟨p2, rfl, ⟨_, SqL.of upd_same⟩, ?_⟩
    refine for_list (K := K) (a := p2) (xs := (names3.take (c + 1)).map V.str) (fun i σ H' => ∃ (vs : List V) (os : List Own) (G' : Hp) (a b : Option V), σ = [some (.ref g), some (.ref pr), some (.ref pf), a, b, none] ∧
        KS g G H G' H' (n + 2 + 8 * i) ∧ G' p2 = some (.lst ((names3.take (c + 1)).map V.str)) ∧ H' pf = some (.lst vs) ∧ G' pf = none ∧ DqA K G' vs (os.map ownD) ∧ os.map (·.1) = names3.take i ∧ ∀ o ∈ os, ownOk rs o) ?_
      (fun i σ H' _ ⟨_, _, _, _, _, _, k, g2, _⟩ => SqL.of (k.x.gh _ _ g2)) ?_ ?_
    · exact ⟨[], [], _, none, none, rfl, k3, upd_same, by rw [upd_ne f2]; exact hf2, by rw [upd_ne f2]; exact Gf, .nil, rfl, fun o h => by cases h⟩
    · rintro i x σ H' hx ⟨vs, os, G', a, b, rfl, k, g2, hf, gf, hd, hos, hok⟩
      have hi : i < c + 1 := by
        have := List.getElem?_eq_some_iff.mp hx |>.1
        rw [List.length_map, List.length_take] at this
        omega
      have hx' : ∃ nm, names3[i]? = some nm ∧ x = .str nm := by
        rw [List.getElem?_map, List.getElem?_take_of_lt hi] at hx
        cases hz : names3[i]? with
        | none => rw [hz] at hx; cases hx
        | some nm => rw [hz] at hx; exact ⟨nm, rfl, (Option.some.inj hx).symm⟩
      obtain ⟨nm, hnm, rfl⟩ := hx'
      have gpr : G' pr = some (.lst (rs.map V.str)) := k.x.gg _ _ hpr
      refine ⟨_, rfl, ⟨pr, rfl, ⟨_, SqL.of (k.x.gh _ _ gpr)⟩, fun D nD => ?_⟩⟩
      have fD : pf ≠ D := ne_of_none hf nD
      have Dg : D ≠ g := k.ne nD
      refine lc_list (K := K) (a := pr) (xs := rs.map V.str) (fun j H'' => ∃ acc : List Str, KS g G H G' H'' (n + 2 + 8 * i + 2 * j) ∧ H'' D = some (.lst (acc.map V.str)) ∧ H'' pf = some (.lst vs) ∧ acc.Sublist (rs.take j)) ?_
        (fun j H'' _ ⟨_, k', _⟩ => SqL.of (k'.x.gh _ _ gpr)) ?_ ?_
      · exact ⟨[], k.own nD, upd_same, by rw [upd_ne fD]; exact hf, List.nil_sublist _⟩
      · rintro j x H'' hx ⟨acc, k', hD, hf', hsub⟩
        have hj : ∃ rt, rs[j]? = some rt ∧ x = .str rt := by
          rw [List.getElem?_map] at hx
          cases hz : rs[j]? with
          | none => rw [hz] at hx; cases hx
          | some rt => rw [hz] at hx; exact ⟨rt, rfl, (Option.some.inj hx).symm⟩
        obtain ⟨rt, hrt, rfl⟩ := hj
        have hjl : j < rs.length := (List.getElem?_eq_some_iff.mp hrt).1
        have htk : rs.take (j + 1) = rs.take j ++ [rt] := by
          rw [List.take_succ, hrt]
          rfl
        refine ⟨rfl, _, rfl, rnd_k k' (by omega) (by decide) fun r2 H3 hr2 s3 k4 => ⟨_, _, rfl, rfl, _, rfl, ?_⟩⟩
        have hD3 : H3 D = some (.lst (acc.map V.str)) := by rw [s3 _ Dg]; exact hD
        have hf3 : H3 pf = some (.lst vs) := by rw [s3 _ fg]; exact hf'
        refine ite2 (fun hpos => ⟨_, rfl, acc.map V.str, hD3, ?_, acc ++ [rt], ?_, ?_, ?_, ?_⟩) (fun hpos => ⟨acc, ?_, hD3, hf3, ?_⟩)
        · have := hsub.length_le
          rw [List.length_map]
          rw [List.length_take] at this
          have e : (3 : Nat) < sizeLine := by decide
          omega
        · have := k4.put (p := D) (o := .lst (acc.map V.str ++ [V.str rt])) (k.hnone nD) (k.gnone nD) Dg
          exact this
        · rw [upd_same, List.map_append]
          rfl
        · rw [upd_ne fD]
          exact hf3
        · rw [htk]
          exact hsub.append (List.Sublist.refl _)
        · exact k4
        · rw [htk]
          exact hsub.trans (List.sublist_append_left _ _)
      · rintro H'' ⟨acc, k', hD, hf', hsub⟩
        rw [List.take_of_length_le (by rw [List.length_map]; exact Nat.le_refl _)] at hsub
        have k5 := k'.freeze (k.hnone nD) (k.gnone nD) Dg hD
        refine ⟨_, rfl, .inl ⟨rfl, _, SqL.of hf'⟩, _, rfl, _, rfl, rnd_k k5 (by rw [List.length_map]; omega) (by decide) fun r3 H3 hr3 s3 k6 => ⟨rfl, _, rfl, ?_⟩⟩
        have hf3 : H3 pf = some (.lst vs) := by rw [s3 _ fg]; exact hf'
        refine rev_or k6 upd_same rfl fun z G7 H7 b7 k7 x7 hz7 => ?_
        have g7 : G7 pf = none := by rw [x7.ag _ _ hf3, upd_ne fD]; exact gf
        have h7 : H7 pf = some (.lst vs) := x7.hh _ _ hf3
        have x17 : Ex G' G7 := (Ex.new (k.gnone nD)).trans x7.gg
        refine ⟨by show 2 ≤ sizeLine; decide, fun tp ntp => ?_⟩
        have ftp : pf ≠ tp := ne_of_none h7 ntp
        have k8 := k7.new (o := .tup [V.str nm, V.ref z]) ntp
        have x18 := x17.trans (Ex.new (o := .tup [V.str nm, V.ref z]) (k7.gnone ntp))
        have hD8 : DqA K (upd G7 tp (.tup [V.str nm, V.ref z])) vs (os.map ownD) := hd.mono (same_ex x18)
        have hlen : vs.length = i := by
          have e1 := dqa_len hd
          have e2 := congrArg List.length hos
          rw [List.length_map, List.length_take] at e2
          rw [List.length_map] at e1
          have e3 : names3.length = 3 := rfl
          omega
        have e3z : (3 : Nat) < sizeLine := by decide
        refine ⟨pf, vs, V.ref tp, rfl, rfl, by rw [upd_ne ftp]; exact h7, (by rw [hlen]; omega), ?_⟩
        have hsb : (if b7 then (acc.map V.str).reverse else acc.map V.str) = (if b7 then acc.reverse else acc).map V.str := by
          cases b7
          · rfl
          · exact List.map_reverse.symm
        rw [hsb] at hz7
        refine ⟨vs ++ [V.ref tp], os ++ [(nm, if b7 then acc.reverse else acc)], _, _, _, rfl, (k8.put (p := pf) npf ?_ fg).le ?_, x18 _ _ g2, upd_same, ?_, ?_, ?_, ?_⟩
        · rw [upd_ne ftp]; exact g7
        · rw [List.length_map]; omega
        · rw [upd_ne ftp]; exact g7
        · rw [List.map_append]
          refine dqa_app hD8 (.tup (.inl (.inl upd_same)) (.cons (.str _) (.cons (dq_strs ?_) .nil)))
          rw [upd_ne (ne_of_none (k7.x.gh _ _ hz7) ntp)]
          exact hz7
        · rw [List.map_append, hos, List.take_succ, hnm]
          rfl
        · intro o ho
          rcases List.mem_append.mp ho with ho | ho
          · exact hok o ho
          · rw [List.mem_singleton.mp ho]
            refine ⟨List.mem_of_getElem? hnm, ?_, ?_⟩
            · cases b7
              · exact hsub.nodup hrn
              · exact nodup_rev (hsub.nodup hrn)
            · intro r4 hr4
              cases b7
              · exact hsub.subset hr4
              · exact hsub.subset (List.mem_reverse.mp hr4)
    · rintro σ H' ⟨vs, os, G', a, b, rfl, k, g2, hf, gf, hd, hos, hok⟩
      have hpf : (upd G' pf (.lst vs)) pf = some (.lst vs) := upd_same
      have kf := k.freeze npf gf fg hf
      have hN : ((names3.take (c + 1)).map V.str).length = c + 1 := by
        rw [List.length_map, List.length_take]
        have e3 : names3.length = 3 := rfl
        omega
      rw [hN] at hos k kf
      refine ⟨_, rfl, rnd_k kf (by omega) (by decide) fun r3 H3 hr3 s3 k6 => ⟨rfl, _, rfl, ?_⟩⟩
      refine rev_or k6 hpf rfl fun z G7 H7 b7 k7 x7 hz7 => ?_
      have x17 : Ex G' G7 := (Ex.new gf).trans x7.gg
      refine q z G7 H7 (if b7 then os.reverse else os) (k7.le (by omega)) ?_ ?_
      · have := hd.mono (K := K) (same_ex x17)
        refine .lst hz7 ?_
        cases b7
        · exact this
        · show DqA K G7 vs.reverse _
          rw [if_pos rfl, List.map_reverse]
          exact dqa_rev this
      · have hl : os.length ≤ 3 := by
          have e2 := congrArg List.length hos
          rw [List.length_map, List.length_take] at e2
          omega
        have hne : os ≠ [] := fun z => by
          rw [z] at hos
          cases hos
        have hnd : (os.map (·.1)).Nodup := by
          rw [hos]
          exact (List.take_sublist _ _).nodup (by decide)
        cases b7
        · exact ⟨hnd, hne, hl, hok⟩
        · refine ⟨?_, ?_, ?_, ?_⟩
          · rw [if_pos rfl, List.map_reverse]
            exact nodup_rev hnd
          · intro z
            rw [if_pos rfl, List.reverse_eq_nil_iff] at z
            exact hne z
          · rw [if_pos rfl, List.length_reverse]
            exact hl
          · intro o ho
            exact hok o (List.mem_reverse.mp ho)
end
end Lx

set_option Elab.async false
set_option maxRecDepth 100000
set_option linter.all false
set_option maxHeartbeats 4000000
namespace Lx
open PySem PySem.Spec PyProof.Rows L2 Evl Kx
section
variable {P : Program} {w : World} {K : PySem.W.Frag} {mg : Str → Option Value} {base : Heap} {f : Addr} {fd : FuncData}
def kS : Nat → Nat
  | 0 => 8
  | d + 1 => 8 + 2 * (2 + 2 * kS d)
def kB (d most : Nat) : Nat := 2 + most * kS d
/-- the most steps in a step that is nested so deep -/
def cS : Nat → Nat
  | 0 => 1
  | d + 1 => 1 + 4 * cS d
structure RN (rs ns : List Str) : Prop where
  r1 : rs ≠ []
  r2 : rs.length ≤ 5
  n1 : ns ≠ []
  n2 : ns.length ≤ 6
abbrev sStp : Stmt := top 41
abbrev sBod : Stmt := top 46
theorem scStp : FnScope ["generator", "rights", "names", "deep", "marked", "kind", "name", "right", "parts", "mark", "turn"] ["generator", "rights", "names", "deep", "marked"] (defScope sStp) := ⟨rfl, rfl, rfl, by decide +kernel, rfl, by decide +kernel, by decide +kernel⟩
theorem scBod : FnScope ["generator", "rights", "names", "deep", "marked", "most", "found", "turn"] ["generator", "rights", "names", "deep", "marked", "most"] (defScope sBod) := ⟨rfl, rfl, rfl, by decide +kernel, rfl, by decide +kernel, by decide +kernel⟩
structure spStp (K : PySem.W.Frag) (d : Nat) (vs : List V) (H : Hp) (Q : VK) (E_ : XK) : Prop where
  mk' ::
  out : ∃ (g pr pn : Addr) (n : Nat) (G : Hp) (rs ns : List Str) (j : Int) (mk : Bool), vs = [.ref g, .ref pr, .ref pn, .int j, .bl mk] ∧ j = d ∧ d ≤ 2 ∧ GenAt H g n ∧ n < 2 ^ 40 + 10000 * (3 - d) ∧ Ex G H ∧ G g = none ∧
  G pr = some (.lst (rs.map V.str)) ∧ G pn = some (.lst (ns.map V.str)) ∧ RN rs ns ∧
  ∀ (x : V) G2 H2 (s : Stp), KS g G H G2 H2 (n + kS d) → Dq K G2 x (stpD s) → okS rs ns mk s = true → nstS s ≤ d → cntS s ≤ cS d → Q x H2
structure spBod (K : PySem.W.Frag) (d : Nat) (vs : List V) (H : Hp) (Q : VK) (E_ : XK) : Prop where
  mk' ::
  out : ∃ (g pr pn : Addr) (n : Nat) (G : Hp) (rs ns : List Str) (j : Int) (mk : Bool) (most : Nat), vs = [.ref g, .ref pr, .ref pn, .int j, .bl mk, .int most] ∧ j = d ∧ d ≤ 2 ∧ most ≤ 4 ∧ GenAt H g n ∧ n + 5000 < 2 ^ 40 + 10000 * (3 - d) ∧ Ex G H ∧ G g = none ∧
  G pr = some (.lst (rs.map V.str)) ∧ G pn = some (.lst (ns.map V.str)) ∧ RN rs ns ∧
  ∀ (p : Addr) G2 H2 (b : List Stp), KS g G H G2 H2 (n + kB d most) → Dq K G2 (.ref p) (.list (bodyD b)) → okB rs ns mk b = true → nstB b ≤ d → b.length ≤ most → cntB b ≤ most * cS d → Q (.ref p) H2
def spBodP (K : PySem.W.Frag) : Nat → Sp
  | 0 => fun _ _ _ _ => False
  | d + 1 => spBod K d
/-- a body, from where we stand -/
theorem bod_k {g pr pn : Addr} {G0 H0 G H : Hp} {n d most : Nat} {j : Int} {mk : Bool} {rs ns : List Str} {Q : VK} {E : XK} (k : KS g G0 H0 G H n) (hn : n + 5000 < 2 ^ 40 + 10000 * (3 - d)) (hj : j = d) (hd : d ≤ 2) (hm : most ≤ 4)
    (hpr : G pr = some (.lst (rs.map V.str))) (hpn : G pn = some (.lst (ns.map V.str))) (rn : RN rs ns)
    (q : ∀ (p : Addr) G2 H2 (b : List Stp), KS g G0 H0 G2 H2 (n + kB d most) → ExtG g G H G2 H2 → Dq K G2 (.ref p) (.list (bodyD b)) → okB rs ns mk b = true → nstB b ≤ d → b.length ≤ most → cntB b ≤ most * cS d → Q (.ref p) H2) :
    spBod K d [.ref g, .ref pr, .ref pn, .int j, .bl mk, .int most] H Q E :=
  ⟨g, pr, pn, n, G, rs, ns, j, mk, most, rfl, hj, hd, hm, k.gen, hn, k.x.gh, k.off, hpr, hpn, rn, fun p G2 H2 b k2 => q p G2 H2 b (k.then k2) k2.x⟩
/-- a step, from where we stand -/
theorem stp_k {g pr pn : Addr} {G0 H0 G H : Hp} {n d : Nat} {j : Int} {mk : Bool} {rs ns : List Str} {Q : VK} {E : XK} (k : KS g G0 H0 G H n) (hn : n < 2 ^ 40 + 10000 * (3 - d)) (hj : j = d) (hd : d ≤ 2)
    (hpr : G pr = some (.lst (rs.map V.str))) (hpn : G pn = some (.lst (ns.map V.str))) (rn : RN rs ns)
    (q : ∀ (x : V) G2 H2 (s : Stp), KS g G0 H0 G2 H2 (n + kS d) → ExtG g G H G2 H2 → Dq K G2 x (stpD s) → okS rs ns mk s = true → nstS s ≤ d → cntS s ≤ cS d → Q x H2) :
    spStp K d [.ref g, .ref pr, .ref pn, .int j, .bl mk] H Q E :=
  ⟨g, pr, pn, n, G, rs, ns, j, mk, rfl, hj, hd, k.gen, hn, k.x.gh, k.off, hpr, hpn, rn, fun x G2 H2 s k2 => q x G2 H2 s (k.then k2) k2.x⟩
theorem ite_c {c : Prop} [Decidable c] {a b : V} {σ : L2.St} {H : Hp} {Qk : VK} (h : ∀ m, (c → m = a) → (¬ c → m = b) → Qk m H) : if c then tC a σ H Qk else tC b σ H Qk :=
  ite2 (fun z => h a (fun _ => rfl) fun y => (y z).elim) (fun z => h b (fun y => (z y).elim) fun _ => rfl)
theorem or_and {c1 : Prop} {c2 : Bool} [Decidable c1] {σ : L2.St} {H : Hp} {i : Nat} {mk : Bool} {t2 : TT} {Qb : Bool → Hp → Prop} (hσ : σ[i]? = some (some (.bl mk))) (ht : ∀ Q' : Bool → Hp → Prop, Q' c2 H → t2 σ H Q')
    (fin : ∀ b : Bool, (b = true ↔ c1 ∨ (c2 = true ∧ mk = true)) → Qb b H) : if c1 then Qb true H else tAnd t2 (tB (tVar i)) σ H Qb := by
  refine ite2 (fun h => fin true ⟨fun _ => .inl h, fun _ => rfl⟩) (fun h => ht _ (ite2 (fun h2 => ⟨_, hσ, _, rfl, fin mk ⟨fun z => .inr ⟨h2, z⟩, fun z => ?_⟩⟩) fun h2 => fin false ⟨fun z => Bool.noConfusion z, fun z => ?_⟩))
  · rcases z with z | z
    · exact (h z).elim
    · exact z.2
  · rcases z with z | z
    · exact (h z).elim
    · exact (h2 z.1).elim
theorem or_v {mk mb : Bool} {σ : L2.St} {H : Hp} {i : Nat} {Qk : VK} (hσ : σ[i]? = some (some (.bl mb))) (h : Qk (.bl (mk || mb)) H) : if mk = true then Qk (.bl true) H else tVar i σ H Qk := by
  cases mk
  · exact ite2 (fun z => Bool.noConfusion z) fun _ => ⟨_, hσ, h⟩
  · exact ite2 (fun _ => h) fun z => (z rfl).elim
theorem ok_stp {d : Nat} {fR fB : Addr} {fdR fdB : FuncData} (F : Fun K "_law_step_drawn" "_law_step_drawn" sStp f fd) (FR : FnOk P w K mg base CX0 2 fR fdR ["generator", "bound"] spRnd) (mR : mg "_law_random" = some (.ref fR)) (kR : PySem.W.keepIn K (.ref fR) = true) (bR : Binds K fdR ["generator", "bound"] [])
    (FB : FnOk P w K mg base CX0 (2 * d + 2) fB fdB ["generator", "rights", "names", "deep", "marked", "most"] (spBodP K d)) (mB : mg "_law_body_drawn" = some (.ref fB)) (kB' : PySem.W.keepIn K (.ref fB) = true) (bB : Binds K fdB ["generator", "rights", "names", "deep", "marked", "most"] [])
    (mL : mg "len" = none) (mG : mg "range" = none) :
    FnOk P w K mg base CX0 (2 * d + 3) f fd ["generator", "rights", "names", "deep", "marked"] (spStp K d) := by
  refine F.ok scStp (fun vs H Q E h => ?_) (fun cdv A outer s H vs Q E hr h => ?_)
  · obtain ⟨_, _, _, _, _, _, _, _, _, rfl, _⟩ := h
    rfl
  · obtain ⟨g, pr, pn, n, G, rs, ns, j, mk, rfl, hj, hd2, hg, hn, e, n0, hpr, hpn, rn, q⟩ := h
    have r2 := hr.mono (j := 2) (by omega)
    refine ⟨_, pss_cons (ps_set (i := 5) scStp.nd rfl (Or.inl rfl) (pe_call FR r2 rfl mR kR bR .nil pass0 (pa_cons (pv 0) (pa_cons (pe_ifExp (pt_cmpR op_gt (pv 3) pe_int (nomark _)) pe_int pe_int) pa_nil))))
      (pss_cons (ps_par (i := 6) (j := 7) (by rfl) scStp.nd rfl rfl (by decide) rfl rfl (pa_cons (pe_ix ix_list (pv 2) (pe_call FR r2 rfl mR kR bR .nil pass0 (pa_cons (pv 0) (pa_cons (pe_callB call_len_seq (by rfl) mL PySem.boot_len (pa_cons (pv 2) pa_nil)) pa_nil))) (fun _ _ => rfl))
          (pa_cons (pe_ix ix_list (pv 1) (pe_call FR r2 rfl mR kR bR .nil pass0 (pa_cons (pv 0) (pa_cons (pe_callB call_len_seq (by rfl) mL PySem.boot_len (pa_cons (pv 1) pa_nil)) pa_nil))) (fun _ _ => rfl)) pa_nil)) (by rfl))
      (pss_cons (ps_if (pt_cmpR op_lt (pv 5) pe_int (nomark _)) (pss_one (ps_ret (pe_tup (pa_cons pe_str (pa_cons (pv 6) pa_nil))))) pss_nil)
      (pss_cons (ps_if (PW.pt (pw_or (pt_cmpR op_lt (pv 5) pe_int (nomark _)) (pw_or1 (PW.pt (pw_and (pt_cmpR op_eq (pv 5) pe_int (nomark _)) (pw_and1 (pt_val (pv 4)))))))) (pss_one (ps_ret (pe_tup (pa_cons pe_str (pa_cons (pv 7) pa_nil))))) pss_nil)
      (pss_cons (ps_if (pt_cmpR op_eq (pv 5) pe_int (nomark _)) (pss_one (ps_ret (pe_ix ix_list (pe_lst (pa_cons (pe_tup (pa_cons pe_str (pa_cons (pv 6) pa_nil))) (pa_cons (pe_tup (pa_cons pe_str pa_nil)) pa_nil))) (pe_call FR r2 rfl mR kR bR .nil pass0 (pa_cons (pv 0) (pa_cons pe_int pa_nil))) (fun _ _ => rfl)))) pss_nil)
      (pss_cons (ps_if (pt_cmpR op_eq (pv 5) pe_int (nomark _)) (pss_cons (ps_setLc (i := 8) (own := [("turn", 10)]) (g := gName 10) rfl scStp.nd rfl rfl (sw_true rfl rfl rfl (by decide +kernel)) (pi_range1 (by rfl) mG (pa_cons pe_int pa_nil))
            (blkOk_by (own := [("turn", 10)]) (N := ["generator", "rights", "names", "deep", "marked", "kind", "name", "right", "parts", "mark", "turn"]) (sc := defScope sStp) (by decide +kernel))
            (fun _ _ _ _ _ => pg_name (i := 10) scStp.nd rfl (Or.inl rfl)) (fun _ _ _ _ _ => pts_nil) (fun _ _ _ _ _ => pe_call FB hr rfl mB kB' bB .nil pass0 (pa_cons (pv 0) (pa_cons (pv 1) (pa_cons (pv 2) (pa_cons (pe_op op_sub (pv 3) pe_int) (pa_cons (pv 4) (pa_cons pe_int pa_nil))))))))
          (pss_one (ps_ret (pe_tup (pa_cons pe_str (pa_cons (pe_ix ix_list (pv 8) pe_int (fun _ _ => rfl)) (pa_cons (pe_ix ix_list (pv 8) pe_int (fun _ _ => rfl)) pa_nil))))))) pss_nil)
      (pss_cons (ps_if (pt_cmpR op_eq (pv 5) pe_int (nomark _)) (pss_one (ps_ret (pe_tup (pa_cons pe_str (pa_cons (pe_call FB hr rfl mB kB' bB .nil pass0 (pa_cons (pv 0) (pa_cons (pv 1) (pa_cons (pv 2) (pa_cons (pe_op op_sub (pv 3) pe_int) (pa_cons (pv 4) (pa_cons pe_int pa_nil))))))) pa_nil))))) pss_nil)
      (pss_cons (ps_set (i := 9) scStp.nd rfl (Or.inl rfl) (pe_cmpR op_gt (pe_call FR r2 rfl mR kR bR .nil pass0 (pa_cons (pv 0) (pa_cons pe_int pa_nil))) pe_int (nomark _)))
      (pss_one (ps_ret (pe_tup (pa_cons pe_str (pa_cons (pv 9) (pa_cons (pe_call FB hr rfl mB kB' bB .nil pass0 (pa_cons (pv 0) (pa_cons (pv 1) (pa_cons (pv 2) (pa_cons (pe_op op_sub (pv 3) pe_int) (pa_cons (pe_or (pv 4) (pe_one (pv 9))) (pa_cons pe_int pa_nil))))))) pa_nil))))))))))))), ?_⟩
    have e40 : (2 : Nat) ^ 40 = 1099511627776 := by decide
    have e50 : (2 : Nat) ^ 50 = 1125899906842624 := by decide
    have e59 : (2 : Int) ^ 59 = 576460752303423488 := by decide
    have k0 := KS.start e hg n0
    have rl := List.length_pos_iff.mpr rn.r1
    have nl := List.length_pos_iff.mpr rn.n1
    refine ⟨_, rfl, _, rfl, _, _, rfl, rfl, _, rfl, ite_c fun m h1 h2 => ?_⟩
    obtain ⟨m, rfl, hm⟩ : ∃ i : Int, m = .int i ∧ ((0 < d ∧ i = 11) ∨ (d = 0 ∧ i = 7)) := by
      by_cases z : (0 : Int) < j
      · exact ⟨11, h1 (decide_eq_true z), .inl ⟨by omega, rfl⟩⟩
      · exact ⟨7, h2 (by rw [decide_eq_true_eq]; exact z), .inr ⟨by omega, rfl⟩⟩
    refine rnd_k k0 (by omega) (by omega) fun kd H1 hkd s1 k1 => ?_
    have gpr := hpr
    -- the name
    refine ⟨_, rfl, _, rfl, _, rfl, pn, _, rfl, .inl (SqL.of (k1.x.gh _ _ hpn)), rnd_k k1 (by omega) (by rw [List.length_map]; have := rn.n2; omega) fun rN H2 hrN s2 k2 => ?_⟩
    rw [List.length_map] at hrN
    obtain ⟨iN, hiN, rfl⟩ : ∃ i : Nat, i < ns.length ∧ rN = (i : Int) := ⟨rN.toNat, by omega, by omega⟩
    obtain ⟨nm, hnm⟩ : ∃ nm, ns[iN]? = some nm := ⟨_, List.getElem?_eq_getElem hiN⟩
    have mN : nm ∈ ns := List.mem_of_getElem? hnm
    refine ⟨pn, _, _, .str nm, rfl, rfl, SqL.of (k2.x.gh _ _ hpn), atI_nat (by rw [List.getElem?_map, hnm]; rfl), ?_⟩
    -- the right
    refine ⟨_, rfl, _, rfl, _, rfl, pr, _, rfl, .inl (SqL.of (k2.x.gh _ _ hpr)), rnd_k k2 (by omega) (by rw [List.length_map]; have := rn.r2; omega) fun rR H3 hrR s3 k3 => ?_⟩
    rw [List.length_map] at hrR
    obtain ⟨iR, hiR, rfl⟩ : ∃ i : Nat, i < rs.length ∧ rR = (i : Int) := ⟨rR.toNat, by omega, by omega⟩
    obtain ⟨rt, hrt⟩ : ∃ rt, rs[iR]? = some rt := ⟨_, List.getElem?_eq_getElem hiR⟩
    have mR' : rt ∈ rs := List.mem_of_getElem? hrt
    refine ⟨pr, _, _, .str rt, rfl, rfl, SqL.of (k3.x.gh _ _ hpr), atI_nat (by rw [List.getElem?_map, hrt]; rfl), _, _, rfl, ?_⟩
    have ks8 : 8 ≤ kS d := by cases d <;> simp only [kS] <;> omega
    have c1 : 1 ≤ cS d := by cases d <;> simp only [cS] <;> omega
    have two : ∀ {p : Addr} {G7 H7 : Hp} {n7 : Nat} {a : Str} {b : V} {s : Stp} {ds : PyData}, KS g G H G7 H7 n7 → n7 ≤ n + kS d → H7 p = none → Dq K G7 b ds → stpD s = .tuple [.str a, ds] → okS rs ns mk s = true → nstS s ≤ d → cntS s ≤ cS d → Q (.ref p) (upd H7 p (.tup [.str a, b])) :=
      fun k7 hn7 np hb hs ok hd hc => q _ _ _ _ ((k7.new np).le hn7) (by
        rw [hs]
        exact .tup (.inl (.inl upd_same)) (.cons (.str _) (.cons (hb.mono (same_ex (Ex.new (k7.gnone np)))) .nil))) ok hd hc
    refine ⟨_, rfl, _, _, rfl, rfl, _, rfl, ite2 (fun h3 => ?_) (fun h3 => ?_)⟩
    · refine ⟨_, rfl, by show 2 ≤ sizeLine; decide, fun p np => ?_⟩
      exact two (s := .call nm) k3 (by omega) np (.str nm) rfl (by simp only [okS, decide_eq_true_eq]; exact mN) (Nat.zero_le _) c1
    have g3 : ¬ kd < 3 := fun z => h3 (decide_eq_true z)
    refine ⟨_, rfl, _, _, rfl, rfl, _, rfl, or_and (c2 := decide (kd = 6)) rfl (fun Q' q' => ⟨_, rfl, rfl, _, rfl, ?_⟩) fun b hb => ite2 (fun hbt => ?_) (fun hbf => ?_)⟩
    · simp only [V.int.injEq]
      exact q'
    · refine ⟨_, rfl, by show 2 ≤ sizeLine; decide, fun p np => ?_⟩
      exact two (s := .check rt) k3 (by omega) np (.str rt) rfl (by simp only [okS, decide_eq_true_eq]; exact mR') (Nat.zero_le _) c1
    have nb := fun z => hbf (hb.mpr z)
    have g6 : ¬ kd < 6 := fun z => nb (.inl (decide_eq_true z))
    have gm : kd = 6 → mk = false := fun z => by
      cases mk
      · rfl
      · exact (nb (.inr ⟨decide_eq_true z, rfl⟩)).elim
    refine ⟨_, rfl, rfl, _, rfl, ite2 (fun h6 => ?_) (fun h6 => ?_)⟩
    · have h6 : kd = 6 := by simpa only [V.int.injEq, decide_eq_true_eq] using h6
      have hmk := gm h6
      refine ⟨_, rfl, by show 2 ≤ sizeLine; decide, fun p np => ⟨by show 1 ≤ sizeLine; decide, fun p2 np2 => ⟨by show 2 ≤ sizeLine; decide, fun pl npl => ⟨_, rfl, ?_⟩⟩⟩⟩
      have k4 := (k3.new (o := .tup [V.str "tail", V.str nm]) np).new (o := .tup [V.str "back"]) np2
      have k5 := k4.new (o := .lst [V.ref p, V.ref p2]) npl
      refine rnd_k k5 (by omega) (by decide) fun rT H4 hrT s4 k6 => ?_
      have gp : (upd (upd (upd G p (.tup [V.str "tail", V.str nm])) p2 (.tup [V.str "back"])) pl (.lst [V.ref p, V.ref p2])) p = some (.tup [V.str "tail", V.str nm]) := by
        rw [upd_ne (ne_of_none (by rw [upd_ne (ne_of_none upd_same np2)]; exact upd_same) npl), upd_ne (ne_of_none upd_same np2)]
        exact upd_same
      have gp2 : (upd (upd (upd G p (.tup [V.str "tail", V.str nm])) p2 (.tup [V.str "back"])) pl (.lst [V.ref p, V.ref p2])) p2 = some (.tup [V.str "back"]) := by
        rw [upd_ne (ne_of_none upd_same npl)]
        exact upd_same
      have hl : H4 pl = some (.lst [V.ref p, V.ref p2]) := k6.x.gh _ _ upd_same
      have hz : rT = 0 ∨ rT = 1 := by omega
      rcases hz with rfl | rfl
      · refine ⟨pl, _, _, V.ref p, rfl, rfl, SqL.of hl, rfl, ?_⟩
        exact q _ _ _ (.tail nm) (k6.le (by omega)) (.tup (.inl (.inl gp)) (.cons (.str _) (.cons (.str nm) .nil))) (by simp only [okS, hmk, Bool.and_eq_true, decide_eq_true_eq]; exact ⟨mN, rfl⟩) (Nat.zero_le _) c1
      · refine ⟨pl, _, _, V.ref p2, rfl, rfl, SqL.of hl, rfl, ?_⟩
        exact q _ _ _ .back (k6.le (by omega)) (.tup (.inl (.inl gp2)) (.cons (.str _) .nil)) (by simp only [okS]) (Nat.zero_le _) c1
    have g7 : 7 ≤ kd := by
      have : ¬ kd = 6 := fun z => h6 (by simp only [V.int.injEq, decide_eq_true_eq]; exact z)
      omega
    obtain ⟨d', rfl⟩ : ∃ d', d = d' + 1 := ⟨d - 1, by omega⟩
    have hj' : j - 1 = (d' : Int) := by omega
    have hkS : kS (d' + 1) = 8 + 2 * (2 + 2 * kS d') := rfl
    have hkB : kB d' 2 = 2 + 2 * kS d' := rfl
    have hcS : cS (d' + 1) = 1 + 4 * cS d' := rfl
    have tick : ∀ {i : Nat}, i ≤ 2 → i * kB d' 2 ≤ 2 * kB d' 2 := fun h => Nat.mul_le_mul_right _ h
    have ks : kS d' ≤ 44 := by
      have : d' = 0 ∨ d' = 1 := by omega
      rcases this with rfl | rfl <;> decide
    refine ⟨_, rfl, rfl, _, rfl, ite2 (fun h7 => ?_) (fun h7 => ?_)⟩
    · refine ⟨_, rfl, by decide, by decide, fun D nD => ?_⟩
      have Dg : D ≠ g := k3.ne nD
      refine lc_range (lo := 0) (n := 2) (fun i H' => ∃ (G' : Hp) (vs : List V) (bs : List (List Stp)), KS g G H G' H' (n + 6 + i * kB d' 2) ∧ H' D = some (.lst vs) ∧ G' D = none ∧ vs.length = i ∧ DqA K G' vs (bs.map fun b => .list (bodyD b)) ∧
          ∀ b ∈ bs, okB rs ns mk b = true ∧ nstB b ≤ d' ∧ cntB b ≤ 2 * cS d') ?_ ?_ ?_
      · exact ⟨G, [], [], (k3.own nD).le (by omega), upd_same, k3.gnone nD, rfl, .nil, fun b h => by cases h⟩
      · rintro i H' hi ⟨G', vs, bs, k4, hD, gD, hl, hd, hok⟩
        have := tick (Nat.le_of_lt hi)
        refine ⟨rfl, _, rfl, _, rfl, _, rfl, _, rfl, _, _, rfl, rfl, _, rfl, bod_k (most := 2) k4 (by omega) hj' (by omega) (by decide) (k4.x.gg _ _ hpr) (k4.x.gg _ _ hpn) rn fun p G5 H5 b k5 x5 hb ok5 nd5 len5 cnt5 => ?_⟩
        have gD5 : G5 D = none := (x5.ag _ _ hD).trans gD
        refine ⟨vs, x5.hh _ _ Dg hD, by rw [hl]; have e3z : (3 : Nat) < sizeLine := by decide
                                        omega, G5, vs ++ [.ref p], bs ++ [b], ?_, upd_same, gD5, by rw [List.length_append, hl]; rfl, ?_, ?_⟩
        · have : (i + 1) * kB d' 2 = i * kB d' 2 + kB d' 2 := Nat.succ_mul ..
          exact (k5.put (k3.hnone nD) gD5 Dg).le (by omega)
        · rw [List.map_append]
          exact dqa_app (hd.mono (same_ex x5.gg)) hb
        · intro c hc
          rcases List.mem_append.mp hc with hc | hc
          · exact hok c hc
          · rw [List.mem_singleton.mp hc]
            exact ⟨ok5, nd5, cnt5⟩
      · rintro H' ⟨G', vs, bs, k4, hD, gD, hl, hd, hok⟩
        obtain ⟨v1, v2, rfl⟩ : ∃ v1 v2, vs = [v1, v2] := by
          match vs, hl with
          | [v1, v2], _ => exact ⟨v1, v2, rfl⟩
        have hlb := dqa_len hd
        rw [List.length_map] at hlb
        obtain ⟨b1, b2, rfl⟩ : ∃ b1 b2, bs = [b1, b2] := by
          match bs, hlb with
          | [b1, b2], _ => exact ⟨b1, b2, rfl⟩
        obtain ⟨o1, n1, q1⟩ := hok b1 (List.mem_cons_self ..)
        obtain ⟨o2, n2, q2⟩ := hok b2 (List.mem_cons_of_mem _ (List.mem_cons_self ..))
        refine ⟨_, rfl, D, _, _, v1, rfl, rfl, SqL.of hD, rfl, _, rfl, D, _, _, v2, rfl, rfl, SqL.of hD, rfl, by show 3 ≤ sizeLine; decide, fun p np => ?_⟩
        cases hd with
        | cons d1 hd =>
          cases hd with
          | cons d2 hd =>
            refine q _ _ _ (.either b1 b2) ((k4.new np).le (by omega)) (.tup (.inl (.inl upd_same)) (.cons (.str _) (.cons (d1.mono (same_ex (Ex.new (k4.gnone np)))) (.cons (d2.mono (same_ex (Ex.new (k4.gnone np)))) .nil)))) ?_ ?_ ?_
            · simp only [okS, o1, o2, Bool.and_self]
            · simp only [nstS]
              omega
            · simp only [cntS]
              omega
    refine ⟨_, rfl, rfl, _, rfl, ite2 (fun h8 => ?_) (fun h8 => ?_)⟩
    · refine ⟨_, rfl, _, rfl, _, rfl, _, rfl, _, _, rfl, rfl, _, rfl, bod_k (most := 2) k3 (by omega) hj' (by omega) (by decide) hpr hpn rn fun p G5 H5 b k5 x5 hb ok5 nd5 len5 cnt5 => ⟨by show 2 ≤ sizeLine; decide, fun p np => ?_⟩⟩
      exact two (s := .loop b) k5 (by omega) np hb rfl (by simp only [okS]; exact ok5) (by simp only [nstS]; omega) (by simp only [cntS]; omega)
    refine ⟨_, rfl, rnd_k k3 (by omega) (by decide) fun rM H4 hrM s4 k4 => ⟨_, _, rfl, rfl, ?_⟩⟩
    refine ⟨_, rfl, _, rfl, _, rfl, _, rfl, _, rfl, _, _, rfl, rfl, _, rfl, mk, rfl, or_v (mb := decide ((0 : Int) < rM)) rfl ?_⟩
    refine bod_k (most := 2) k4 (by omega) hj' (by omega) (by decide) hpr hpn rn fun p G5 H5 b k5 x5 hb ok5 nd5 len5 cnt5 => ⟨by show 3 ≤ sizeLine; decide, fun p np => ?_⟩
    refine q _ _ _ (.block (decide ((0 : Int) < rM)) b) ((k5.new np).le (by omega)) (.tup (.inl (.inl upd_same)) (.cons (.str _) (.cons (.bl _) (.cons (hb.mono (same_ex (Ex.new (k5.gnone np)))) .nil)))) ?_ ?_ ?_
    · simp only [okS]
      exact ok5
    · simp only [nstS]
      omega
    · simp only [cntS]
      omega
theorem ok_bod {d : Nat} {fR fS : Addr} {fdR fdS : FuncData} (F : Fun K "_law_body_drawn" "_law_body_drawn" sBod f fd) (FR : FnOk P w K mg base CX0 2 fR fdR ["generator", "bound"] spRnd) (mR : mg "_law_random" = some (.ref fR)) (kR : PySem.W.keepIn K (.ref fR) = true) (bR : Binds K fdR ["generator", "bound"] [])
    (FS : FnOk P w K mg base CX0 (2 * d + 3) fS fdS ["generator", "rights", "names", "deep", "marked"] (spStp K d)) (mS : mg "_law_step_drawn" = some (.ref fS)) (kS' : PySem.W.keepIn K (.ref fS) = true) (bS : Binds K fdS ["generator", "rights", "names", "deep", "marked"] [])
    (mG : mg "range" = none) :
    FnOk P w K mg base CX0 (2 * d + 4) f fd ["generator", "rights", "names", "deep", "marked", "most"] (spBod K d) := by
  refine F.ok scBod (fun vs H Q E h => ?_) (fun cdv A outer s H vs Q E hr h => ?_)
  · skip
    obtain ⟨_, _, _, _, _, _, _, _, _, _, rfl, _⟩ := h
    rfl
  · skip
    obtain ⟨g, pr, pn, n, G, rs, ns, j, mk, most, rfl, hj, hd2, hm, hg, hn, e, n0, hpr, hpn, rn, q⟩ := h
    have r2 := hr.mono (j := 2) (by omega)
    refine ⟨_, pss_cons (ps_set (i := 6) scBod.nd rfl (Or.inl rfl) (pe_lst pa_nil))
      (pss_cons (ps_for PassesOwn.never rfl (pi_range1 (by rfl) mG (pa_cons (pe_call FR r2 rfl mR kR bR .nil pass0 (pa_cons (pv 0) (pa_cons (pe_op op_add (pv 5) pe_int) pa_nil))) pa_nil)) (pg_name (i := 7) scBod.nd rfl (Or.inl rfl))
        (pss_one (ps_expr (pe_bm PySem.F.plainAttrs_list PySem.F.slot_list_append PySem.F.type_list_append mt_append (pv 6) (pa_cons (pe_call FS hr rfl mS kS' bS .nil pass0 (pa_cons (pv 0) (pa_cons (pv 1) (pa_cons (pv 2) (pa_cons (pv 3) (pa_cons (pv 4) pa_nil)))))) pa_nil)))))
      (pss_one (ps_ret (pv 6)))), ?_⟩
    have e40 : (2 : Nat) ^ 40 = 1099511627776 := by decide
    have e50 : (2 : Nat) ^ 50 = 1125899906842624 := by decide
    have e59 : (2 : Int) ^ 59 = 576460752303423488 := by decide
    have ks : kS d ≤ 188 := by
      have : d = 0 ∨ d = 1 ∨ d = 2 := by omega
      rcases this with rfl | rfl | rfl <;> decide
    have k0 := KS.start e hg n0
    refine ⟨by show 0 ≤ sizeLine; decide, fun D nD => ?_⟩
    have k1 := k0.own (o := .lst []) nD
    have Dg : D ≠ g := k0.ne nD
    refine ⟨_, rfl, _, rfl, _, _, rfl, rfl, rnd_k k1 (by omega) (by omega) fun rM H1 hrM s1 k2 => ⟨_, rfl, by omega, by omega, ?_⟩⟩
    have tick : ∀ {i : Nat}, i ≤ most → i * kS d ≤ most * kS d := fun h => Nat.mul_le_mul_right _ h
    have tick4 : most * kS d ≤ 4 * kS d := Nat.mul_le_mul_right _ hm
    have tickc : ∀ {i : Nat}, i ≤ most → i * cS d ≤ most * cS d := fun h => Nat.mul_le_mul_right _ h
    refine for_range (lo := 0) (n := rM.toNat) (fun i σ H' => ∃ (a : Option V) (G' : Hp) (vs : List V) (b : List Stp), σ = [some (.ref g), some (.ref pr), some (.ref pn), some (.int j), some (.bl mk), some (.int most), some (.ref D), a] ∧
      KS g G H G' H' (n + 2 + i * kS d) ∧ H' D = some (.lst vs) ∧ G' D = none ∧ vs.length = i ∧ DqA K G' vs (bodyD b) ∧ okB rs ns mk b = true ∧ nstB b ≤ d ∧ cntB b ≤ i * cS d) ?_ ?_ ?_
    · refine ⟨none, G, [], [], rfl, k2.le (by omega), ?_, k0.gnone nD, rfl, by simp only [bodyD]; exact .nil, by simp only [okB], by simp only [nstB]; omega, by simp only [cntB]; omega⟩
      rw [s1 _ Dg]
      exact upd_same
    · rintro i σ H' hi ⟨a, G', vs, b, rfl, k, hD, gD, hl, hd, ok, nd, cn⟩
      have := tick (i := i) (by omega)
      have es : (i + 1) * kS d = i * kS d + kS d := Nat.succ_mul ..
      have ec : (i + 1) * cS d = i * cS d + cS d := Nat.succ_mul ..
      refine ⟨_, rfl, .inl ⟨rfl, _, SqL.of hD⟩, _, rfl, _, rfl, _, rfl, _, rfl, _, rfl, ?_⟩
      refine stp_k k (by omega) hj hd2 (k.x.gg _ _ hpr) (k.x.gg _ _ hpn) rn fun x G2 H2 s k2 x2 hx ok2 nd2 cn2 => ?_
      have gD2 : G2 D = none := (x2.ag _ _ hD).trans gD
      have e3z : (5 : Nat) < sizeLine := by decide
      refine ⟨D, vs, x, rfl, rfl, x2.hh _ _ Dg hD, by omega, _, G2, vs ++ [x], b ++ [s], rfl, (k2.put nD gD2 Dg).le (by omega), upd_same, gD2, by rw [List.length_append, hl]; rfl, ?_, ?_, ?_, ?_⟩
      · rw [bodyD_map, List.map_append, ← bodyD_map]
        exact dqa_app (hd.mono (same_ex x2.gg)) hx
      · exact okB_app ok (by simp only [okB, ok2, Bool.and_self])
      · rw [nstB_app]
        simp only [nstB]
        omega
      · rw [cntB_app]
        simp only [cntB]
        omega
    · rintro σ H' ⟨a, G', vs, b, rfl, k, hD, gD, hl, hd, ok, nd, cn⟩
      have := tick (i := rM.toNat) (by omega)
      have := tickc (i := rM.toNat) (by omega)
      have hlb := dqa_len hd
      rw [bodyD_map, List.length_map] at hlb
      refine ⟨_, rfl, q D _ _ b ((k.freeze nD gD Dg hD).le ?_) (.lst upd_same (hd.mono (same_ex (Ex.new gD)))) ok nd (by omega) (by omega)⟩
      simp only [kB]
      omega
end
end Lx

set_option Elab.async false
set_option maxRecDepth 100000
set_option linter.all false
set_option maxHeartbeats 4000000
/-! KitN: what a call lays anew, apart from all that was there; isinstance(x, list) of data; the parts of steps. -/
namespace Kx
open PySem PySem.Spec PyProof.Rows L2 Evl
def join (A B : Hp) : Hp := fun a => match A a with
  | some o => some o
  | none => B a
theorem join_l {A B : Hp} : Ex A (join A B) := fun a o h => by unfold join; rw [h]
theorem join_r {A B : Hp} {a : Addr} {o : HO} (h : B a = some o) (n : A a = none) : join A B a = some o := by unfold join; rw [n]; exact h
theorem join_inv {A B : Hp} {a : Addr} {o : HO} (h : join A B a = some o) : A a = some o ∨ (A a = none ∧ B a = some o) := by
  unfold join at h
  cases e : A a with
  | none => rw [e] at h; exact .inr ⟨rfl, h⟩
  | some u => rw [e] at h; exact .inl h
theorem join_none {A B : Hp} {a : Addr} (h : A a = none) (h' : B a = none) : join A B a = none := by unfold join; rw [h]; exact h'
/-- from H to H2 nothing was written; M is new -/
structure New (H H2 M : Hp) : Prop where
  hh : Ex H H2
  mh : Ex M H2
  fr : ∀ a o, H a = some o → M a = none
def emp : Hp := fun _ => none
section
variable {H H1 H2 M M1 M2 G : Hp} {p : Addr} {o : HO}
theorem New.refl : New H H emp := ⟨Ex.refl H, fun a o h => (nomatch h), fun _ _ _ => rfl⟩
theorem New.dis (b : New H1 H2 M2) (h : Ex M1 H1) {a : Addr} {o : HO} (e : M1 a = some o) : M2 a = none := b.fr a o (h a o e)
theorem New.trans (a : New H H1 M1) (b : New H1 H2 M2) : New H H2 (join M1 M2) :=
  ⟨a.hh.trans b.hh, fun x o h => by
    rcases join_inv h with h | ⟨_, h⟩
    · exact b.hh x o (a.mh x o h)
    · exact b.mh x o h, fun x o h => join_none (a.fr x o h) (b.fr x o (a.hh x o h))⟩
theorem New.right (a : New H H1 M1) (b : New H1 H2 M2) : Ex M2 (join M1 M2) := fun x o h => by
  refine join_r h ?_
  cases e : M1 x with
  | none => rfl
  | some u => rw [b.fr x u (a.mh x u e)] at h; cases h
theorem New.none (a : New H H2 M) (h : H2 p = .none) : M p = .none := by
  cases e : M p with
  | none => rfl
  | some u => rw [a.mh p u e] at h; cases h
theorem New.put (a : New H H2 M) (h : H2 p = .none) : New H (upd H2 p o) (upd M p o) :=
  ⟨a.hh.trans (Ex.new h), fun x u e => by
    by_cases z : x = p
    · rw [z, upd_same] at e ⊢
      exact e
    · rw [upd_ne z] at e ⊢
      exact a.mh x u e, fun x u e => by
    rw [upd_ne (ne_of_none (a.hh x u e) h)]
    exact a.fr x u e⟩
/-- a thing that is laid and forgotten -/
theorem New.own (a : New H H2 M) (h : H2 p = .none) : New H (upd H2 p o) M := ⟨a.hh.trans (Ex.new h), a.mh.trans (Ex.new h), a.fr⟩
theorem New.more (a : New H H2 M) (e : Ex H2 H1) : New H H1 M := ⟨a.hh.trans e, a.mh.trans e, a.fr⟩
theorem New.hnone (a : New H H2 M) (h : H2 p = .none) : H p = .none := fresh_back a.hh h
/-- our own object is written -/
theorem New.wr (a : New H H2 M) (h : H p = .none) (n : M p = .none) : New H (upd H2 p o) M :=
  ⟨fun x u e => by rw [upd_ne (ne_of_none e h)]; exact a.hh x u e, fun x u e => by rw [upd_ne (ne_of_none e n)]; exact a.mh x u e, a.fr⟩
/-- our own object belongs to what is new -/
theorem New.frz (a : New H H2 M) (h : H p = .none) (e : H2 p = some o) : New H H2 (upd M p o) :=
  ⟨a.hh, fun x u q => by
    by_cases z : x = p
    · rw [z, upd_same] at q
      rw [z, e]
      exact q
    · rw [upd_ne z] at q
      exact a.mh x u q, fun x u q => by
    rw [upd_ne (ne_of_none q h)]
    exact a.fr x u q⟩
theorem New.ext (a : New H H2 M) (e : Ex G H) : Ext G H (join G M) H2 :=
  ⟨a.hh, join_l, fun x o h => by
    rcases join_inv h with h | ⟨_, h⟩
    · exact a.hh x o (e x o h)
    · exact a.mh x o h, fun x o h => by
    unfold join
    rw [a.fr x o h]
    cases G x <;> rfl⟩
theorem New.exr (a : New H H2 M) (e : Ex G H) : Ex M (join G M) := fun x o h => by
  refine join_r h ?_
  cases q : G x with
  | none => rfl
  | some u => rw [a.fr x u (e x u q)] at h; cases h
end
/-! ### kinds of data -/
def tyN : PyData → String
  | .none => "NoneType"
  | .bool _ => "bool"
  | .int _ => "int"
  | .str _ => "str"
  | .list _ => "list"
  | .tuple _ => "tuple"
  | .dict _ => "dict"
theorem sqt_tyx {K : PySem.W.Frag} {H : Hp} {a : Addr} {xs : List V} (h : SqT K H a xs) : TyX K H (.ref a) (.type "tuple") := by
  rcases h with (h | ⟨o, h⟩) | ⟨o, _, _, hk, hc, _⟩
  · exact .base (.tup h)
  · exact .fTuple h
  · exact .kTuple hk hc
theorem dq_tyx {K : PySem.W.Frag} {H : Hp} {v : V} {d : PyData} (h : Dq K H v d) : TyX K H v (.type (tyN d)) := by
  cases h with
  | non => exact .base .non
  | bl b => exact .base (.bl b)
  | int i => exact .base (.int i)
  | str x => exact .base (.str x)
  | lst h _ => exact .base (.lst h)
  | tup h _ => exact sqt_tyx h
  | dic h _ => exact .base (.dK h)
def isLst : PyData → Bool
  | .list _ => true
  | _ => false
theorem isi_l {K : PySem.W.Frag} {H : Hp} {v : V} {d : PyData} {Q : VK} (h : Dq K H v d) (q : Q (.bl (isLst d)) H) : rIsiS K [v, .ty "list"] H Q :=
  ⟨v, _, _, _, _, rfl, .ty _, dq_tyx h, kit_ty (by cases h <;> rfl), q⟩
end Kx
namespace Kx
open PySem PySem.Spec PyProof.Rows L2 Evl
/-! ### the parts of a step -/
def partsP : Stp → List (PyData × Option (List Stp))
  | .call n => [(.str "call", none), (.str n, none)]
  | .tail n => [(.str "tail", none), (.str n, none)]
  | .check r => [(.str "check", none), (.str r, none)]
  | .back => [(.str "back", none)]
  | .either a b => [(.str "either", none), (.list (bodyD a), some a), (.list (bodyD b), some b)]
  | .loop b => [(.str "loop", none), (.list (bodyD b), some b)]
  | .block m b => [(.str "block", none), (.bool m, none), (.list (bodyD b), some b)]
theorem stpD_parts (s : Stp) : stpD s = .tuple ((partsP s).map (·.1)) := by cases s <;> simp only [stpD, partsP, List.map]
theorem parts_ok {s : Stp} {d : PyData} {o : Option (List Stp)} (h : (d, o) ∈ partsP s) : (isLst d = false ∧ o = none) ∨ ∃ b, d = .list (bodyD b) ∧ o = some b ∧ nstB b + 1 ≤ nstS s ∧ cntB b ≤ cntS s := by
  cases s <;> simp only [partsP, List.mem_cons, List.not_mem_nil, or_false, Prod.mk.injEq] at h
  case call => rcases h with ⟨rfl, rfl⟩ | ⟨rfl, rfl⟩ <;> exact .inl ⟨rfl, rfl⟩
  case tail => rcases h with ⟨rfl, rfl⟩ | ⟨rfl, rfl⟩ <;> exact .inl ⟨rfl, rfl⟩
  case check => rcases h with ⟨rfl, rfl⟩ | ⟨rfl, rfl⟩ <;> exact .inl ⟨rfl, rfl⟩
  case back => rcases h with ⟨rfl, rfl⟩; exact .inl ⟨rfl, rfl⟩
  case either =>
    rcases h with ⟨rfl, rfl⟩ | ⟨rfl, rfl⟩ | ⟨rfl, rfl⟩
    · exact .inl ⟨rfl, rfl⟩
    · exact .inr ⟨_, rfl, rfl, by simp only [nstS]; omega, by simp only [cntS]; omega⟩
    · exact .inr ⟨_, rfl, rfl, by simp only [nstS]; omega, by simp only [cntS]; omega⟩
  case loop =>
    rcases h with ⟨rfl, rfl⟩ | ⟨rfl, rfl⟩
    · exact .inl ⟨rfl, rfl⟩
    · exact .inr ⟨_, rfl, rfl, by simp only [nstS]; omega, by simp only [cntS]; omega⟩
  case block =>
    rcases h with ⟨rfl, rfl⟩ | ⟨rfl, rfl⟩ | ⟨rfl, rfl⟩
    · exact .inl ⟨rfl, rfl⟩
    · exact .inl ⟨rfl, rfl⟩
    · exact .inr ⟨_, rfl, rfl, by simp only [nstS]; omega, by simp only [cntS]; omega⟩
theorem cnt_parts (s : Stp) : cntS s = 1 + (((partsP s).filterMap (·.2)).map cntB).sum := by
  cases s <;> simp [partsP, cntS] <;> omega
theorem nst_mem {s : Stp} : ∀ {b : List Stp}, s ∈ b → nstS s ≤ nstB b
  | t :: r, h => by
    simp only [nstB]
    rcases List.mem_cons.mp h with rfl | h
    · omega
    · have := nst_mem h
      omega
theorem cnt_mem {s : Stp} : ∀ {b : List Stp}, s ∈ b → cntS s ≤ cntB b
  | t :: r, h => by
    simp only [cntB]
    rcases List.mem_cons.mp h with rfl | h
    · omega
    · have := cnt_mem h
      omega
theorem dqa_get {K : PySem.W.Frag} {H : Hp} : ∀ {vs : List V} {ds : List PyData} {i : Nat} {v : V}, DqA K H vs ds → vs[i]? = some v → ∃ d, ds[i]? = some d ∧ Dq K H v d
  | _, _, 0, _, .cons a _, h => ⟨_, rfl, by simp only [List.getElem?_cons_zero] at h; rw [← Option.some.inj h]; exact a⟩
  | _, _, i + 1, _, .cons _ b, h => by
    simp only [List.getElem?_cons_succ] at h ⊢
    exact dqa_get b h
theorem cntB_take {b : List Stp} {i : Nat} {s : Stp} (h : b[i]? = some s) : cntB (b.take (i + 1)) = cntB (b.take i) + cntS s := by
  rw [List.take_succ, h, cntB_app]
  simp only [Option.toList, cntB, Nat.add_zero]
theorem body_get {K : PySem.W.Frag} {H : Hp} {xs : List V} {b : List Stp} {i : Nat} {v : V} (h : DqA K H xs (bodyD b)) (hi : xs[i]? = some v) : ∃ s, b[i]? = some s ∧ Dq K H v (stpD s) := by
  obtain ⟨d, h1, h2⟩ := dqa_get h hi
  rw [bodyD_map, List.getElem?_map] at h1
  cases e : b[i]? with
  | none => rw [e] at h1; cases h1
  | some s => rw [e] at h1; exact ⟨s, rfl, by rw [← Option.some.inj h1] at h2; exact h2⟩
theorem step_at {K : PySem.W.Frag} {H : Hp} {v : V} {s : Stp} (h : Dq K H v (stpD s)) : ∃ a ys, v = .ref a ∧ SqT K H a ys ∧ DqA K H ys ((partsP s).map (·.1)) := by
  rw [stpD_parts] at h
  cases h with
  | tup h1 h2 => exact ⟨_, _, rfl, h1, h2⟩
theorem part_get {K : PySem.W.Frag} {H : Hp} {ys : List V} {s : Stp} {j : Nat} {v : V} (h : DqA K H ys ((partsP s).map (·.1))) (hj : ys[j]? = some v) : ∃ pr, (partsP s)[j]? = some pr ∧ Dq K H v pr.1 := by
  obtain ⟨d, h1, h2⟩ := dqa_get h hj
  rw [List.getElem?_map] at h1
  cases e : (partsP s)[j]? with
  | none => rw [e] at h1; cases h1
  | some s => rw [e] at h1; exact ⟨s, rfl, by rw [← Option.some.inj h1] at h2; exact h2⟩
def flatD : PyData → Bool
  | .none => true
  | .bool _ => true
  | .int _ => true
  | .str _ => true
  | _ => false
theorem parts_flat {s : Stp} {pr : PyData × Option (List Stp)} (h : pr ∈ partsP s) (n : isLst pr.1 = false) : flatD pr.1 = true := by
  cases s <;> simp only [partsP, List.mem_cons, List.not_mem_nil, or_false] at h
  case call => rcases h with rfl | rfl <;> rfl
  case tail => rcases h with rfl | rfl <;> rfl
  case check => rcases h with rfl | rfl <;> rfl
  case back => rcases h with rfl; rfl
  case either => rcases h with rfl | rfl | rfl <;> first | rfl | cases n
  case loop => rcases h with rfl | rfl <;> first | rfl | cases n
  case block => rcases h with rfl | rfl | rfl <;> first | rfl | cases n
theorem flat_dq {K : PySem.W.Frag} {H H' : Hp} {v : V} {d : PyData} (h : flatD d = true) (hv : Dq K H v d) : Dq K H' v d := by
  cases hv with
  | non => exact .non
  | bl b => exact .bl b
  | int i => exact .int i
  | str x => exact .str x
  | _ => cases h
theorem cnt_one (s : Stp) : 1 ≤ cntS s := by cases s <;> simp only [cntS] <;> omega
theorem len_cnt : ∀ b : List Stp, b.length ≤ cntB b
  | [] => Nat.zero_le _
  | s :: r => by
    have := len_cnt r
    have := cnt_one s
    simp only [List.length_cons, cntB]
    omega
mutual
theorem okS_mono {rs rs' ns ns' : List Str} (hr : ∀ x ∈ rs, x ∈ rs') (hn : ∀ x ∈ ns, x ∈ ns') : ∀ {mk : Bool} {s : Stp}, okS rs ns mk s = true → okS rs' ns' mk s = true
  | _, .call n, h => by simp only [okS, decide_eq_true_eq] at h ⊢; exact hn n h
  | _, .tail n, h => by simp only [okS, Bool.and_eq_true, decide_eq_true_eq] at h ⊢; exact ⟨hn n h.1, h.2⟩
  | _, .check r, h => by simp only [okS, decide_eq_true_eq] at h ⊢; exact hr r h
  | _, .back, _ => by simp only [okS]
  | _, .either a b, h => by simp only [okS, Bool.and_eq_true] at h ⊢; exact ⟨okB_mono hr hn h.1, okB_mono hr hn h.2⟩
  | _, .loop b, h => by simp only [okS] at h ⊢; exact okB_mono hr hn h
  | _, .block m b, h => by simp only [okS] at h ⊢; exact okB_mono hr hn h
theorem okB_mono {rs rs' ns ns' : List Str} (hr : ∀ x ∈ rs, x ∈ rs') (hn : ∀ x ∈ ns, x ∈ ns') : ∀ {mk : Bool} {b : List Stp}, okB rs ns mk b = true → okB rs' ns' mk b = true
  | _, [], _ => by simp only [okB]
  | _, s :: r, h => by simp only [okB, Bool.and_eq_true] at h ⊢; exact ⟨okS_mono hr hn h.1, okB_mono hr hn h.2⟩
end
/-! ### programs' parts -/
abbrev Fn := Str × Str × List Stp
def fnD (f : Fn) : PyData := .tuple [.str f.1, .str f.2.1, .list (bodyD f.2.2)]
def names4 : List Str := ["main", "f", "g", "h"]
structure Prt where
  rs : List Str
  os : List Own
  fs : List Fn
def prtD (p : Prt) : PyData := .list [strsD p.rs, .list (p.os.map ownD), .list (p.fs.map fnD)]
def fnOk (rs : List Str) (os : List Own) (ns : List Str) (f : Fn) : Prop := f.2.1 ∈ os.map (·.1) ∧ okB rs ns false f.2.2 = true ∧ nstB f.2.2 ≤ 2 ∧ cntB f.2.2 ≤ 12
structure PrtOk (many : Nat) (p : Prt) : Prop where
  rs : ∃ k, k < 3 ∧ p.rs = rights3.take (k + 1)
  os : OwnsOk p.rs p.os
  ns : p.fs.map (·.1) = names4.take many
  fs : ∀ f ∈ p.fs, fnOk p.rs p.os (names4.take many) f
theorem sIx_hi {n : Nat} {d : Nat} : HT.sIx n d (some (-1)) = n - 1 := by
  unfold HT.sIx
  simp only
  split <;> omega
theorem cut_last (xs : List V) : cutV xs none (some (-1)) = xs.take (xs.length - 1) := by
  unfold cutV
  rw [sIx_hi]
  rfl
theorem dqa_take {K : PySem.W.Frag} {H : Hp} : ∀ {vs : List V} {ds : List PyData} (i : Nat), DqA K H vs ds → DqA K H (vs.take i) (ds.take i)
  | _, _, 0, _ => .nil
  | _, _, i + 1, .nil => .nil
  | _, _, i + 1, .cons a b => .cons a (dqa_take i b)
theorem nstB_take : ∀ {b : List Stp} {i : Nat}, nstB (b.take i) ≤ nstB b
  | b, 0 => by rw [List.take_zero]; simp only [nstB]; omega
  | [], i + 1 => Nat.le_refl _
  | s :: r, i + 1 => by
    have := nstB_take (b := r) (i := i)
    rw [List.take_succ_cons]
    simp only [nstB]
    omega
theorem cntB_takeLe : ∀ {b : List Stp} {i : Nat}, cntB (b.take i) ≤ cntB b
  | b, 0 => by rw [List.take_zero]; simp only [cntB]; omega
  | [], i + 1 => Nat.le_refl _
  | s :: r, i + 1 => by
    have := cntB_takeLe (b := r) (i := i)
    rw [List.take_succ_cons]
    simp only [cntB]
    omega
theorem okB_take {rs ns : List Str} {mk : Bool} {b : List Stp} {i : Nat} (h : okB rs ns mk b = true) : okB rs ns mk (b.take i) = true := okB_of fun _ hs => okB_mem h (List.mem_of_mem_take hs)
end Kx

set_option Elab.async false
set_option maxRecDepth 100000
set_option linter.all false
set_option maxHeartbeats 4000000
/-! KitS: any data beside a text: x == text, text == x, x in [texts], xs.count(text). -/
namespace Kx
open PySem PySem.Spec PyProof.Rows L2 Evl SeqAt AutoSeq1 MeetsSeq
theorem dict_eq_declines_str (l : Addr) (es : Array DictEntry) (n : Nat) (dd : Option Addr) (sl : Array (Option Value)) (b : Str) (u : Tok) :
    Meets (Builtin.«dict.__eq__» ⟨[.ref l, .str b u], []⟩) (fun _ R s => s.heap.get? l = some { cls := .type "dict", dict := dd, data := .dict es n, slots := sl } ∧ R (.ok (.ret .notImplemented)) s) :=
  .of_wp fun prog w A R s h => by obtain ⟨hp, g, d, tk, os⟩ := s; obtain ⟨hl, h⟩ := h; have f1 := F.sub_str_dict; wp_walk using wpAny_loadPart' hl; exact ⟨_, rfl, h⟩
theorem str_eq_declines_dict (b : Str) (u : Tok) (l : Addr) (es : Array DictEntry) (n : Nat) (dd : Option Addr) (sl : Array (Option Value)) :
    Meets (Builtin.«str.__eq__» ⟨[.str b u, .ref l], []⟩) (fun _ R s => s.heap.get? l = some { cls := .type "dict", dict := dd, data := .dict es n, slots := sl } ∧ R (.ok (.ret .notImplemented)) s) :=
  .of_wp fun prog w A R s h => by obtain ⟨hp, g, d, tk, os⟩ := s; obtain ⟨hl, h⟩ := h; wp_walk using wpAny_loadPart' hl, wpAny_load hl; exact ⟨_, rfl, h⟩
section
variable {A : Around} {s : Shared}
theorem rc_dict_str {l : Addr} {o : Obj} {es : Array DictEntry} {n : Nat} (b : Str) (u : Tok) (ho : s.heap.get? l = some o) (hc : o.cls = .type "dict") (hd : o.data = .dict es n) (hu : A.units < cLine) : RcAt A s (.ref l) (.str b u) false := fun prog w E Q h => by
  obtain ⟨cls, dd, data, sl⟩ := o
  simp only at hc hd
  subst hc hd
  exact rc_eq_decline_or (k := false) ⟨_, ho, rfl⟩ (typeIs_str s b u) (by decide) F.sub_str_dict F.slot_dict_eq F.slot_str_eq_refl
    (fun _ hq => call_meets F.slot_dict_eq ⟨_, ho, rfl⟩ F.entry_dict_eq (F.args_dict_eq_2 _ _) (dict_eq_declines_str l es n dd sl b u) ⟨ho, hq⟩)
    (fun _ hq => call_meets F.slot_str_eq_refl (typeIs_str s b u) F.entry_str_eq (F.args_str_eq_2 _ _) (str_eq_declines_dict b u l es n dd sl) ⟨ho, hq⟩)
    (fun _ hq => wpAny_of_eq (rfl : isSame (.ref l) (.str b u) = pure false) hq) (.inr hu) h
theorem rc_str_dict {l : Addr} {o : Obj} {es : Array DictEntry} {n : Nat} (b : Str) (u : Tok) (ho : s.heap.get? l = some o) (hc : o.cls = .type "dict") (hd : o.data = .dict es n) (hu : A.units < cLine) : RcAt A s (.str b u) (.ref l) false := fun prog w E Q h => by
  obtain ⟨cls, dd, data, sl⟩ := o
  simp only at hc hd
  subst hc hd
  exact rc_eq_decline_or (k := false) (typeIs_str s b u) ⟨_, ho, rfl⟩ (by decide) F.sub_dict_str F.slot_str_eq F.slot_dict_eq_refl
    (fun _ hq => call_meets F.slot_str_eq (typeIs_str s b u) F.entry_str_eq (F.args_str_eq_2 _ _) (str_eq_declines_dict b u l es n dd sl) ⟨ho, hq⟩)
    (fun _ hq => call_meets F.slot_dict_eq_refl ⟨_, ho, rfl⟩ F.entry_dict_eq (F.args_dict_eq_2 _ _) (dict_eq_declines_str l es n dd sl b u) ⟨ho, hq⟩)
    (fun _ hq => wpAny_of_eq (rfl : isSame (.str b u) (.ref l) = pure false) hq) (.inr hu) h
theorem eq_dict_str {l : Addr} {o : Obj} {es : Array DictEntry} {n : Nat} (b : Str) (u : Tok) (ho : s.heap.get? l = some o) (hc : o.cls = .type "dict") (hd : o.data = .dict es n) (hu : A.units < cLine) : EqAt A s (.ref l) (.str b u) false := fun prog w E Q h => by
  unfold eqBool
  refine wpAny_holding ?_
  refine wpAny_ite_split (fun hab => absurd (eq_of_beq hab) nofun) (fun _ => ?_)
  exact wpAny_bind (rc_dict_str b u ho hc hd hu prog w E _ (wpAny_truthy_bool h))
theorem eq_str_dict {l : Addr} {o : Obj} {es : Array DictEntry} {n : Nat} (b : Str) (u : Tok) (ho : s.heap.get? l = some o) (hc : o.cls = .type "dict") (hd : o.data = .dict es n) (hu : A.units < cLine) : EqAt A s (.str b u) (.ref l) false := fun prog w E Q h => by
  unfold eqBool
  refine wpAny_holding ?_
  refine wpAny_ite_split (fun hab => absurd (eq_of_beq hab) nofun) (fun _ => ?_)
  exact wpAny_bind (rc_str_dict b u ho hc hd hu prog w E _ (wpAny_truthy_bool h))
def eqS (d : PyData) (x : Str) : Bool := match d with
  | .str y => y == x
  | _ => false
theorem isL {l : Addr} {o : Obj} {vs : Array Value} {n : Nat} (ho : s.heap.get? l = some o) (hc : o.cls = .type "list") (hd : o.data = .seq vs n) : s.heap.IsList l vs := ⟨o, ho, hc, n, hd⟩
theorem isT {l : Addr} {o : Obj} {vs : Array Value} {n : Nat} (ho : s.heap.get? l = some o) (hc : o.cls = .type "tuple") (hd : o.data = .seq vs n) : s.heap.IsTuple l vs := ⟨o, ho, hc, n, hd⟩
theorem rd_rcS {u : Value} {d : PyData} {as : List Addr} (x : Str) (t : Tok) (hu : A.units < cLine) (h : Reads s.heap u d as) : RcAt A s u (.str x t) (eqS d x) := by
  cases h with
  | none => exact RcAt.none_str x t
  | bool b => exact RcAt.bool_str b x t
  | int i k => exact RcAt.int_str i k x t
  | str y k => exact RcAt.str_str y k x t
  | list ho hc hd _ => exact RcAt.list_str x t (isL ho hc hd) hu
  | tuple ho hc hd _ => exact RcAt.tuple_str x t (isT ho hc hd) hu
  | dict ho hc hd _ _ => exact rc_dict_str x t ho hc hd hu
theorem rd_eqS {u : Value} {d : PyData} {as : List Addr} (x : Str) (t : Tok) (hu : A.units < cLine) (h : Reads s.heap u d as) : EqAt A s u (.str x t) (eqS d x) := by
  cases h with
  | none => exact EqAt.none_str x t
  | bool b => exact EqAt.bool_str b x t
  | int i k => exact EqAt.int_str i k x t
  | str y k => exact EqAt.str_str y k x t
  | list ho hc hd _ => exact EqAt.list_str x t (isL ho hc hd) hu
  | tuple ho hc hd _ => exact EqAt.tuple_str x t (isT ho hc hd) hu
  | dict ho hc hd _ _ => exact eq_dict_str x t ho hc hd hu
theorem beq_flip {x y : Str} : (x == y) = (y == x) := by
  rw [Bool.eq_iff_iff, beq_iff_eq, beq_iff_eq]
  exact ⟨Eq.symm, Eq.symm⟩
theorem rd_Seq {u : Value} {d : PyData} {as : List Addr} (x : Str) (t : Tok) (hu : A.units < cLine) (h : Reads s.heap u d as) : EqAt A s (.str x t) u (eqS d x) := by
  cases h with
  | none => exact EqAt.str_none x t
  | bool b => exact EqAt.str_bool x t b
  | int i k => exact EqAt.str_int x t i k
  | str y k =>
    have := EqAt.str_str (A := A) (s := s) x t y k
    rw [beq_flip] at this
    exact this
  | list ho hc hd _ => exact EqAt.str_list x t (isL ho hc hd) hu
  | tuple ho hc hd _ => exact EqAt.str_tuple x t (isT ho hc hd) hu
  | dict ho hc hd _ _ => exact eq_str_dict x t ho hc hd hu
end
section
variable {X : Cx} {pins : List (Addr × Obj)} {σ : L2.St} {H : Hp} {s : Shared}
mutual
theorem Dq.rd (I : Inv X pins σ H s) : ∀ {d : PyData} {v : V} {u : Value}, Dq X.K H v d → RelV v u → ∃ as, Reads s.heap u d as
  | _, _, _, .non, r => by cases r; exact ⟨_, Reads.none⟩
  | _, _, _, .bl b, r => by cases r; exact ⟨_, Reads.bool b⟩
  | _, _, _, .int i, r => by obtain ⟨t, rfl⟩ := r; exact ⟨_, Reads.int i t⟩
  | _, _, _, .str x, r => by obtain ⟨t, rfl⟩ := r; exact ⟨_, Reads.str x t⟩
  | _, _, _, .lst (a := a) h q, r => by
    cases r
    obtain ⟨_, its, n, rv, ho⟩ := (show ObjOk X.prog X.w H s.heap a (.lst _) from I.hok a _ h)
    obtain ⟨as, hr⟩ := DqA.rd I q rv
    exact ⟨_, Reads.list ho rfl rfl hr⟩
  | _, _, _, .tup h q, r => by
    cases r
    obtain ⟨its, rv, ⟨o, ho, hc, n, hd⟩, _⟩ := I.tuple h
    obtain ⟨as, hr⟩ := DqA.rd I q rv
    exact ⟨_, Reads.tuple ho hc hd hr⟩
  | _, _, _, .dic (a := a) h q, r => by
    cases r
    obtain ⟨_, ha, vs, rv, o, es, ep, ho, hx, hd, _, hp, _⟩ := (show ObjOk X.prog X.w H s.heap a (.dK _) from I.hok a _ h)
    obtain ⟨as, bs, h1, h2⟩ := DqD.rd I q rv hp
    exact ⟨_, Reads.dict ho hx.1 hd h1 h2⟩
theorem DqA.rd (I : Inv X pins σ H s) : ∀ {ds : List PyData} {vs : List V} {us : List Value}, DqA X.K H vs ds → Vals vs us → ∃ as, ReadsAll s.heap us ds as
  | _, _, _, .nil, r => by cases r; exact ⟨_, ReadsAll.nil⟩
  | _, _, _, .cons a b, r => by
    cases r with
    | cons r1 r2 =>
      obtain ⟨as, h1⟩ := Dq.rd I a r1
      obtain ⟨bs, h2⟩ := DqA.rd I b r2
      exact ⟨_, ReadsAll.cons h1 h2⟩
theorem DqD.rd (I : Inv X pins σ H s) : ∀ {ds : List (PyData × PyData)} {kvs : List (Key × V)} {vs : List (Key × Value)} {es : List DictEntry}, DqD X.K H kvs ds → KV kvs vs →
    Pairs (mixKind X.prog X.w) es vs → ∃ as bs, ReadsAll s.heap (es.map (·.key)) (ds.map (·.1)) as ∧ ReadsAll s.heap (es.map (·.val)) (ds.map (·.2)) bs
  | _, _, _, _, .nil, r, p => by
    cases r
    cases p
    exact ⟨_, _, ReadsAll.nil, ReadsAll.nil⟩
  | _, _, _, _, .cons a b, r, p => by
    cases r with
    | cons r1 r2 =>
      cases p with
      | cons p1 p2 p3 =>
        obtain ⟨e1, e2⟩ := r1
        obtain ⟨as, h1⟩ := Dq.rd I a (p2 ▸ e2)
        obtain ⟨bs, cs, h2, h3⟩ := DqD.rd I b r2 p3
        exact ⟨_, _, ReadsAll.cons (key_reads (by rw [← e1] at p1; exact p1)) h2, ReadsAll.cons h1 h3⟩
end
end
/-- x == text -/
def rEqS (K : PySem.W.Frag) : R2 := fun x y H Q => ∃ (d : PyData) (z : Str), Dq K H x d ∧ y = .str z ∧ Q (.bl (eqS d z)) H
theorem op_eqS {X : Cx} (hu : X.A.units < cLine) : OpR X (compareOp .Eq) (rEqS X.K) := by
  intro pins s σ H x y v u Q I rx ry h
  obtain ⟨d, z, hd, rfl, q⟩ := h
  obtain ⟨t, rfl⟩ := ry
  obtain ⟨as, hr⟩ := Dq.rd I hd rx
  exact rd_rcS z t hu hr X.prog X.w X.xe _ ⟨.bl _, H, I, rfl, q⟩
/-- the values of a list of texts, as one compares them -/
def strV (d : PyData) (v : Value) : Bool := match v with
  | .str y _ => eqS d y
  | _ => false
theorem strs_any {d : PyData} : ∀ {ws : List Str} {us : List Value}, Vals (ws.map V.str) us → us.any (strV d) = ws.any (eqS d)
  | [], _, h => by cases h; rfl
  | w :: ws, _, h => by
    cases h with
    | cons a b =>
      obtain ⟨t, rfl⟩ := a
      rw [List.any_cons, List.any_cons, strs_any b]
      rfl
theorem strs_mem {ws : List Str} : ∀ {us : List Value}, Vals (ws.map V.str) us → ∀ y ∈ us, ∃ w t, y = .str w t := by
  induction ws with
  | nil => intro us h y hy; cases h; cases hy
  | cons w ws ih =>
    intro us h y hy
    cases h with
    | cons a b =>
      rcases List.mem_cons.mp hy with rfl | hy
      · obtain ⟨t, rfl⟩ := a
        exact ⟨w, t, rfl⟩
      · exact ih b y hy
def rInS (K : PySem.W.Frag) (neg : Bool) : R2 := fun x y H Q => ∃ (d : PyData) (ws : List Str) (p : Addr), Dq K H x d ∧ y = .ref p ∧ SqL K H p (ws.map V.str) ∧ Q (.bl (cond neg (!ws.any (eqS d)) (ws.any (eqS d)))) H
theorem op_inTs {X : Cx} (hu : X.A.units + 1 < cLine) : OpR X (compareOp .In) (rInS X.K false) := by
  intro pins s σ H x y v u Q I rx ry h
  obtain ⟨d, ws, p, hd, rfl, hs, q⟩ := h
  cases ry
  obtain ⟨as, hr⟩ := Dq.rd I hd rx
  obtain ⟨its, rv, hl, _⟩ := I.list hs
  refine in_listAt (strV d) hl.isList (fun z hz => ?_) ⟨.bl _, H, I, rfl, ?_⟩
  · obtain ⟨w, t, rfl⟩ := strs_mem rv z (by simpa using hz)
    exact rd_Seq w t hu hr
  · rw [List.any_toArray, strs_any rv]
    simpa using q
theorem op_notInTs {X : Cx} (hu : X.A.units + 1 < cLine) : OpR X (compareOp .NotIn) (rInS X.K true) := by
  intro pins s σ H x y v u Q I rx ry h
  obtain ⟨d, ws, p, hd, rfl, hs, q⟩ := h
  cases ry
  obtain ⟨as, hr⟩ := Dq.rd I hd rx
  obtain ⟨its, rv, hl, _⟩ := I.list hs
  refine notIn_listAt (strV d) hl.isList (fun z hz => ?_) ⟨.bl _, H, I, rfl, ?_⟩
  · obtain ⟨w, t, rfl⟩ := strs_mem rv z (by simpa using hz)
    exact rd_Seq w t hu hr
  · rw [List.any_toArray, strs_any rv]
    simpa using q
/-- xs.count(text), xs any data -/
def rCntS (K : PySem.W.Frag) : V → List V → Hp → VK → Prop := fun x xs H Q => ∃ (p : Addr) (vs : List V) (ds : List PyData) (z : Str), x = .ref p ∧ xs = [.str z] ∧ SqL K H p vs ∧ DqA K H vs ds ∧ Q (.int ((ds.countP fun d => eqS d z : Nat))) H
theorem cnt_reads {A : Around} {s : Shared} {z : Str} {t : Tok} (hu : A.units < cLine) : ∀ {us : List Value} {ds : List PyData} {as : List Addr}, ReadsAll s.heap us ds as → ∃ e : Value → Bool, (∀ y ∈ us, EqAt A s y (.str z t) (e y)) ∧ us.countP e = ds.countP fun d => eqS d z := by
  intro us
  classical
  intro ds as h
  have all : ∀ {us : List Value} {ds : List PyData} {as : List Addr}, ReadsAll s.heap us ds as → ∀ e : Value → Bool, (∀ y d as', Reads s.heap y d as' → e y = eqS d z) → us.countP e = ds.countP fun d => eqS d z := by
    intro us
    induction us with
    | nil => intro ds as h e _; cases h; rfl
    | cons u us ih =>
      intro ds as h e he
      cases h with
      | cons a b =>
        rw [List.countP_cons, List.countP_cons, ih b e he, he _ _ _ a]
  have mem : ∀ {us : List Value} {ds : List PyData} {as : List Addr}, ReadsAll s.heap us ds as → ∀ y ∈ us, ∃ d as', Reads s.heap y d as' := by
    intro us
    induction us with
    | nil => intro ds as h y hy; cases hy
    | cons u us ih =>
      intro ds as h y hy
      cases h with
      | cons a b =>
        rcases List.mem_cons.mp hy with rfl | hy
        · exact ⟨_, _, a⟩
        · exact ih b y hy
  let e : Value → Bool := fun v => match v with
    | .str y _ => y == z
    | _ => false
  have he : ∀ y d as', Reads s.heap y d as' → e y = eqS d z := fun y d as' h => by cases h <;> rfl
  refine ⟨e, fun y hy => ?_, all h e he⟩
  obtain ⟨d, as', hr⟩ := mem h y hy
  rw [he y d as' hr]
  exact rd_eqS z t hu hr
theorem mt_countS {X : Cx} (hu : X.A.units + 1 < cLine) : MtR X "list.count" (rCntS X.K) := by
  intro pins s σ H x xs v us Q I rx rxs h
  obtain ⟨p, vs, ds, z, rfl, rfl, hs, hd, q⟩ := h
  cases rx
  obtain ⟨u, rfl, ru⟩ := rxs.one
  obtain ⟨t, rfl⟩ := ru
  obtain ⟨its, rv, ⟨⟨cls, dd, data, sl⟩, n, ho, hc, hdn, hdt⟩, hlen⟩ := I.list hs
  simp only at hc hdt
  subst hc hdt
  obtain ⟨as, hr⟩ := DqA.rd I hd rv
  obtain ⟨e, h1, h2⟩ := cnt_reads (A := X.A.in1) (z := z) (t := t) hu hr
  refine call_meets PySem.F.slot_list_count ⟨_, ho, rfl⟩ PySem.F.entry_list_count (PySem.F.args_list_count_2 _ _)
    (SeqAt.list_countAt p its.toArray n dd sl (.str z t) e) ⟨ho, fun y hy => h1 y (by simpa using hy), ?_⟩
  refine ⟨.int _, H, I.tok _, ⟨s.toks, ?_⟩, q⟩
  show Value.int ((its.toArray.toList.countP e : Nat) : Int) s.toks = _
  rw [show its.toArray.toList = its from rfl, h2]
/-! ### isinstance of data, by kind; a comprehension over a text -/
def isStrD : PyData → Bool
  | .str _ => true
  | _ => false
def isTupD : PyData → Bool
  | .tuple _ => true
  | _ => false
def isBoolD : PyData → Bool
  | .bool _ => true
  | _ => false
theorem isi_s {K : PySem.W.Frag} {H : Hp} {v : V} {d : PyData} {Q : VK} (h : Dq K H v d) (q : Q (.bl (isStrD d)) H) : rIsiS K [v, .ty "str"] H Q :=
  ⟨v, _, _, _, _, rfl, .ty _, dq_tyx h, kit_ty (by cases h <;> rfl), q⟩
theorem isi_t {K : PySem.W.Frag} {H : Hp} {v : V} {d : PyData} {Q : VK} (h : Dq K H v d) (q : Q (.bl (isTupD d)) H) : rIsiS K [v, .ty "tuple"] H Q :=
  ⟨v, _, _, _, _, rfl, .ty _, dq_tyx h, kit_ty (by cases h <;> rfl), q⟩
theorem isi_b {K : PySem.W.Frag} {H : Hp} {v : V} {d : PyData} {Q : VK} (h : Dq K H v d) (q : Q (.bl (isBoolD d)) H) : rIsiS K [v, .ty "bool"] H Q :=
  ⟨v, _, _, _, _, rfl, .ty _, dq_tyx h, kit_ty (by cases h <;> rfl), q⟩
theorem lc_text {x : Str} {g : TG} {tt : TT} {te : TE} {vs : List Nat} {σ : L2.St} {H1 : Hp} {D : Addr} {Qd : Hp → Prop} (Pv : Nat → Hp → Prop) (h0 : Pv 0 (upd H1 D (.lst [])))
    (hs : ∀ i c H, x.cps[i]? = some c → Pv i H → g (.str ⟨#[c]⟩) (wipe σ vs) H fun σ2 H2 => wipe σ2 vs = wipe σ vs ∧ tt σ2 H2 fun b H3 =>
      if b = true then te σ2 H3 fun y H4 => ∃ acc, H4 D = some (.lst acc) ∧ acc.length < sizeLine ∧ Pv (i + 1) (upd H4 D (.lst (acc ++ [y]))) else Pv (i + 1) H3) (hd : ∀ H, Pv x.cps.size H → Qd H) :
    ∃ W : Nat → Nat → Hp → Prop, (∃ m, W 0 m (upd H1 D (.lst []))) ∧ ∀ i m H, W i m H →
      ((Its x).stop i H ∧ Qd H) ∨ ((Its x).go i H ∧ ∃ Nx : Hp → Prop, (∀ H', Nx H' → ∃ m', m' < m ∧ W (i + 1) m' H') ∧ ∀ y H', (Its x).yld i H y H' → g y (wipe σ vs) H' fun σ2 H2 => wipe σ2 vs = wipe σ vs ∧ tt σ2 H2 fun b H3 =>
        if b = true then te σ2 H3 fun y H4 => ∃ acc, H4 D = some (.lst acc) ∧ acc.length < sizeLine ∧ Nx (upd H4 D (.lst (acc ++ [y]))) else Nx H3) := by
  refine ⟨fun i m H => m = x.cps.size - i ∧ i ≤ x.cps.size ∧ Pv i H, ⟨x.cps.size, by simp, Nat.zero_le _, h0⟩, ?_⟩
  rintro i m H ⟨rfl, hi, p⟩
  by_cases hlt : i < x.cps.size
  · refine .inr ⟨hlt, Pv (i + 1), fun H' p' => ⟨x.cps.size - (i + 1), by omega, rfl, hlt, p'⟩, fun y H' yy => ?_⟩
    obtain ⟨e, c, hc, rfl⟩ := yy
    subst e
    exact hs i c _ hc p
  · have e : i = x.cps.size := by omega
    subst e
    exact .inl ⟨Nat.le_refl _, hd H p⟩
end Kx

set_option Elab.async false
set_option maxRecDepth 100000
set_option linter.all false
set_option maxHeartbeats 4000000
/-! KitT: an exception that is caught and held beyond its suite. -/
namespace Kx
open PySem PySem.Spec PyProof.Rows L2 Evl
/-- at a stands an exception of the class at C, whatever its record holds -/
def exk (a C : Addr) (d : Option Addr) : HO := .ext fun h => ∃ ox : Obj, h.get? a = some ox ∧ ox.cls = .ref C ∧ ox.dict = d ∧ PySem.W.notCls ox = true
theorem xat_exk {H : Hp} {a C : Addr} {d : Option Addr} (h : H a = some (exk a C d)) : XAt H a C d := ⟨_, h, fun _ e => e⟩
section
variable {X : Cx} {pins : List (Addr × Obj)} {σ : L2.St} {H : Hp} {s : Shared} {a C : Addr} {d : Option Addr} {oe : Obj} {vs : Array Value}
theorem exk_ok {P : Program} {w : World} {H' : Hp} {h : Heap} (e : h.get? a = some oe) (z : Zc (.ref C) d oe) (hd : oe.data = .fields vs) : ObjOk P w H' h a (exk a C d) :=
  ⟨⟨oe, e, z.1, z.2, by unfold PySem.W.notCls; rw [hd]⟩, ⟨_, e⟩, fun h1 h2 ⟨ox, e1, r⟩ k => ⟨ox, k _ e1, r⟩⟩
/-- what was pinned and is new since the entry is known from now on -/
theorem Inv.track (I : Inv X ((a, oe) :: pins) σ H s) (n0 : X.s_0.heap.get? a = none) (np : ∀ p ∈ X.pn ++ pins, p.1 ≠ a) (z : Zc (.ref C) d oe) (hd : oe.data = .fields vs) : Inv X pins σ (upd H a (exk a C d)) s := by
  obtain ⟨e, na, nl, nf, nc⟩ := I.pin (a, oe) (List.mem_append_right _ (List.mem_cons_self ..))
  have nz : ∀ {b : Addr} {u : HO}, H b = some u → b ≠ a := fun h => ne_of_none h na
  refine ⟨I.ok, I.os, I.bare, ⟨I.base.keep, I.base.slot, fun b o h1 h2 h3 => ?_, I.base.there, fun b xs h => ?_, fun b o u h => ?_, fun b ps h => ?_⟩, I.loc, I.cell, ?_, fun x c hc => ?_, fun p hp => ?_, I.hok.laidN (fun _ _ q => q) na (exk_ok e z hd), I.len⟩
  · rw [upd_ne (fun y => by rw [y, n0] at h1; cases h1)]
    exact I.base.free b o h1 h2 h3
  · have q := I.base.tups b xs h
    rw [upd_ne (nz q)]
    exact q
  · have q := I.base.frzs b o u h
    rw [upd_ne (nz q)]
    exact q
  · obtain ⟨more, q⟩ := I.base.tbls b ps h
    exact ⟨more, by rw [upd_ne (nz q)]; exact q⟩
  · rw [upd_ne nl.symm]
    exact I.free
  · have : c ≠ a := fun y => by
      obtain ⟨v, oc, h1, h2⟩ := I.cell x c hc
      rw [y, e] at h1
      cases h1
      exact nc v h2
    rw [upd_ne this]
    exact I.freeC x c hc
  · have q := I.pin p (by
      rcases List.mem_append.mp hp with h | h
      · exact List.mem_append_left _ h
      · exact List.mem_append_right _ (List.mem_cons_of_mem _ h))
    exact ⟨q.1, by rw [upd_ne (np p hp)]; exact q.2.1, q.2.2⟩
end
/-- the ends of a suite whose exception is held from then on -/
def keepD (D : Ends) (i : Nat) (a C : Addr) (d : Option Addr) : Ends :=
  { nx := fun σ' H' => D.nx (σ'.set i none) (upd H' a (exk a C d)), rt := fun v H' => D.rt v (upd H' a (exk a C d)), bk := fun σ' H' => D.bk (σ'.set i none) (upd H' a (exk a C d)), ct := fun σ' H' => D.ct (σ'.set i none) (upd H' a (exk a C d)) }
/-- what 'except x as n' wishes, n's exception held beyond -/
def wKeep (K : PySem.W.Frag) (c : Value) (i : Nat) (ts : Addr → Addr → Option Addr → TS) (Wout : WX) (D : Ends) : WX := fun cls d σ H =>
  ∃ (C : Addr) (b : Bool), cls = .ref C ∧ PySem.W.exmOne K cls c = some b ∧ (b = true → ∀ a, H a = none → ts a C d (keepD D i a C d) (σ.set i (some (.ref a))) H) ∧ (b = false → Wout cls d σ H)
section
variable {X : Cx} {x n : Str} {c : Value} {i : Nat} {body suite : List Stmt} {st0 : Stmt} {np pos pos' : Pos} {tb : WX → TS} {ts : Addr → Addr → Option Addr → TS} {Wout : WX} {pins : List (Addr × Obj)} {σ : L2.St} {H : Hp} {s : Shared}
theorem Inv.unsuiteP {a : Addr} {q : Addr × Obj} {pn' : List (Addr × Obj)} (I : Inv (X.suite a (q :: (X.pn ++ pins))) pn' σ H s) (ok : X.Ok) : Inv X (q :: pins) σ H s :=
  { I with ok := ok, pin := fun p hp => I.pin p (List.mem_append_left _ (by
      rcases List.mem_append.mp hp with h | h
      · exact List.mem_cons_of_mem _ (List.mem_append_left _ h)
      · rcases List.mem_cons.mp h with rfl | h
        · exact List.mem_cons_self ..
        · exact List.mem_cons_of_mem _ (List.mem_append_right _ h))) }
theorem ps_try_keep (hx : X.ex = []) (hs : X.stack = X.env :: X.outer) (hf : X.env.frame = some X.env.locals) (hN : X.N.Nodup) (hi : X.N[i]? = some n) (hln : X.env.kindOf n = some .local) (hc : Names X x c) (tk : Takes X Wout)
    (hb : ∀ (W : WX) (pn : List (Addr × Obj)) (xe : Value → Shared → Prop), Takes (X.tr pn xe) W → PassesOwn (model X.prog X.w) X.A X.env xe → PSs (X.tr pn xe) body (tb W))
    (hsu : ∀ (a : Addr) (oe : Obj) (C : Addr) (d : Option Addr) (pn : List (Addr × Obj)), Zc (.ref C) d oe → (∃ vs, oe.data = .fields vs) → PSs (X.suite a ((a, oe) :: pn)) (st0 :: suite) (ts a C d)) :
    PS X (.Try body [.ExceptHandler (some (.Name x np)) (some n) (st0 :: suite) pos'] [] [] pos) (fun D σ H => tb (wKeep X.K c i ts Wout D) D σ H) := by
  constructor
  intro pins s σ H D I h
  have ok := I.ok
  have hfr : X.A.frames = some (X.env :: X.outer) := ok.frames.trans (congrArg some hs)
  refine wpAny_Try_except (wpAny_mono ((hb (wKeep X.K c i ts Wout D) (X.pn ++ pins)
    (fun u s₁ => wpAny (model X.prog X.w) X.A (noteFrame u X.env) (fun _ s₂ => wpAny (model X.prog X.w) X.A (setFlight u none) (fun _ s₃ => wpAny (model X.prog X.w) X.A (handleBy u X.env [.ExceptHandler (some (.Name x np)) (some n) (st0 :: suite) pos']) (SP X pins D) X.xe s₃) X.xe s₂) X.xe s₁)
    (fun u s' air => ?caught) PassesOwn.looking).run [] s σ H D (I.toTry _) h) (fun fl s1 hsp => ?done) (fun _ _ z => z))
  case done =>
    cases fl with
    | next =>
      obtain ⟨σ1, H1, J, q⟩ := hsp
      exact wpAny_execs_nil ⟨σ1, H1, J.ofTry ok, q⟩
    | brk =>
      obtain ⟨σ1, H1, J, q⟩ := hsp
      exact ⟨σ1, H1, J.ofTry ok, q⟩
    | cont =>
      obtain ⟨σ1, H1, J, q⟩ := hsp
      exact ⟨σ1, H1, J.ofTry ok, q⟩
    | ret u =>
      obtain ⟨v, σ1, H1, J, r, q⟩ := hsp
      exact ⟨v, σ1, H1, J.ofTry ok, r, q⟩
  case caught =>
    obtain ⟨a, B, sI, pins', σ1, H1, cls, d, rfl, J0, nb, up, sky, na, os, ag, C, b, rfl, hb1, hyes, hno⟩ := air
    have J : Inv X pins σ1 H1 sI := J0.ofTry ok
    rw [show (X.tr (X.pn ++ pins) _).stack = X.env :: X.outer from hs] at sky
    show wpAny (model X.prog X.w) X.A (noteFrame (.ref a) X.env) _ _ _
    refine Sky.land Zc.steady hfr hf sky fun h3 fl3 up3 => ?_
    have J3 : Inv X pins σ1 H1 { s' with heap := h3 } := J.landed nb fl3.1 (up.trans up3) os ag
    obtain ⟨oe3, vs3, he3, hz3, hd3⟩ := fl3.there
    have nfr : a ∉ frs (X.env :: X.outer) := fun hm => by
      obtain ⟨_, o', e', hnf⟩ := (show h3.FunFrames B (X.env :: X.outer) from fl3.2.2.1).mem hm
      rw [he3] at e'
      cases e'
      exact hnf _ hd3
    have nL : a ≠ X.env.locals := fun y => nfr (List.mem_filterMap.mpr ⟨X.env, List.mem_cons_self, by rw [hf, y]⟩)
    have nF : a ∉ X.fs := fun hm => by
      obtain ⟨e, he, q⟩ := List.mem_filterMap.mp hm
      exact nfr (List.mem_filterMap.mpr ⟨e, List.mem_cons_of_mem _ he, q⟩)
    have nI : sI.heap.get? a = none := by
      cases y : sI.heap.get? a with
      | none => rfl
      | some o =>
        have := nb a o y (by rw [show (X.tr (X.pn ++ pins) _).stack = X.env :: X.outer from hs]; exact nfr)
        rw [fl3.2.1] at this
        cases this
    have n0 : X.s_0.heap.get? a = none := by
      cases y : X.s_0.heap.get? a with
      | none => rfl
      | some o =>
        obtain ⟨o', q⟩ := J.base.there a o y (by rw [hx]; exact fun z => nomatch z)
        rw [nI] at q
        cases q
    have npi : ∀ p ∈ X.pn ++ pins, p.1 ≠ a := fun p hp y => by
      have := (J.pin p hp).1
      rw [y, nI] at this
      cases this
    have S3 := J3.suite he3 hd3 na nL nF
    have look : PySem.W.Looks (model X.prog X.w) h3 (typeOf (.ref a)) (.ref C) := fun A' Q' E' t k q => wpAny_typeOf_ref (k _ _ he3) (hz3.1.symm ▸ q)
    have name : ∀ {Q : Value → Shared → Prop} {E : Value → Shared → Prop}, Q c { s' with heap := h3 } → wpAny (model X.prog X.w) (X.A.mark (some (.ref a))) (eval (.Name x np) X.env) Q E { s' with heap := h3 } := by
      intro Q E q
      obtain ⟨g1, g2, ⟨g3⟩ | ⟨g3, g4, g5⟩⟩ := hc
      · exact ld_glob (X := X.suite a ((a, oe3) :: (X.pn ++ pins))) S3 g1 g3 q g2
      · exact ld_blt (X := X.suite a ((a, oe3) :: (X.pn ++ pins))) S3 g1 g3 g4 q g5 g2
    refine wpAny_handleBy_cons (codeAny_handlers_test (name ((PySem.W.exm_one (M := model X.prog X.w) J3.kIn look hb1).here ?_))) (fun q => nomatch q)
    cases b
    · show wpAny _ X.A (handleBy (.ref a) X.env []) _ _ _
      refine wpAny_handleBy_nil ?_
      obtain ⟨k1, k2, k3, oe, vs, T, oT, ts', he, hz, hd, h1, hr⟩ := id fl3
      have out : wpAny (model X.prog X.w) X.A (setFlight (.ref a) X.env.frame) (fun _ s4 => wpAny (model X.prog X.w) X.A (throw (.ref a) : Sem Flow) (SP X pins D) X.xe s4) X.xe { s' with heap := h3 } := by
        rw [hf]
        refine HandSPX.setFlight_upZ fl3 fun h4 held up4 => wpAny_throw (tk _ _ ⟨a, B, sI, pins, σ1, H1, .ref C, d, rfl, J, nb, (up.trans up3).trans up4, .inr (.inr ?_), na, os, ag, hno rfl⟩)
        rw [hs]
        exact held
      unfold PySem.passOn
      refine wpAny_bind (wpAny_field he hd h1 ?_)
      rw [if_neg (show ¬ (Value.ref T == Value.none) = true from fun z => nomatch z)]
      first
        | exact wpAny_bind out
        | exact wpAny_bind (wpAny_pure (wpAny_bind out))
    · refine codeAny_handlers_suite_as (HandSPX.lands_againZ fl3 fun h4 fl4 up4 => ?_)
      obtain ⟨oe4, vs4, he4, hz4, hd4⟩ := fl4.there
      have S4 := (J.landed nb fl4.1 ((up.trans up3).trans up4) os ag : Inv X pins σ1 H1 { s' with heap := h4 }).suite he4 hd4 na nL nF
      refine store_ok (X := X.suite a ((a, oe4) :: (X.pn ++ pins))) (v := .ref a) S4 hN hi (.inl hln) rfl (fun s5 S5 => ?_) (.inr hln)
      refine wpAny_mono ((hsu a oe4 C d (X.pn ++ pins) hz4 ⟨_, hd4⟩).run [] s5 _ H1 _ S5 (hyes rfl a na)) (fun fl s6 hsp => ?_) (fun _ _ z => z.elim)
      have last : ∀ {σ6 : L2.St} {H6 : Hp} {Q : Shared → Prop}, Inv (X.suite a ((a, oe4) :: (X.pn ++ pins))) [] σ6 H6 s6 → (∀ s7, Inv X pins (σ6.set i none) (upd H6 a (exk a C d)) s7 → Q s7) →
          wpAny (model X.prog X.w) X.A (do bindName X.env n .none; unbindBehindTheSuite X.env n pos') (fun _ s7 => Q s7) X.xe s6 := fun S6 hq =>
        gone_ok (Inv.unsuiteP S6 ok) hN hi hln fun s7 J7 => hq s7 (Inv.track J7 n0 npi hz4 hd4)
      cases fl with
      | next =>
        obtain ⟨σ6, H6, S6, q6⟩ := hsp
        exact last S6 fun s7 J7 => ⟨_, _, J7, q6⟩
      | brk =>
        obtain ⟨σ6, H6, S6, q6⟩ := hsp
        exact last S6 fun s7 J7 => ⟨_, _, J7, q6⟩
      | cont =>
        obtain ⟨σ6, H6, S6, q6⟩ := hsp
        exact last S6 fun s7 J7 => ⟨_, _, J7, q6⟩
      | ret u =>
        obtain ⟨v6, σ6, H6, S6, r6, q6⟩ := hsp
        exact last S6 fun s7 J7 => ⟨_, _, _, J7, r6, q6⟩
end
/-- what gives a new exception of an own class back, with its dict, makes an exception -/
theorem pmk_xo {X : Cx} {e : Expr} {te : TE} (hx : X.ex = []) (he : PE X e te) :
    PMk X e (fun σ H Q => te σ H fun x H1 => ∃ a C d, x = .ref a ∧ H1 a = some (exo a C (some d)) ∧ Fr0 X.H_0 a ∧ Raises X (.ref C) ∧ Q (.ref C) (some d) (delH H1 a)) := fun pins s σ H Q I h =>
  wpAny_mono (he.run pins s σ H _ I h) (fun u s1 ⟨v, H1, I1, r1, a, C, d, ev, ha, h0, hr, q⟩ => by
    subst ev
    cases r1
    obtain ⟨⟨t1, ho⟩, _⟩ := (show ObjOk X.prog X.w H1 s1.heap a (exo a C (some d)) from I1.hok a _ ha)
    obtain ⟨G, gs, ga, J⟩ := I1.untrack ha h0 hx
    exact ⟨a, _, _, { s1 with heap := G }, delH H1 a, _, some d, rfl, J, gs, ga, ho, ⟨rfl, rfl⟩, rfl, rfl, delH_same, rfl, I1.bare, hr, q⟩) fun _ _ z => z
/-- raise C(e), C an own class with one field: what flies holds it -/
structure XFly (H H2 : Hp) (d : Addr) (f : Str) (v : V) : Prop where
  s : Same H H2
  o : H2 d = some (exd d [(f, v)])
  n : H d = none
theorem XFly.fat {H H2 : Hp} {d : Addr} {f : Str} {v : V} (h : XFly H H2 d f v) : FAt H2 d [(f, v)] := .inl h.2
section
variable {X : Cx} {W : WX} {fI C : Addr} {fd : FuncData} {x f : Str} {p pos pos2 : Pos} {e : Expr} {te : TE}
def tXR (C : Addr) (f : Str) (te : TE) : TE := fun σ H Q => te σ H fun v H1 => ∀ a d H2, H1 a = none → H1 d = none → d ≠ a → Same H1 H2 → H2 a = some (exo a C (some d)) → H2 d = some (exd d [(f, v)]) → Q (.ref a) H2
theorem pe_xr1 (T : XCls X.prog X.w X.K X.mg x f C fI fd) (hr : Room 2 X.A) (hg : Gl X x) (he : PE X e te)
    (hm : ∀ σ H (Q Q' : VK), (∀ v H1, Q v H1 → Q' v H1) → te σ H Q → te σ H Q')
    (hdb : (x == ("__debug__" : Str)) = false := by decide) (hs : starEach [e] X.env = (false, eval e X.env) :: starEach [] X.env := by rfl)
    (hpl : (backTo pos (starEach [] X.env)).any (·.1) = false := by rfl) : PE X (.Call (.Name x p) [e] [] pos) (tXR C f te) := by
  refine PE.imp (pe_mkV T.o T.iC T.tI (T.fn X.base) hr hg T.mgC T.b2 .nil pass0 (pa_cons he pa_nil hs) hdb hs hpl) fun σ H Q q => hm σ H _ _ (fun v H1 k => ⟨(by show 1 ≤ 1000; decide), fun a ha => ⟨a, v, rfl, upd_same, fun d hd hne => ⟨rfl, ?_⟩⟩⟩) q
  obtain ⟨h1, _⟩ := xv_made (f := f) (v := v) ha hd hne
  exact k a d _ ha (by rw [upd_ne hne] at hd; exact hd) hne h1 upd_same (by rw [upd_ne hne]; exact upd_same)
/-- raise C(e): H0 is the heap at the entry -/
def tFly (H0 : Hp) (C : Addr) (f : Str) (W : WX) (te : TE) : TS := fun _ σ H => te σ H fun v H1 => (∀ a, H1 a = none → H0 a = none) ∧ ∀ d H2, XFly H1 H2 d f v → W (.ref C) (some d) σ H2
theorem ps_raiseX (hc : X.calm = true) (hx : X.ex = []) (tk : Takes X W) (T : XCls X.prog X.w X.K X.mg x f C fI fd) (hr : Room 2 X.A) (hg : Gl X x) (he : PE X e te)
    (hm : ∀ σ H (Q Q' : VK), (∀ v H1, Q v H1 → Q' v H1) → te σ H Q → te σ H Q')
    (hdb : (x == ("__debug__" : Str)) = false := by decide) (hs : starEach [e] X.env = (false, eval e X.env) :: starEach [] X.env := by rfl)
    (hpl : (backTo p (starEach [] X.env)).any (·.1) = false := by rfl) : PS X (.Raise (some (.Call (.Name x pos2) [e] [] p)) none pos) (tFly X.H_0 C f W te) := by
  have m := ps_raise (pos := pos) hc tk (pmk_xo hx (pe_xr1 (p := pos2) T hr hg he hm hdb hs hpl))
  refine ⟨fun pins s σ H D I h => m.run pins s σ H D I (hm σ H _ _ (fun v H1 ⟨h0, k⟩ a d H2 ha hdn hne hs2 h1 h2 => ⟨a, C, d, rfl, h1, fr0_none (h0 a ha), raises_own T.o.exC T.o.tyC, k d _ ⟨fun b o hb => ?_, ?_, hdn⟩⟩) h)⟩
  · rw [delH_ne (ne_of_none hb ha)]
    exact hs2 b o hb
  · rw [delH_ne hne]
    exact h2
end
end Kx

set_option Elab.async false
set_option maxRecDepth 100000
set_option linter.all false
set_option maxHeartbeats 2000000
/-! KitU: objects made where an exception may fly; a write beside what is new. -/
namespace Kx
open PySem PySem.Spec PyProof.Rows L2 Evl
section
variable {H H1 H2 M M2 : Hp} {p : Addr} {o0 o1 : HO}
theorem new_swap (k : New (upd H1 p o1) H2 M2) (h : H1 p = some o0) : New H1 (upd H2 p o0) M2 ∧ H2 = upd (upd H2 p o0) p o1 := by
  have hp : H2 p = some o1 := k.hh _ _ upd_same
  have mp : M2 p = none := k.fr p o1 upd_same
  refine ⟨⟨fun a u e => ?_, fun a u e => ?_, fun a u e => ?_⟩, ?_⟩
  · by_cases z : a = p
    · rw [z, h] at e
      rw [z, upd_same]
      exact e
    · rw [upd_ne z]
      exact k.hh a u (by rw [upd_ne z]; exact e)
  · have z : a ≠ p := fun z => by rw [z, mp] at e; cases e
    rw [upd_ne z]
    exact k.mh a u e
  · by_cases z : a = p
    · rw [z]; exact mp
    · exact k.fr a u (by rw [upd_ne z]; exact e)
  · funext a
    by_cases z : a = p
    · rw [z, upd_same, hp]
    · rw [upd_ne z, upd_ne z]
theorem new_ofEx (e : Ex H H2) : New H H2 emp := ⟨e, fun a o h => (nomatch h), fun _ _ _ => rfl⟩
end
section
variable {X : Cx} {CX : CXT} {k : Nat} {f C : Addr} {fd : FuncData} {ps : List Str} {sp : Sp} {dvs : List V} {ds : List Value} {E : L2.St → XK} {x : Str} {p pos : Pos} {e : Expr} {es : List Expr} {t : TA}
theorem run_makeS {pins : List (Addr × Obj)} {σ : L2.St} {H : Hp} {s : Shared} {Q : VK} {us : List Value} {vs : List V} (M : Mk X.K C f) (F : FnOk X.prog X.w X.K X.mg X.base CX k f fd ps sp) (hr : Room (k + 1) X.A) (hb : Binds X.K fd ps ds) (hd : Vals dvs ds)
    (hx : PassesAt CX X σ (E σ)) (I : Inv X pins σ H s) (r : Vals vs us)
    (h : ∀ x dx, H x = none → H dx = none → dx ≠ x → sp (.ref x :: (vs ++ dvs)) (upd (upd H dx (.own x)) x (.ins C dx [])) (fun v H2 => v = .non ∧ Q (.ref x) H2) (E σ)) :
    wpAny (model X.prog X.w) X.A (call (.ref C) us) (EP X pins σ Q) X.xe s := by
  have hq := h (s.heap.objs.size + 1) s.heap.objs.size (I.hok.fresh (Nat.le_succ _)) (I.hok.fresh (Nat.le_refl _)) (Nat.ne_of_lt (Nat.lt_succ_self _))
  have I2 := Inv.made (C := C) I
  have r2 : Vals (V.ref (s.heap.objs.size + 1) :: (vs ++ dvs)) (Value.ref (s.heap.objs.size + 1) :: (us ++ ds)) := .cons rfl (r.append hd)
  have hl : (Value.ref (s.heap.objs.size + 1) :: us ++ ds).length = ps.length := by
    have e := r2.length
    rw [F.len _ _ _ _ hq] at e
    exact e.symm
  refine wpAny_call (make_map (f := f) I.kIn M.makes M.init (beq_iff_eq.mp M.fn) (codeAny_mono (F.run _ X.stack _ _ ⟨Value.ref (s.heap.objs.size + 1) :: us, []⟩ (Value.ref (s.heap.objs.size + 1) :: (us ++ ds)) _ _ (E σ) (hr.make C us [])
    (I2.env0.make C us []) (hb _ (Value.ref (s.heap.objs.size + 1) :: us) I2.kIn hl) r2 hq) fun r s' hq' => ?_))
  cases r with
  | error e => exact hx pins _ _ e s' I2 hq'
  | ok fl =>
    cases fl with
    | ret u =>
      obtain ⟨v, H', I3, rv, ev, q3⟩ := I2.after hq'
      subst ev
      exact ⟨rv, ⟨V.ref (s.heap.objs.size + 1), H', I3, rfl, q3⟩⟩
    | next => exact False.elim hq'
    | brk => exact False.elim hq'
    | cont => exact False.elim hq'
def tMakeS (C : Addr) (sp : Sp) (dvs : List V) (E : L2.St → XK) (t : TA) : TE := fun σ H Q => t σ H fun vs H1 => ∀ x dx, H1 x = none → H1 dx = none → dx ≠ x →
  sp (.ref x :: (vs ++ dvs)) (upd (upd H1 dx (.own x)) x (.ins C dx [])) (fun v H2 => v = .non ∧ Q (.ref x) H2) (E σ)
theorem pe_makeS (M : Mk X.K C f) (F : FnOk X.prog X.w X.K X.mg X.base CX k f fd ps sp) (hr : Room (k + 1) X.A) (hg : Gl X x) (hm : X.mg x = some (.ref C)) (hb : Binds X.K fd ps ds) (hd : Vals dvs ds) (hx : ∀ σ, PassesAt CX X σ (E σ))
    (ha : PA X (e :: es) t) (hdb : (x == ("__debug__" : Str)) = false := by decide) (he : starEach (e :: es) X.env = (false, eval e X.env) :: starEach es X.env := by rfl) (hpl : (backTo pos (starEach es X.env)).any (·.1) = false := by rfl) :
    PE X (.Call (.Name x p) (e :: es) [] pos) (tMakeS C sp dvs E t) := by
  refine ⟨fun pins s σ H Q I h => ?_⟩
  refine wpAny_Call_Name_kw (ld_glob I hg hm ?_ hdb)
  refine PySem.W.callWith_K (h₀ := X.base) I.ok.mod.kin M.kp (thn (ha.run pos pins s σ H _ I h) fun us s1 ⟨vs, H1, I1, r, q⟩ => ⟨I1.kIn, ?_⟩) he hpl
  exact run_makeS M F hr hb hd (hx σ) I1 r q
theorem no_passes {P : Program} {w : World} (hP : X.prog = P) (hw : X.w = w) : Passes (L2.CX P w) X fun _ _ _ => False := fun _ _ _ _ _ _ _ ⟨_, _, _, _, _, _, _, _, _, _, _, _, h⟩ => h.elim
end
end Kx

set_option Elab.async false
set_option maxRecDepth 100000
set_option linter.all false
set_option maxHeartbeats 2000000
/-! KitZ: data whose lists are all different ones. -/
namespace Kx
open PySem PySem.Spec PyProof.Rows L2 Evl
mutual
/-- data at a value; as: the lists in it, from the left -/
inductive DqN (K : PySem.W.Frag) (H : Hp) : V → PyData → List Addr → Prop
  | flat {v : V} {d : PyData} : flatD d = true → Dq K H v d → DqN K H v d []
  | lst {a : Addr} {xs : List V} {ds : List PyData} {as : List Addr} : H a = some (.lst xs) → DqNA K H xs ds as → DqN K H (.ref a) (.list ds) (a :: as)
  | tup {a : Addr} {xs : List V} {ds : List PyData} {as : List Addr} : H a = some (.tup xs) → DqNA K H xs ds as → DqN K H (.ref a) (.tuple ds) as
inductive DqNA (K : PySem.W.Frag) (H : Hp) : List V → List PyData → List Addr → Prop
  | nil : DqNA K H [] [] []
  | cons {v : V} {vs : List V} {d : PyData} {ds : List PyData} {as bs : List Addr} : DqN K H v d as → DqNA K H vs ds bs → DqNA K H (v :: vs) (d :: ds) (as ++ bs)
end
section
variable {K : PySem.W.Frag} {H H' : Hp}
mutual
theorem DqN.dq : ∀ {d : PyData} {v : V} {as : List Addr}, DqN K H v d as → Dq K H v d
  | _, _, _, .flat _ h => h
  | _, _, _, .lst h a => .lst h (DqNA.dq a)
  | _, _, _, .tup h a => .tup (.inl (.inl h)) (DqNA.dq a)
theorem DqNA.dq : ∀ {ds : List PyData} {vs : List V} {as : List Addr}, DqNA K H vs ds as → DqA K H vs ds
  | _, _, _, .nil => .nil
  | _, _, _, .cons a b => .cons (DqN.dq a) (DqNA.dq b)
end
mutual
/-- another heap that has the same tuples and these lists -/
theorem DqN.agree (ht : ∀ a xs, H a = some (.tup xs) → H' a = some (.tup xs)) : ∀ {d : PyData} {v : V} {as : List Addr}, DqN K H v d as → (∀ a ∈ as, H' a = H a) → DqN K H' v d as
  | _, _, _, .flat f h, _ => .flat f (flat_dq f h)
  | _, _, _, .lst h a, k => .lst (by rw [k _ (List.mem_cons_self ..)]; exact h) (DqNA.agree ht a fun b hb => k b (List.mem_cons_of_mem _ hb))
  | _, _, _, .tup h a, k => .tup (ht _ _ h) (DqNA.agree ht a k)
theorem DqNA.agree (ht : ∀ a xs, H a = some (.tup xs) → H' a = some (.tup xs)) : ∀ {ds : List PyData} {vs : List V} {as : List Addr}, DqNA K H vs ds as → (∀ a ∈ as, H' a = H a) → DqNA K H' vs ds as
  | _, _, _, .nil, _ => .nil
  | _, _, _, .cons a b, k => .cons (DqN.agree ht a fun c hc => k c (List.mem_append_left _ hc)) (DqNA.agree ht b fun c hc => k c (List.mem_append_right _ hc))
end
mutual
theorem DqN.is : ∀ {d : PyData} {v : V} {as : List Addr}, DqN K H v d as → ∀ a ∈ as, ∃ xs, H a = some (.lst xs)
  | _, _, _, .flat _ _, a, h => nomatch h
  | _, _, _, .lst h b, a, k => (List.mem_cons.mp k).elim (fun e => e ▸ ⟨_, h⟩) (DqNA.is b a)
  | _, _, _, .tup _ b, a, k => DqNA.is b a k
theorem DqNA.is : ∀ {ds : List PyData} {vs : List V} {as : List Addr}, DqNA K H vs ds as → ∀ a ∈ as, ∃ xs, H a = some (.lst xs)
  | _, _, _, .nil, a, h => nomatch h
  | _, _, _, .cons b c, a, k => (List.mem_append.mp k).elim (DqN.is b a) (DqNA.is c a)
end
theorem DqN.mono (e : Ex H H') {d : PyData} {v : V} {as : List Addr} (h : DqN K H v d as) : DqN K H' v d as := h.agree (fun a xs q => e _ _ q) fun a ha => by
  obtain ⟨xs, q⟩ := h.is a ha
  rw [q]
  exact e _ _ q
theorem DqNA.mono (e : Ex H H') {ds : List PyData} {vs : List V} {as : List Addr} (h : DqNA K H vs ds as) : DqNA K H' vs ds as := h.agree (fun a xs q => e _ _ q) fun a ha => by
  obtain ⟨xs, q⟩ := h.is a ha
  rw [q]
  exact e _ _ q
theorem DqNA.app {v : V} {d : PyData} {bs : List Addr} : ∀ {ds : List PyData} {vs : List V} {as : List Addr}, DqNA K H vs ds as → DqN K H v d bs → DqNA K H (vs ++ [v]) (ds ++ [d]) (as ++ bs)
  | _, _, _, .nil, h => by
    have := DqNA.cons h (.nil (K := K) (H := H))
    rw [List.append_nil] at this
    exact this
  | _, _, _, .cons a b, h => by
    rw [List.append_assoc]
    exact .cons a (DqNA.app b h)
theorem strs_n : ∀ xs : List Str, DqNA K H (xs.map V.str) (xs.map PyData.str) []
  | [] => .nil
  | x :: xs => .cons (as := []) (.flat rfl (.str x)) (strs_n xs)
end
/-- data in the new part M, its lists all different and not there at H -/
def FrN (K : PySem.W.Frag) (H M : Hp) (v : V) (d : PyData) : Prop := ∃ as, DqN K M v d as ∧ as.Nodup ∧ ∀ a ∈ as, H a = none
def FrA (K : PySem.W.Frag) (H M : Hp) (vs : List V) (ds : List PyData) : Prop := ∃ as, DqNA K M vs ds as ∧ as.Nodup ∧ ∀ a ∈ as, H a = none
section
variable {K : PySem.W.Frag} {H H' H3 M M' M3 : Hp} {v : V} {d : PyData} {vs : List V} {ds : List PyData}
theorem FrN.dq (h : FrN K H M v d) : Dq K M v d := let ⟨_, a, _⟩ := h; a.dq
theorem FrA.dq (h : FrA K H M vs ds) : DqA K M vs ds := let ⟨_, a, _⟩ := h; a.dq
theorem FrN.mono (e : Ex M M') (h : FrN K H M v d) : FrN K H M' v d := let ⟨as, a, b, c⟩ := h; ⟨as, a.mono e, b, c⟩
theorem FrA.mono (e : Ex M M') (h : FrA K H M vs ds) : FrA K H M' vs ds := let ⟨as, a, b, c⟩ := h; ⟨as, a.mono e, b, c⟩
theorem FrN.back (e : Ex H H') (h : FrN K H' M v d) : FrN K H M v d := let ⟨as, a, b, c⟩ := h; ⟨as, a, b, fun x hx => fresh_back e (c x hx)⟩
theorem FrA.back (e : Ex H H') (h : FrA K H' M vs ds) : FrA K H M vs ds := let ⟨as, a, b, c⟩ := h; ⟨as, a, b, fun x hx => fresh_back e (c x hx)⟩
theorem FrA.nil : FrA K H M [] [] := ⟨[], .nil, List.nodup_nil, fun a h => nomatch h⟩
theorem FrN.flat (f : flatD d = true) (h : Dq K M v d) : FrN K H M v d := ⟨[], .flat f h, List.nodup_nil, fun a h => nomatch h⟩
/-- one more, made behind the others -/
theorem FrA.app (k : New H H' M) (h : FrA K H M vs ds) (e1 : Ex M M') (e3 : Ex M3 M') (h3 : FrN K H' M3 v d) : FrA K H M' (vs ++ [v]) (ds ++ [d]) := by
  obtain ⟨as, a1, a2, a3⟩ := h
  obtain ⟨bs, b1, b2, b3⟩ := h3
  refine ⟨as ++ bs, (a1.mono e1).app (b1.mono e3), List.nodup_append.mpr ⟨a2, b2, fun x hx y hy e => ?_⟩, fun x hx => ?_⟩
  · obtain ⟨xs, q⟩ := a1.is x hx
    have := k.mh _ _ q
    rw [e, b3 y hy] at this
    cases this
  · rcases List.mem_append.mp hx with hx | hx
    · exact a3 x hx
    · exact fresh_back k.hh (b3 x hx)
theorem FrN.tup {p : Addr} (h : FrA K H M vs ds) (e : Ex M M') (hp : M' p = some (.tup vs)) : FrN K H M' (.ref p) (.tuple ds) := let ⟨as, a, b, c⟩ := h; ⟨as, .tup hp (a.mono e), b, c⟩
theorem FrN.lst {p : Addr} (h : FrA K H M vs ds) (mp : M p = none) (np : H p = none) : FrN K H (upd M p (.lst vs)) (.ref p) (.list ds) := by
  obtain ⟨as, a, b, c⟩ := h
  refine ⟨p :: as, .lst upd_same (a.mono (Ex.new mp)), List.nodup_cons.mpr ⟨fun hp => ?_, b⟩, fun x hx => ?_⟩
  · obtain ⟨xs, q⟩ := a.is p hp
    rw [mp] at q
    cases q
  · rcases List.mem_cons.mp hx with rfl | hx
    · exact np
    · exact c x hx
theorem FrN.strs {p : Addr} {ss : List Str} (hp : M p = some (.lst (ss.map V.str))) (np : H p = none) : FrN K H M (.ref p) (strsD ss) := ⟨[p], .lst hp (strs_n ss), List.nodup_cons.mpr ⟨(fun h => nomatch h), List.nodup_nil⟩, fun x hx => by rw [List.mem_singleton.mp hx]; exact np⟩
end
end Kx

set_option Elab.async false
set_option maxRecDepth 100000
set_option linter.all false
set_option maxHeartbeats 4000000
namespace Lx
open PySem PySem.Spec PyProof.Rows L2 Evl Kx
section
variable {P : Program} {w : World} {K : PySem.W.Frag} {mg : Str → Option Value} {base : Heap} {f : Addr} {fd : FuncData}
abbrev sCop : Stmt := top 48
abbrev sCnt : Stmt := top 47
theorem scCop : FnScope ["body", "found", "step", "part"] ["body"] (defScope sCop) := ⟨rfl, rfl, rfl, by decide +kernel, rfl, by decide +kernel, by decide +kernel⟩
theorem scCnt : FnScope ["body", "many", "step", "part"] ["body"] (defScope sCnt) := ⟨rfl, rfl, rfl, by decide +kernel, rfl, by decide +kernel, by decide +kernel⟩
def spCnt (K : PySem.W.Frag) (d : Nat) : Sp := fun vs H Q _ => ∃ (p : Addr) (G : Hp) (b : List Stp), vs = [.ref p] ∧ Ex G H ∧ Dq K G (.ref p) (.list (bodyD b)) ∧ nstB b ≤ d ∧ ∀ H2, Ex H H2 → Q (.int (cntB b)) H2
structure spCop (K : PySem.W.Frag) (d : Nat) (vs : List V) (H : Hp) (Q : VK) (E_ : XK) : Prop where
  mk' ::
  out : ∃ (p : Addr) (G : Hp) (b : List Stp), vs = [.ref p] ∧ Ex G H ∧ Dq K G (.ref p) (.list (bodyD b)) ∧ nstB b ≤ d ∧ cntB b ≤ 4096 ∧ ∀ p2 H2 M, New H H2 M → FrN K H M (.ref p2) (.list (bodyD b)) → Q (.ref p2) H2
def spNo : Sp := fun _ _ _ _ => False
def spCntP (K : PySem.W.Frag) : Nat → Sp
  | 0 => spNo
  | d + 1 => spCnt K d
def spCopP (K : PySem.W.Frag) : Nat → Sp
  | 0 => spNo
  | d + 1 => spCop K d
theorem ok_cnt1 {d : Nat} (F : Fun K "_law_count" "_law_count" sCnt f fd) (FC : FnOk P w K mg base CX0 (d + 1) f fd ["body"] (spCntP K d)) (mC : mg "_law_count" = some (.ref f)) (kC : PySem.W.keepIn K (.ref f) = true) (bC : Binds K fd ["body"] [])
    (mS : mg "sum" = none) (mI : mg "isinstance" = none) (mL : mg "list" = none) : FnOk P w K mg base CX0 (d + 2) f fd ["body"] (spCnt K d) := by
  refine F.ok scCnt (fun vs H Q E h => ?_) (fun cdv A outer s H vs Q E hr h => ?_)
  · obtain ⟨_, _, _, rfl, _⟩ := h
    rfl
  · obtain ⟨p, G, b, rfl, e, hd, hn, q⟩ := h
    refine ⟨_, pss_cons (ps_set (i := 1) scCnt.nd rfl (Or.inl rfl) pe_int)
      (pss_cons (ps_for PassesOwn.never rfl (pi_list (pv 0)) (pg_name (i := 2) scCnt.nd rfl (Or.inl rfl))
        (pss_one (ps_set (i := 1) scCnt.nd rfl (Or.inl rfl) (pe_op op_add (pe_op op_add (pv 1) pe_int) (pe_callB (cr_sum rfl) (by rfl) mS (by decide +kernel) (pa_cons (pe_lc (own := [("part", 3)]) (g := gName 3) rfl scCnt.nd (pi_tup (pv 2))
            (blkOk_by (own := [("part", 3)]) (N := ["body", "many", "step", "part"]) (sc := defScope sCnt) (by decide +kernel))
            (fun _ _ _ _ _ => pg_name (i := 3) scCnt.nd rfl (Or.inl rfl)) (fun _ _ _ _ _ => pts_one (pt_val (pe_callB (isi_S (K := K)) (by rfl) mI PyProof.Rows.boot_isinstance (pa_cons (pv 3) (pa_cons (pe_bltn (v := .ty "list") (by rfl) mL (by decide +kernel) rfl) pa_nil)))))
            (fun _ _ _ _ _ => pe_call FC hr rfl mC kC bC .nil pass0 (pa_cons (pv 3) pa_nil))) pa_nil))))))
      (pss_one (ps_ret (pv 1)))), ?_⟩
    cases hd with
    | @lst _ xs _ hp hx =>
    refine ⟨_, rfl, p, rfl, ⟨_, SqL.of (e _ _ hp)⟩, ?_⟩
    have hlen : xs.length = b.length := by
      have := dqa_len hx
      rw [bodyD_map, List.length_map] at this
      exact this
    refine for_list (K := K) (a := p) (xs := xs) (fun i σ H' => ∃ t : Option V, σ = [some (.ref p), some (.int (cntB (b.take i))), t, none] ∧ Ex H H') ?_ (fun i σ H' _ ⟨_, _, k⟩ => SqL.of (k _ _ (e _ _ hp))) ?_ ?_
    · exact ⟨none, rfl, Ex.refl H⟩
    · rintro i x σ H' hi ⟨t, rfl, k⟩
      obtain ⟨s, hs, hv⟩ := body_get hx hi
      obtain ⟨ta, ys, rfl, hT, hy⟩ := step_at hv
      have eT : SqT K H' ta ys := sqt_ex (same_ex (e.trans k)) hT
      refine ⟨_, rfl, _, _, rfl, rfl, _, rfl, ta, rfl, ⟨_, eT⟩, fun D nD => ?_⟩
      have hst : s ∈ b := List.mem_of_getElem? hs
      refine lc_tup (K := K) (a := ta) (xs := ys) (fun j H'' => Ex H' H'' ∧ H'' D = some (.lst (((((partsP s).take j).filterMap (·.2)).map fun b => (cntB b : Int)).map V.int))) ?_ (fun j H'' _ ⟨z, _⟩ => sqt_ex (same_ex z) eT) ?_ ?_
      · exact ⟨Ex.new nD, upd_same⟩
      · rintro j v H'' hj ⟨z, hD⟩
        obtain ⟨⟨pd, po⟩, hpp, hvd⟩ := part_get hy hj
        have hvd := hvd.mono (same_ex ((e.trans k).trans z))
        have htk : (partsP s).take (j + 1) = (partsP s).take j ++ [(pd, po)] := by
          rw [List.take_succ, hpp]
          rfl
        refine ⟨rfl, _, rfl, isi_l hvd ⟨_, rfl, ?_⟩⟩
        rcases parts_ok (List.mem_of_getElem? hpp) with ⟨h1, h2⟩ | ⟨b', h1, h2, h3, h4⟩
        · refine ite2 (fun h => ?_) (fun _ => ⟨z, ?_⟩)
          · simp only [h1] at h
            cases h
          · rw [htk, List.filterMap_append]
            simp only [h2, List.filterMap_cons_none, List.filterMap_nil, List.append_nil]
            exact hD
        · subst h1 h2
          refine ite2 (fun h => ?_) (fun h => (h rfl).elim)
          have hnd := nst_mem hst
          obtain ⟨d', rfl⟩ : ∃ d', d = d' + 1 := ⟨d - 1, by omega⟩
          obtain ⟨v', rfl⟩ : ∃ v', v = .ref v' := by cases hvd with | lst h _ => exact ⟨_, rfl⟩
          refine ⟨_, rfl, v', H'', b', rfl, Ex.refl _, hvd, by omega, fun H3 z3 => ⟨_, z3 _ _ hD, ?_, ?_, ?_⟩⟩
          · rw [List.length_map, List.length_map]
            have := (List.length_filterMap_le (·.2) ((partsP s).take j))
            have h3 : (partsP s).length ≤ 3 := by cases s <;> simp only [partsP, List.length_cons, List.length_nil] <;> omega
            have e3z : (5 : Nat) < sizeLine := by decide
            rw [List.length_take] at this
            omega
          · intro a o ha
            rw [upd_ne (ne_of_none ha nD)]
            exact z3 _ _ (z _ _ ha)
          · rw [upd_same, htk, List.filterMap_append, List.map_append, List.map_append]
            rfl
      · rintro H'' ⟨z, hD⟩
        have hl : ys.length = (partsP s).length := by
          have := dqa_len hy
          rw [List.length_map] at this
          exact this
        rw [hl, List.take_of_length_le (Nat.le_refl _)] at hD
        have sm : ∀ l : List (List Stp), (l.map fun b => (cntB b : Int)).sum = ((l.map cntB).sum : Nat) := fun l => by
          induction l with
          | nil => rfl
          | cons a r ih => simp only [List.map_cons, List.sum_cons, ih]; omega
        have key : ((cntB (b.take i) : Int) + 1 + (((partsP s).filterMap (·.2)).map fun b => (cntB b : Int)).sum) = (cntB (b.take (i + 1)) : Int) := by
          rw [sm, cntB_take hs, cnt_parts]
          omega
        refine ⟨D, _, rfl, SqL.of hD, _, _, rfl, rfl, some (.ref ta), ?_, k.trans z⟩
        show [some (V.ref p), some (V.int _), some (V.ref ta), none] = _
        rw [key]
    · rintro σ H' ⟨t, rfl, k⟩
      rw [hlen, List.take_of_length_le (Nat.le_refl _)]
      exact ⟨_, rfl, q H' k⟩
theorem ok_cnt0 (F : Fun K "_law_count" "_law_count" sCnt f fd) : FnOk P w K mg base CX0 1 f fd ["body"] spNo :=
  F.ok scCnt (fun vs H Q E h => h.elim) (fun cdv A outer s H vs Q E hr h => h.elim)
theorem ok_cnt (F : Fun K "_law_count" "_law_count" sCnt f fd) (mC : mg "_law_count" = some (.ref f)) (kC : PySem.W.keepIn K (.ref f) = true) (bC : Binds K fd ["body"] [])
    (mS : mg "sum" = none) (mI : mg "isinstance" = none) (mL : mg "list" = none) : ∀ d : Nat, FnOk P w K mg base CX0 (d + 2) f fd ["body"] (spCnt K d)
  | 0 => ok_cnt1 F (ok_cnt0 F) mC kC bC mS mI mL
  | d + 1 => ok_cnt1 F (ok_cnt F mC kC bC mS mI mL d) mC kC bC mS mI mL
theorem ok_cop0 (F : Fun K "_law_copied" "_law_copied" sCop f fd) : FnOk P w K mg base CX0 1 f fd ["body"] spNo :=
  F.ok scCop (fun vs H Q E h => h.elim) (fun cdv A outer s H vs Q E hr h => h.elim)
theorem ok_cop1 {d : Nat} (F : Fun K "_law_copied" "_law_copied" sCop f fd) (FC : FnOk P w K mg base CX0 (d + 1) f fd ["body"] (spCopP K d)) (mC : mg "_law_copied" = some (.ref f)) (kC : PySem.W.keepIn K (.ref f) = true) (bC : Binds K fd ["body"] [])
    (mT : mg "tuple" = none) (mI : mg "isinstance" = none) (mL : mg "list" = none) : FnOk P w K mg base CX0 (d + 2) f fd ["body"] (spCop K d) := by
  refine F.ok scCop (fun vs H Q E h => ?_) (fun cdv A outer s H vs Q E hr h => ?_)
  · obtain ⟨_, _, _, rfl, _⟩ := h
    rfl
  · obtain ⟨p, G, b, rfl, e, hd, hn, hc, q⟩ := h
    refine ⟨_, pss_cons (ps_set (i := 1) scCop.nd rfl (Or.inl rfl) (pe_lst pa_nil))
      (pss_cons (ps_for PassesOwn.never rfl (pi_list (pv 0)) (pg_name (i := 2) scCop.nd rfl (Or.inl rfl))
        (pss_one (ps_expr (pe_bm PySem.F.plainAttrs_list PySem.F.slot_list_append PySem.F.type_list_append mt_append (pv 1) (pa_cons (pe_tupleOf (by rfl) mT (pe_lc (own := [("part", 3)]) (g := gName 3) rfl scCop.nd (pi_tup (pv 2))
            (blkOk_by (own := [("part", 3)]) (N := ["body", "found", "step", "part"]) (sc := defScope sCop) (by decide +kernel))
            (fun _ _ _ _ _ => pg_name (i := 3) scCop.nd rfl (Or.inl rfl)) (fun _ _ _ _ _ => pts_nil)
            (fun _ _ _ _ _ => pe_ifExp (pt_val (pe_callB (isi_S (K := K)) (by rfl) mI PyProof.Rows.boot_isinstance (pa_cons (pv 3) (pa_cons (pe_bltn (v := .ty "list") (by rfl) mL (by decide +kernel) rfl) pa_nil)))) (pe_call FC hr rfl mC kC bC .nil pass0 (pa_cons (pv 3) pa_nil)) (pv 3)))) pa_nil)))))
      (pss_one (ps_ret (pv 1)))), ?_⟩
    cases hd with
    | @lst _ xs _ hp hx =>
    have hlen : xs.length = b.length := by
      have := dqa_len hx
      rw [bodyD_map, List.length_map] at this
      exact this
    refine ⟨by show 0 ≤ sizeLine; decide, fun F nF => ⟨_, rfl, p, rfl, ⟨_, SqL.of (Ex.new nF _ _ (e _ _ hp))⟩, ?_⟩⟩
    refine for_list (K := K) (a := p) (xs := xs) (fun i σ H' => ∃ (t : Option V) (M : Hp) (acc : List V), σ = [some (.ref p), some (.ref F), t, none] ∧ New H H' M ∧ H' F = some (.lst acc) ∧ M F = none ∧ FrA K H M acc (bodyD (b.take i))) ?_ (fun i σ H' _ ⟨_, _, _, _, k, _⟩ => SqL.of (k.hh _ _ (e _ _ hp))) ?_ ?_
    · exact ⟨none, emp, [], rfl, New.refl.own nF, upd_same, rfl, by simp only [List.take_zero, bodyD]; exact FrA.nil⟩
    · rintro i x σ H' hi ⟨t, M, acc, rfl, k, hF, mF, ha⟩
      obtain ⟨s, hs, hv⟩ := body_get hx hi
      obtain ⟨ta, ys, rfl, hT, hy⟩ := step_at hv
      have eT : SqT K H' ta ys := sqt_ex (same_ex (e.trans k.hh)) hT
      have hst : s ∈ b := List.mem_of_getElem? hs
      refine ⟨_, rfl, .inl ⟨rfl, _, SqL.of hF⟩, _, rfl, ta, rfl, ⟨_, eT⟩, fun D nD => ?_⟩
      refine lc_tup (K := K) (a := ta) (xs := ys) (fun j H'' => ∃ (M2 : Hp) (zs : List V), New H' H'' M2 ∧ H'' D = some (.lst zs) ∧ M2 D = none ∧ FrA K H' M2 zs (((partsP s).take j).map (·.1))) ?_ (fun j H'' _ ⟨_, _, z, _⟩ => sqt_ex (same_ex z.hh) eT) ?_ ?_
      · exact ⟨emp, [], New.refl.own nD, upd_same, rfl, FrA.nil⟩
      · rintro j v H'' hj ⟨M2, zs, z, hD, mD, hz⟩
        obtain ⟨⟨pd, po⟩, hpp, hvd⟩ := part_get hy hj
        have hvg := hvd
        have hvd := hvd.mono (same_ex ((e.trans k.hh).trans z.hh))
        have htk : (partsP s).take (j + 1) = (partsP s).take j ++ [(pd, po)] := by
          rw [List.take_succ, hpp]
          rfl
        have h3 : (partsP s).length ≤ 3 := by cases s <;> simp only [partsP, List.length_cons, List.length_nil] <;> omega
        have hzl : zs.length < sizeLine := by
          have := dqa_len hz.dq
          rw [List.length_map, List.length_take] at this
          have e3z : (5 : Nat) < sizeLine := by decide
          omega
        have fin : ∀ (v3 : V) (H3 M3 : Hp), New H'' H3 M3 → FrN K H'' M3 v3 pd → ∃ acc, H3 D = some (.lst acc) ∧ acc.length < sizeLine ∧ ∃ (M2 : Hp) (zs : List V), New H' (upd H3 D (.lst (acc ++ [v3]))) M2 ∧ (upd H3 D (.lst (acc ++ [v3]))) D = some (.lst zs) ∧ M2 D = none ∧ FrA K H' M2 zs (((partsP s).take (j + 1)).map (·.1)) := by
          intro v3 H3 M3 k3 h3
          have hD3 := k3.hh _ _ hD
          have mD3 : join M2 M3 D = none := join_none mD (k3.fr _ _ hD)
          refine ⟨zs, hD3, hzl, join M2 M3, zs ++ [v3], (z.trans k3).wr nD mD3, upd_same, mD3, ?_⟩
          rw [htk, List.map_append]
          exact FrA.app z hz join_l (z.right k3) h3
        refine ⟨rfl, _, rfl, isi_l hvd ⟨_, rfl, ?_⟩⟩
        rcases parts_ok (List.mem_of_getElem? hpp) with ⟨h1, h2⟩ | ⟨b', h1, h2, h3, h4⟩
        · refine ite2 (fun h => ?_) (fun _ => ?_)
          · simp only [h1] at h
            cases h
          · exact ⟨_, rfl, fin v H'' emp New.refl (FrN.flat (parts_flat (List.mem_of_getElem? hpp) h1) (flat_dq (parts_flat (List.mem_of_getElem? hpp) h1) hvg))⟩
        · subst h1 h2
          refine ite2 (fun h => ?_) (fun h => (h rfl).elim)
          have hnd := nst_mem hst
          obtain ⟨d', rfl⟩ : ∃ d', d = d' + 1 := ⟨d - 1, by omega⟩
          obtain ⟨v', rfl⟩ : ∃ v', v = .ref v' := by cases hvd with | lst h _ => exact ⟨_, rfl⟩
          exact ⟨_, rfl, v', H'', b', rfl, Ex.refl _, hvd, by omega, (by have := cnt_mem hst; omega), fun p3 H3 M3 k3 h3 => fin _ H3 M3 k3 h3⟩
      · rintro H'' ⟨M2, zs, z, hD, mD, hz⟩
        have hl : ys.length = (partsP s).length := by
          have := dqa_len hy
          rw [List.length_map] at this
          exact this
        rw [hl, List.take_of_length_le (Nat.le_refl _)] at hz
        refine .inl ⟨D, zs, rfl, SqL.of hD, fun tp ntp => ?_⟩
        have hF2 := z.hh _ _ hF
        have fT : F ≠ tp := ne_of_none hF2 ntp
        have kk := k.trans (z.put (o := .tup zs) ntp)
        have mF2 : join M (upd M2 tp (.tup zs)) F = none := join_none mF (by rw [upd_ne fT]; exact z.fr _ _ hF)
        have hal : acc.length < sizeLine := by
          have := dqa_len ha.dq
          rw [bodyD_map, List.length_map, List.length_take] at this
          have h2 := (List.getElem?_eq_some_iff.mp hi).1
          have h3 := len_cnt b
          have e3z : (5000 : Nat) < sizeLine := by decide
          omega
        refine ⟨F, acc, .ref tp, rfl, rfl, by rw [upd_ne fT]; exact hF2, hal, some (.ref ta), _, acc ++ [.ref tp], rfl, kk.wr nF mF2, upd_same, mF2, ?_⟩
        rw [bodyD_map, List.take_succ, hs, List.map_append, ← bodyD_map]
        refine FrA.app k ha join_l (k.right (z.put (o := .tup zs) ntp)) ?_
        show FrN K _ _ _ (stpD s)
        rw [stpD_parts]
        exact FrN.tup hz (Ex.new (z.none ntp)) upd_same
    · rintro σ H' ⟨t, M, acc, rfl, k, hF, mF, ha⟩
      rw [hlen, List.take_of_length_le (Nat.le_refl _)] at ha
      exact ⟨_, rfl, q F H' _ (k.frz nF hF) (FrN.lst ha mF nF)⟩
theorem ok_cop (F : Fun K "_law_copied" "_law_copied" sCop f fd) (mC : mg "_law_copied" = some (.ref f)) (kC : PySem.W.keepIn K (.ref f) = true) (bC : Binds K fd ["body"] [])
    (mT : mg "tuple" = none) (mI : mg "isinstance" = none) (mL : mg "list" = none) : ∀ d : Nat, FnOk P w K mg base CX0 (d + 2) f fd ["body"] (spCop K d)
  | 0 => ok_cop1 F (ok_cop0 F) mC kC bC mT mI mL
  | d + 1 => ok_cop1 F (ok_cop F mC kC bC mT mI mL d) mC kC bC mT mI mL
end
end Lx

set_option Elab.async false
set_option maxRecDepth 100000
set_option linter.all false
set_option maxHeartbeats 4000000
namespace Lx
open PySem PySem.Spec PyProof.Rows L2 Evl Kx
section
variable {P : Program} {w : World} {K : PySem.W.Frag} {mg : Str → Option Value} {base : Heap} {f : Addr} {fd : FuncData}
abbrev sPrt : Stmt := top 51
theorem scPrt : FnScope ["generator", "many", "most", "rights", "owners", "names", "functions", "name", "body"] ["generator", "many", "most"] (defScope sPrt) := ⟨rfl, rfl, rfl, by decide +kernel, rfl, by decide +kernel, by decide +kernel⟩
structure spPrt (K : PySem.W.Frag) (vs : List V) (H : Hp) (Q : VK) (E_ : XK) : Prop where
  mk' ::
  out : ∃ (g : Addr) (n : Nat) (G : Hp) (many most : Nat), vs = [.ref g, .int many, .int most] ∧ 1 ≤ many ∧ many ≤ 4 ∧ most ≤ 4 ∧ GenAt H g n ∧ n < 2 ^ 39 ∧ Ex G H ∧ G g = none ∧
  ∀ (p : Addr) G2 H2 (pt : Prt), KS g G H G2 H2 (n + 4000) → Dq K G2 (.ref p) (prtD pt) → PrtOk many pt → Q (.ref p) H2
theorem rts_k {g : Addr} {G0 H0 G H : Hp} {n : Nat} {Q : VK} {E : XK} (k : KS g G0 H0 G H n) (hn : n < 2 ^ 49)
    (q : ∀ (p : Addr) G2 H2 (c : Nat), KS g G0 H0 G2 H2 (n + 2) → ExtG g G H G2 H2 → G2 p = some (.lst ((rights3.take (c + 1)).map V.str)) → c < 3 → Q (.ref p) H2) : spRts [.ref g] H Q E :=
  ⟨g, n, G, rfl, k.gen, hn, k.x.gh, k.off, fun p G2 H2 c k2 => q p G2 H2 c (k.then k2) k2.x⟩
theorem ows_k {g pr : Addr} {G0 H0 G H : Hp} {n : Nat} {rs : List Str} {Q : VK} {E : XK} (k : KS g G0 H0 G H n) (hn : n < 2 ^ 49) (hpr : G pr = some (.lst (rs.map V.str))) (hl : rs.length ≤ 3) (hd : rs.Nodup)
    (q : ∀ (p : Addr) G2 H2 (os : List Own), KS g G0 H0 G2 H2 (n + 40) → ExtG g G H G2 H2 → Dq K G2 (.ref p) (.list (os.map ownD)) → OwnsOk rs os → Q (.ref p) H2) : spOws K [.ref g, .ref pr] H Q E :=
  ⟨g, pr, n, G, rs, rfl, k.gen, hn, k.x.gh, k.off, hpr, hl, hd, fun p G2 H2 c k2 => q p G2 H2 c (k.then k2) k2.x⟩
end
end Lx

set_option Elab.async false
set_option maxRecDepth 100000
set_option linter.all false
set_option maxHeartbeats 4000000
namespace Lx
open PySem PySem.Spec PyProof.Rows L2 Evl Kx
section
variable {P : Program} {w : World} {K : PySem.W.Frag} {mg : Str → Option Value} {base : Heap} {f : Addr} {fd : FuncData}
abbrev sNm : Stmt := top 9
abbrev sTp : Stmt := top 10
def letters : Str := "abcdefghijklmnopqrstuvwxyz"
def nameD : PyData → Bool
  | .str z => decide (1 ≤ z.length) && decide (z.length ≤ 8) && z.cps.toList.all fun c => decide (c ∈ letters.cps.toList)
  | _ => false
def strOk (d : PyData) : Prop := ∀ z, d = .str z → z.length ≤ sizeLine
theorem scNm : FnScope ["value", "sign"] ["value"] (defScope sNm) := ⟨rfl, rfl, rfl, by decide +kernel, rfl, by decide +kernel, by decide +kernel⟩
theorem scTp : FnScope ["value", "size"] ["value", "size"] (defScope sTp) := ⟨rfl, rfl, rfl, by decide +kernel, rfl, by decide +kernel, by decide +kernel⟩
/-- what only answers: bd of the data at the first place -/
structure spNm (K : PySem.W.Frag) (vs : List V) (H : Hp) (Q : VK) (E_ : XK) : Prop where
  mk' ::
  out : ∃ v d, vs = [v] ∧ Dq K H v d ∧ strOk d ∧ ∀ H2, Ex H H2 → Q (.bl (nameD d)) H2
theorem ok_nm {tk : Value} (F : Fun K "is_name" "is_name" sNm f fd) (mL : mg "len" = none) (mI : mg "isinstance" = none) (mS : mg "str" = none) (mA : mg "all" = none) (mT : mg "LETTERS" = some tk) (rT : RelV (.str letters) tk) {tn : Value} (mN : mg "LONGEST_NAME" = some tn) (rN : RelV (.int 8) tn) :
    FnOk P w K mg base CX0 1 f fd ["value"] (spNm K) := by
  refine F.ok scNm (fun vs H Q E h => ?_) (fun cdv A outer s H vs Q E hr h => ?_)
  · obtain ⟨_, _, rfl, _⟩ := h
    rfl
  · obtain ⟨v, d, rfl, hd, hz, q⟩ := h
    refine ⟨_, pss_cons (ps_if (PW.pt (pw_or (pt_not (pt_val (pe_callB (isi_S (K := K)) (by rfl) mI PyProof.Rows.boot_isinstance (pa_cons (pv 0) (pa_cons (pe_bltn (v := .ty "str") (by rfl) mS (by decide +kernel) rfl) pa_nil))))) (pw_or1 (pt_not (pt_chain op_le op_le pe_int (pe_callB call_len_str (by rfl) mL PySem.boot_len (pa_cons (pv 0) pa_nil)) (pe_glob (by rfl) mN rN)))))) (pss_one (ps_ret pe_bl)) pss_nil)
      (pss_one (ps_ret (pe_callB (cr_all rfl) (by rfl) mA (by decide +kernel) (pa_cons (pe_lc (own := [("sign", 1)]) (g := gName 1) rfl scNm.nd (pi_str (pv 0))
            (blkOk_by (own := [("sign", 1)]) (N := ["value", "sign"]) (sc := defScope sNm) (by decide +kernel))
            (fun _ _ _ _ _ => pg_name (i := 1) scNm.nd rfl (Or.inl rfl)) (fun _ _ _ _ _ => pts_nil)
            (fun _ _ _ _ _ => pe_cmpR op_in_sign (pv 1) (pe_glob (by rfl) mT rT) (by rfl))) pa_nil)))), ?_⟩
    refine ⟨_, rfl, isi_s hd ⟨_, rfl, ?_⟩⟩
    cases hd with
    | str z =>
      have hz := hz z rfl
      refine ite2 (fun h => Bool.noConfusion h) (fun _ => ⟨_, rfl, z, rfl, hz, _, _, rfl, rfl, _, rfl, ?_⟩)
      have hl : z.length = z.cps.toList.length := (Array.length_toList ..).symm
      refine ite2 (fun h1 => ⟨_, _, rfl, rfl, _, rfl, ?_⟩) (fun h1 => ⟨_, rfl, ?_⟩)
      · refine ite2 (fun h8 => ?_) (fun h8 => ?_)
        · have e : nameD (.str z) = false := by
            have : ¬ z.length ≤ 8 := fun y => by
              have e : decide ((z.length : Int) ≤ 8) = true := decide_eq_true (by omega)
              rw [e] at h8
              cases h8
            simp only [nameD, decide_eq_false this, Bool.and_false, Bool.false_and]
          have := q H (Ex.refl H)
          rw [e] at this
          exact this
        · have h1 : (1 : Int) ≤ z.length := of_decide_eq_true h1
          have h8 : z.length ≤ 8 := by
            have : (decide ((z.length : Int) ≤ 8)) = true := by
              cases y : decide ((z.length : Int) ≤ 8) with
              | true => rfl
              | false => exact (h8 (by rw [y]; rfl)).elim
            have := of_decide_eq_true this
            omega
          refine ⟨_, rfl, z, rfl, fun D nD => ?_⟩
          have e3z : (5000 : Nat) < sizeLine := by decide
          refine lc_text (x := z) (fun i H' => Ex H H' ∧ H' D = some (.lst (((z.cps.toList.take i).map fun c => decide (c ∈ letters.cps.toList)).map V.bl))) ?_ ?_ ?_
          · exact ⟨Ex.new nD, upd_same⟩
          · rintro i c H' hc ⟨x, hD⟩
            have hc' : z.cps.toList[i]? = some c := by
              rw [Array.getElem?_toList]
              exact hc
            refine ⟨rfl, _, rfl, c, letters, rfl, rfl, _, hD, ?_, ?_, ?_⟩
            · rw [List.length_map, List.length_map, List.length_take]
              omega
            · intro a o ha
              rw [upd_ne (ne_of_none ha nD)]
              exact x _ _ ha
            · rw [upd_same, List.take_succ, hc', List.map_append, List.map_append]
              rfl
          · rintro H' ⟨x, hD⟩
            have he : z.cps.toList.take z.cps.size = z.cps.toList := List.take_of_length_le (by rw [Array.length_toList]; exact Nat.le_refl _)
            rw [he] at hD
            refine ⟨D, _, rfl, SqL.of hD, ?_⟩
            have e : nameD (.str z) = ((z.cps.toList.map fun c => decide (c ∈ letters.cps.toList)).all id) := by
              have h1 : 1 ≤ z.length := by omega
              simp only [nameD, decide_eq_true h1, decide_eq_true h8, Bool.true_and, List.all_map]
              rfl
            have := q H' x
            rw [e] at this
            exact this
      · have e : nameD (.str z) = false := by
          have : ¬ 1 ≤ z.length := fun y => h1 (decide_eq_true (by omega))
          simp only [nameD, decide_eq_false this, Bool.false_and]
        have := q H (Ex.refl H)
        rw [e] at this
        exact ite2 (fun _ => this) (fun y => (y rfl).elim)
    | _ => exact ite2 (fun _ => q H (Ex.refl H)) (fun h => (h rfl).elim)
end
end Lx

set_option Elab.async false
set_option maxRecDepth 100000
set_option linter.all false
set_option maxHeartbeats 4000000
/-! KitB2: which data are bodies. -/
namespace Kx
open PySem PySem.Spec PyProof.Rows L2 Evl
def one1 (p : PyData → Bool) : List PyData → Bool
  | [a] => p a
  | _ => false
theorem one1_no {p : PyData → Bool} : ∀ {r : List PyData}, r.length ≠ 1 → one1 p r = false
  | [], _ => rfl
  | [_], h => absurd rfl h
  | _ :: _ :: _, _ => rfl
section
variable (ns rs : List Str)
mutual
def bodyF (mk : Bool) : PyData → Bool
  | .list xs => stepsF mk xs
  | _ => false
def stepsF (mk : Bool) : List PyData → Bool
  | [] => true
  | d :: r => stepF mk d && stepsF mk r
def stepF (mk : Bool) : PyData → Bool
  | .tuple xs => tupF mk xs
  | _ => false
def tupF (mk : Bool) : List PyData → Bool
  | [] => false
  | w :: r => if eqS w "call" then one1 (fun a => ns.any (eqS a)) r else if eqS w "tail" then one1 (fun a => ns.any (eqS a) && !mk) r else if eqS w "check" then one1 (fun a => rs.any (eqS a)) r
    else if eqS w "back" then r.isEmpty else nestF mk w r
def nestF (mk : Bool) (w : PyData) : List PyData → Bool
  | [a] => if eqS w "loop" then bodyF mk a else false
  | [a, b] => if eqS w "either" then bodyF mk a && bodyF mk b else if eqS w "block" then (match a with
      | .bool m => bodyF (mk || m) b
      | _ => false) else false
  | _ => false
end
end
theorem depth_mem {x : PyData} : ∀ {r : List PyData}, x ∈ r → x.depth ≤ PyData.depthAll r
  | y :: r, h => by
    simp only [PyData.depthAll]
    rcases List.mem_cons.mp h with rfl | h
    · omega
    · have := depth_mem h
      omega
theorem eqS_ne {w : PyData} {a b : Str} (h : eqS w a = true) (n : (a == b) = false) : eqS w b = false := by
  cases w with
  | str y =>
    have e : y = a := eq_of_beq h
    rw [e]
    exact n
  | _ => rfl
end Kx
namespace Kx
open PySem PySem.Spec PyProof.Rows L2 Evl
def onceF (ds : List PyData) : PyData → Bool
  | .str z => decide (ds.countP (fun d => eqS d z) = 1)
  | _ => false
def choiceF (rs : List Str) : PyData → Bool
  | .list ds => decide (ds.length ≤ rs.length) && ds.all fun x => rs.any (eqS x) && onceF ds x
  | _ => false
theorem any_str {rs : List Str} {d : PyData} (h : rs.any (eqS d) = true) : ∃ z, d = .str z ∧ z ∈ rs := by
  obtain ⟨w, hw, he⟩ := List.any_eq_true.mp h
  cases d with
  | str y =>
    have : y = w := eq_of_beq he
    exact ⟨y, rfl, this ▸ hw⟩
  | _ => cases he
end Kx
namespace Kx
open PySem PySem.Spec PyProof.Rows L2 Evl
section
variable {X : Cx} {K : PySem.W.Frag} {A : Around}
theorem op_inTsK (hu : A.units + 1 < cLine) (hA : X.A = A := by rfl) (h : X.K = K := by rfl) : OpR X (compareOp .In) (rInS K false) := h ▸ op_inTs (by rw [hA]; exact hu)
theorem op_eqSK (hu : A.units < cLine) (hA : X.A = A := by rfl) (h : X.K = K := by rfl) : OpR X (compareOp .Eq) (rEqS K) := h ▸ op_eqS (by rw [hA]; exact hu)
theorem mt_countSK (hu : A.units + 1 < cLine) (hA : X.A = A := by rfl) (h : X.K = K := by rfl) : MtR X "list.count" (rCntS K) := h ▸ mt_countS (by rw [hA]; exact hu)
theorem pe_bmK {o e : Expr} {es : List Expr} {to : TE} {t : TA} {name : Str} {apos cpos : Pos} {T id : String} {r : V → List V → Hp → VK → Prop} (pa : PlainAttrs T) (slot : Slot T name id) (hty : typeOf (.builtin id) = pure (.type "method_descriptor")) (hm : MtR X id r) (ho : PE X o to) (ha : PA X (e :: es) t) (h : X.K = K := by rfl)
    (hbase : attributeBase o name X.env (eval o X.env) = eval o X.env := by rfl)
    (hfew : ((backTo cpos (starEach (e :: es) X.env)).all (fun x => !x.1) && (backToKw cpos (keywordEach [] X.env)).all (fun x => x.1.isSome)
      && decide ((e :: es).length + ([] : List Keyword).length + (if ([] : List Keyword).isEmpty then 0 else 1) < 30)) = true := by rfl)
    (hline : (apos.endLine == cpos.line) = true := by rfl) (hs : starEach (e :: es) X.env = (false, eval e X.env) :: starEach es X.env := by rfl) (hplain : (backTo cpos (starEach es X.env)).any (·.1) = false := by rfl) :
    PE X (.Call (.Attribute o name apos) (e :: es) [] cpos) (tBM K T r to t) := h ▸ pe_bm pa slot hty hm ho ha hbase hfew hline hs hplain
end
end Kx
namespace Kx
open PySem PySem.Spec PyProof.Rows L2 Evl
section
variable {X : Cx} {K : PySem.W.Frag}
theorem pg_tupK {es : List Expr} {k : Nat} {t : TGs} {n : Nat} {pos : Pos} (hc : X.calm = true) (h : PGs X es t) (hK : X.K = K := by rfl) (hn : (assignEach es X.env).length = n := by rfl) (hst : (assignEach es X.env).findIdx? (·.1) = none := by rfl) : PG X (.Tuple es k pos) (gTup K n t) := hK ▸ pg_tup hc h hn hst
theorem call_listK (h : X.K = K := by rfl) : CallR X (.type "list") (rListS K) := h ▸ call_list_of
end
end Kx

set_option Elab.async false
set_option maxRecDepth 100000
set_option linter.all false
set_option maxHeartbeats 4000000
namespace Lx
open PySem PySem.Spec PyProof.Rows L2 Evl Kx
section
variable {P : Program} {w : World} {K : PySem.W.Frag} {mg : Str → Option Value} {base : Heap} {f : Addr} {fd : FuncData}
abbrev sBd : Stmt := top 11
abbrev sSt : Stmt := top 12
abbrev sNs : Stmt := top 13
theorem scBd : FnScope ["value", "names", "rights", "marked", "step"] ["value", "names", "rights", "marked"] (defScope sBd) := ⟨rfl, rfl, rfl, by decide +kernel, rfl, by decide +kernel, by decide +kernel⟩
theorem scSt : FnScope ["value", "names", "rights", "marked", "word"] ["value", "names", "rights", "marked"] (defScope sSt) := ⟨rfl, rfl, rfl, by decide +kernel, rfl, by decide +kernel, by decide +kernel⟩
theorem scNs : FnScope ["value", "names", "rights", "marked", "word", "fits", "part"] ["value", "names", "rights", "marked"] (defScope sNs) := ⟨rfl, rfl, rfl, by decide +kernel, rfl, by decide +kernel, by decide +kernel⟩
def tupN (n : Nat) : PyData → Bool
  | .tuple xs => decide (xs.length = n)
  | _ => false
structure spTp (K : PySem.W.Frag) (vs : List V) (H : Hp) (Q : VK) (E_ : XK) : Prop where
  mk' ::
  out : ∃ v d n, vs = [v, .int (n : Nat)] ∧ Dq K H v d ∧ Q (.bl (tupN n d)) H
theorem ok_tp (F : Fun K "is_tuple_of" "is_tuple_of" sTp f fd) (mL : mg "len" = none) (mI : mg "isinstance" = none) (mT : mg "tuple" = none) : FnOk P w K mg base CX0 1 f fd ["value", "size"] (spTp K) := by
  refine F.ok scTp (fun vs H Q E h => ?_) (fun cdv A outer s H vs Q E hr h => ?_)
  · obtain ⟨_, _, _, rfl, _⟩ := h
    rfl
  · obtain ⟨v, d, n, rfl, hd, q⟩ := h
    refine ⟨_, pss_one (ps_ret (pe_and (pe_callB (isi_S (K := K)) (by rfl) mI PyProof.Rows.boot_isinstance (pa_cons (pv 0) (pa_cons (pe_bltn (v := .ty "tuple") (by rfl) mT (by decide +kernel) rfl) pa_nil)))
      (pe_one (pe_cmpR op_eq (pe_callB call_len_seq (by rfl) mL PySem.boot_len (pa_cons (pv 0) pa_nil)) (pv 1) (nomark _))))), ?_⟩
    refine ⟨_, rfl, isi_t hd ⟨_, rfl, ?_⟩⟩
    cases hd with
    | @tup a xs ds hT hx =>
      refine ite2 (fun _ => ⟨_, rfl, a, xs, rfl, .inr hT, _, rfl, rfl, ?_⟩) (fun h => (h rfl).elim)
      have e : tupN n (.tuple ds) = decide (V.int xs.length = V.int n) := by
        rw [dqa_len hx]
        simp only [tupN, V.int.injEq]
        rw [Bool.eq_iff_iff, decide_eq_true_eq, decide_eq_true_eq]
        omega
      rw [e] at q
      exact q
    | _ => exact ite2 (fun h => Bool.noConfusion h) (fun _ => q)
/-- bodies, steps and nests: n bounds how deep the data is -/
structure spV (K : PySem.W.Frag) (g : List Str → List Str → Bool → PyData → Bool) (pre : PyData → Prop) (n : Nat) (vs : List V) (H : Hp) (Q : VK) (E_ : XK) : Prop where
  mk' ::
  out : ∃ v d pn pr ns rs mk, vs = [v, .ref pn, .ref pr, .bl mk] ∧ Dq K H v d ∧ d.depth ≤ n ∧ pre d ∧ H pn = some (.lst (ns.map V.str)) ∧ H pr = some (.lst (rs.map V.str)) ∧ ∀ H2, Ex H H2 → Q (.bl (g ns rs mk d)) H2
theorem one_of {H : Hp} {v0 : V} {vr : List V} {r : List PyData} (h : decide (V.int ((v0 :: vr).length : Nat) = V.int 2) = true) (h2 : DqA K H vr r) : ∃ a1 u1, r = [a1] ∧ vr = [u1] ∧ Dq K H u1 a1 := by
  have h := of_decide_eq_true h
  simp only [V.int.injEq, List.length_cons] at h
  cases h2 with
  | nil => simp only [List.length_nil] at h; omega
  | cons x y =>
    cases y with
    | nil => exact ⟨_, _, rfl, rfl, x⟩
    | cons x' y' => simp only [List.length_cons] at h; omega
theorem not_one {H : Hp} {v0 : V} {vr : List V} {r : List PyData} (h : ¬ decide (V.int ((v0 :: vr).length : Nat) = V.int 2) = true) (h2 : DqA K H vr r) : r.length ≠ 1 := fun z => h (decide_eq_true (by
  have := dqa_len h2
  simp only [V.int.injEq, List.length_cons]
  omega))
def preN (d : PyData) : Prop := ∃ w r, d = .tuple (w :: r)
def nestG (ns rs : List Str) (mk : Bool) : PyData → Bool
  | .tuple (w :: r) => nestF ns rs mk w r
  | _ => false
theorem ok_st {n : Nat} {fN : Addr} {fdN : FuncData} (F : Fun K "is_step" "is_step" sSt f fd) (FN : FnOk P w K mg base CX0 (3 * n + 2) fN fdN ["value", "names", "rights", "marked"] (spV K nestG preN n)) (mN : mg "is_nest" = some (.ref fN)) (kN : PySem.W.keepIn K (.ref fN) = true) (bN : Binds K fdN ["value", "names", "rights", "marked"] [])
    (mL : mg "len" = none) (mI : mg "isinstance" = none) (mT : mg "tuple" = none) : FnOk P w K mg base CX0 (3 * n + 3) f fd ["value", "names", "rights", "marked"] (spV K (fun ns rs => stepF ns rs) (fun _ => True) n) := by
  refine F.ok scSt (fun vs H Q E h => ?_) (fun cdv A outer s H vs Q E hr h => ?_)
  · obtain ⟨_, _, _, _, _, _, _, rfl, _⟩ := h
    rfl
  · obtain ⟨v, d, pn, pr, ns, rs, mk, rfl, hd, hn, _, hpn, hpr, q⟩ := h
    have hu := hr.units0
    have hu1 : _ + 1 < cLine := Nat.lt_of_le_of_lt (Nat.add_le_add_left (by decide : 1 ≤ 64) _) hr.units
    refine ⟨_, pss_cons (ps_if (PW.pt (pw_or (pt_not (pt_val (pe_callB (isi_S (K := K)) (by rfl) mI PyProof.Rows.boot_isinstance (pa_cons (pv 0) (pa_cons (pe_bltn (v := .ty "tuple") (by rfl) mT (by decide +kernel) rfl) pa_nil))))) (pw_or1 (pt_cmpR op_eq (pe_callB call_len_seq (by rfl) mL PySem.boot_len (pa_cons (pv 0) pa_nil)) pe_int (nomark _))))) (pss_one (ps_ret pe_bl)) pss_nil)
      (pss_cons (ps_set (i := 4) scSt.nd rfl (Or.inl rfl) (pe_ix ix_tup (pv 0) pe_int (fun _ _ => rfl)))
      (pss_cons (ps_if (pt_cmpR (op_eqS hu) (pv 4) pe_str (nomark _)) (pss_one (ps_ret (pe_and (pe_cmpR op_eq (pe_callB call_len_seq (by rfl) mL PySem.boot_len (pa_cons (pv 0) pa_nil)) pe_int (nomark _)) (pe_one (pe_cmpR (op_inTs hu1) (pe_ix ix_tup (pv 0) pe_int (fun _ _ => rfl)) (pv 1) (by rfl)))))) pss_nil)
      (pss_cons (ps_if (pt_cmpR (op_eqS hu) (pv 4) pe_str (nomark _)) (pss_one (ps_ret (pe_and (pe_cmpR op_eq (pe_callB call_len_seq (by rfl) mL PySem.boot_len (pa_cons (pv 0) pa_nil)) pe_int (nomark _)) (pe_and (pe_cmpR (op_inTs hu1) (pe_ix ix_tup (pv 0) pe_int (fun _ _ => rfl)) (pv 1) (by rfl)) (pe_one (pe_not (pv 3))))))) pss_nil)
      (pss_cons (ps_if (pt_cmpR (op_eqS hu) (pv 4) pe_str (nomark _)) (pss_one (ps_ret (pe_and (pe_cmpR op_eq (pe_callB call_len_seq (by rfl) mL PySem.boot_len (pa_cons (pv 0) pa_nil)) pe_int (nomark _)) (pe_one (pe_cmpR (op_inTs hu1) (pe_ix ix_tup (pv 0) pe_int (fun _ _ => rfl)) (pv 2) (by rfl)))))) pss_nil)
      (pss_cons (ps_if (pt_cmpR (op_eqS hu) (pv 4) pe_str (nomark _)) (pss_one (ps_ret (pe_cmpR op_eq (pe_callB call_len_seq (by rfl) mL PySem.boot_len (pa_cons (pv 0) pa_nil)) pe_int (nomark _)))) pss_nil)
      (pss_one (ps_ret (pe_call FN hr rfl mN kN bN .nil pass0 (pa_cons (pv 0) (pa_cons (pv 1) (pa_cons (pv 2) (pa_cons (pv 3) pa_nil)))))))))))), ?_⟩
    refine ⟨_, rfl, isi_t hd ⟨_, rfl, ?_⟩⟩
    cases hd with
    | @tup a xs ds hT hx =>
      have hl := dqa_len hx
      refine ite2 (fun h => Bool.noConfusion h) (fun _ => ⟨_, rfl, a, xs, rfl, .inr hT, rfl, _, rfl, ite2 (fun h0 => ?_) (fun h0 => ?_)⟩)
      · have : ds = [] := List.eq_nil_of_length_eq_zero (by
          have := of_decide_eq_true h0
          simp only [V.int.injEq] at this
          omega)
        subst this
        have := q H (Ex.refl H)
        simp only [stepF, tupF] at this
        exact this
      · cases hx with
        | nil => exact (h0 rfl).elim
        | @cons v0 vr w r h1 h2 =>
          have hl2 := dqa_len h2
          refine ⟨_, rfl, a, _, 0, v0, rfl, rfl, hT, atI_nat (j := 0) rfl, ?_⟩
          refine ⟨_, rfl, w, _, h1, rfl, _, rfl, ite2 (fun hc => ?_) (fun hc => ?_)⟩
          · have E : stepF ns rs mk (.tuple (w :: r)) = one1 (fun a => ns.any (eqS a)) r := by simp only [stepF, tupF, hc, if_true]
            simp only [E] at q
            refine ⟨_, rfl, a, _, rfl, .inr hT, rfl, _, rfl, ite2 (fun hn2 => ?_) (fun hn2 => ?_)⟩
            · obtain ⟨a1, u1, rfl, rfl, ha1⟩ := one_of hn2 h2
              exact ⟨_, rfl, a, _, 1, u1, rfl, rfl, hT, atI_nat (j := 1) rfl, _, rfl, a1, ns, pn, ha1, rfl, SqL.of hpn, q H (Ex.refl H)⟩
            · have := q H (Ex.refl H)
              rw [one1_no (not_one hn2 h2)] at this
              exact this
          refine ⟨_, rfl, w, _, h1, rfl, _, rfl, ite2 (fun ht => ?_) (fun ht => ?_)⟩
          · have E : stepF ns rs mk (.tuple (w :: r)) = one1 (fun a => ns.any (eqS a) && !mk) r := by simp only [stepF, tupF, hc, ht, if_true]; rfl
            simp only [E] at q
            refine ⟨_, rfl, a, _, rfl, .inr hT, rfl, _, rfl, ite2 (fun hn2 => ?_) (fun hn2 => ?_)⟩
            · obtain ⟨a1, u1, rfl, rfl, ha1⟩ := one_of hn2 h2
              have q := q H (Ex.refl H)
              simp only [one1] at q
              refine ⟨_, rfl, a, _, 1, u1, rfl, rfl, hT, atI_nat (j := 1) rfl, _, rfl, a1, ns, pn, ha1, rfl, SqL.of hpn, _, rfl, ite2 (fun hi => ⟨_, rfl, _, rfl, ?_⟩) (fun hi => ?_)⟩
              · have hi : ns.any (eqS a1) = true := by simpa using hi
                rw [hi] at q
                exact q
              · have hi : ns.any (eqS a1) = false := by simpa using hi
                rw [hi] at q
                exact q
            · have := q H (Ex.refl H)
              rw [one1_no (not_one hn2 h2)] at this
              exact this
          refine ⟨_, rfl, w, _, h1, rfl, _, rfl, ite2 (fun hk => ?_) (fun hk => ?_)⟩
          · have E : stepF ns rs mk (.tuple (w :: r)) = one1 (fun a => rs.any (eqS a)) r := by simp only [stepF, tupF, hc, ht, hk, if_true]; rfl
            simp only [E] at q
            refine ⟨_, rfl, a, _, rfl, .inr hT, rfl, _, rfl, ite2 (fun hn2 => ?_) (fun hn2 => ?_)⟩
            · obtain ⟨a1, u1, rfl, rfl, ha1⟩ := one_of hn2 h2
              exact ⟨_, rfl, a, _, 1, u1, rfl, rfl, hT, atI_nat (j := 1) rfl, _, rfl, a1, rs, pr, ha1, rfl, SqL.of hpr, q H (Ex.refl H)⟩
            · have := q H (Ex.refl H)
              rw [one1_no (not_one hn2 h2)] at this
              exact this
          refine ⟨_, rfl, w, _, h1, rfl, _, rfl, ite2 (fun hb => ?_) (fun hb => ?_)⟩
          · have E : stepF ns rs mk (.tuple (w :: r)) = r.isEmpty := by simp only [stepF, tupF, hc, ht, hk, hb, if_true]; rfl
            simp only [E] at q
            refine ⟨_, rfl, a, _, rfl, .inr hT, rfl, ?_⟩
            have e : r.isEmpty = decide (V.int ((v0 :: vr).length : Nat) = V.int 1) := by
              rw [Bool.eq_iff_iff, decide_eq_true_eq, List.isEmpty_iff_length_eq_zero, V.int.injEq]
              simp only [List.length_cons]
              omega
            rw [e] at q
            exact q H (Ex.refl H)
          · have E : stepF ns rs mk (.tuple (w :: r)) = nestG ns rs mk (.tuple (w :: r)) := by simp only [stepF, tupF, nestG, hc, ht, hk, hb]; rfl
            simp only [E] at q
            exact ⟨_, rfl, _, rfl, _, rfl, _, rfl, _, _, pn, pr, ns, rs, mk, rfl, .tup hT (.cons h1 h2), hn, ⟨w, r, rfl⟩, hpn, hpr, q⟩
    | _ =>
      have := q H (Ex.refl H)
      simp only [stepF] at this
      exact ite2 (fun _ => this) (fun h => (h rfl).elim)
theorem two_of {H : Hp} {v0 : V} {vr : List V} {r : List PyData} (h : decide (V.int ((v0 :: vr).length : Nat) = V.int 3) = true) (h2 : DqA K H vr r) : ∃ a1 a2 u1 u2, r = [a1, a2] ∧ vr = [u1, u2] ∧ Dq K H u1 a1 ∧ Dq K H u2 a2 := by
  have h := of_decide_eq_true h
  simp only [V.int.injEq, List.length_cons] at h
  cases h2 with
  | nil => simp only [List.length_nil] at h; omega
  | cons x y =>
    cases y with
    | nil => simp only [List.length_cons, List.length_nil] at h; omega
    | cons x' y' =>
      cases y' with
      | nil => exact ⟨_, _, _, _, rfl, rfl, x, x'⟩
      | cons _ _ => simp only [List.length_cons] at h; omega
theorem not_two {H : Hp} {v0 : V} {vr : List V} {r : List PyData} (h : ¬ decide (V.int ((v0 :: vr).length : Nat) = V.int 3) = true) (h2 : DqA K H vr r) : r.length ≠ 2 := fun z => h (decide_eq_true (by
  have := dqa_len h2
  simp only [V.int.injEq, List.length_cons]
  omega))
def bodG (ns rs : List Str) (mk : Bool) (d : PyData) : Bool := bodyF ns rs mk d
def spVP (K : PySem.W.Frag) : Nat → Sp
  | 0 => spNo
  | n + 1 => spV K bodG (fun _ => True) n
theorem ok_ns {n : Nat} {fB : Addr} {fdB : FuncData} {ds : List Value} (F : Fun K "is_nest" "is_nest" sNs f fd) (FB : FnOk P w K mg base CX0 (3 * n + 1) fB fdB ["value", "names", "rights", "marked"] (spVP K n)) (mB : mg "is_body" = some (.ref fB)) (kB : PySem.W.keepIn K (.ref fB) = true) (bB : Binds K fdB ["value", "names", "rights", "marked"] [])
    (mL : mg "len" = none) (mI : mg "isinstance" = none) (mBo : mg "bool" = none) (mA : mg "all" = none) : FnOk P w K mg base CX0 (3 * n + 2) f fd ["value", "names", "rights", "marked"] (spV K nestG preN n) := by
  refine F.ok scNs (fun vs H Q E h => ?_) (fun cdv A outer s H vs Q E hr h => ?_)
  · obtain ⟨_, _, _, _, _, _, _, rfl, _⟩ := h
    rfl
  · obtain ⟨v, d, pn, pr, ns, rs, mk, rfl, hd, hn, ⟨w, r, rfl⟩, hpn, hpr, q⟩ := h
    have hu := hr.units0
    refine ⟨_, pss_cons (ps_set (i := 4) scNs.nd rfl (Or.inl rfl) (pe_ix ix_tup (pv 0) pe_int (fun _ _ => rfl)))
      (pss_cons (ps_if (pt_cmpR (op_eqS hu) (pv 4) pe_str (nomark _)) (pss_one (ps_ret (pe_and (pe_cmpR op_eq (pe_callB call_len_seq (by rfl) mL PySem.boot_len (pa_cons (pv 0) pa_nil)) pe_int (nomark _)) (pe_one (pe_callB (cr_all rfl) (by rfl) mA (by decide +kernel) (pa_cons (pe_lc (own := [("part", 6)]) (g := gName 6) rfl scNs.nd (pi_tup (pe_slice sl_tup (pv 0) (po_some pe_int) po_none))
            (blkOk_by (own := [("part", 6)]) (N := ["value", "names", "rights", "marked", "word", "fits", "part"]) (sc := defScope sNs) (by decide +kernel))
            (fun _ _ _ _ _ => pg_name (i := 6) scNs.nd rfl (Or.inl rfl)) (fun _ _ _ _ _ => pts_nil)
            (fun _ _ _ _ _ => pe_call FB hr rfl mB kB bB .nil pass0 (pa_cons (pv 6) (pa_cons (pv 1) (pa_cons (pv 2) (pa_cons (pv 3) pa_nil)))))) pa_nil)))))) pss_nil)
      (pss_cons (ps_if (pt_cmpR (op_eqS hu) (pv 4) pe_str (nomark _)) (pss_one (ps_ret (pe_and (pe_cmpR op_eq (pe_callB call_len_seq (by rfl) mL PySem.boot_len (pa_cons (pv 0) pa_nil)) pe_int (nomark _)) (pe_one (pe_call FB hr rfl mB kB bB .nil pass0 (pa_cons (pe_ix ix_tup (pv 0) pe_int (fun _ _ => rfl)) (pa_cons (pv 1) (pa_cons (pv 2) (pa_cons (pv 3) pa_nil))))))))) pss_nil)
      (pss_cons (ps_if (pt_cmpR (op_eqS hu) (pv 4) pe_str (nomark _))
        (pss_cons (ps_set (i := 5) scNs.nd rfl (Or.inl rfl) (pe_and (pe_cmpR op_eq (pe_callB call_len_seq (by rfl) mL PySem.boot_len (pa_cons (pv 0) pa_nil)) pe_int (nomark _)) (pe_one (pe_callB (isi_S (K := K)) (by rfl) mI PyProof.Rows.boot_isinstance (pa_cons (pe_ix ix_tup (pv 0) pe_int (fun _ _ => rfl)) (pa_cons (pe_bltn (v := .ty "bool") (by rfl) mBo (by decide +kernel) rfl) pa_nil))))))
        (pss_one (ps_ret (pe_and (pv 5) (pe_one (pe_call FB hr rfl mB kB bB .nil pass0 (pa_cons (pe_ix ix_tup (pv 0) pe_int (fun _ _ => rfl)) (pa_cons (pv 1) (pa_cons (pv 2) (pa_cons (pe_or (pv 3) (pe_one (pe_ix ix_tup (pv 0) pe_int (fun _ _ => rfl)))) pa_nil))))))))))  pss_nil)
      (pss_one (ps_ret pe_bl))))), ?_⟩
    cases hd with
    | @tup a xs _ hT hx =>
    cases hx with
    | @cons v0 vr _ _ h1 h2 =>
    have hn1 : ∀ x ∈ r, x.depth + 1 ≤ n := fun x hx => by
      have := depth_mem hx
      simp only [PyData.depth, PyData.depthAll] at hn
      omega
    refine ⟨_, rfl, a, _, 0, v0, rfl, rfl, hT, atI_nat (j := 0) rfl, ?_⟩
    refine ⟨_, rfl, w, _, h1, rfl, _, rfl, ite2 (fun he => ?_) (fun he => ?_)⟩
    · have nl := eqS_ne (b := "loop") he (by decide)
      refine ⟨_, rfl, a, _, rfl, .inr hT, rfl, _, rfl, ite2 (fun h3 => ?_) (fun h3 => ?_)⟩
      · obtain ⟨d1, d2, u1, u2, rfl, rfl, g1, g2⟩ := two_of h3 h2
        obtain ⟨m, rfl⟩ : ∃ m, n = m + 1 := ⟨n - 1, by have := hn1 d1 (List.mem_cons_self ..); omega⟩
        have E : nestG ns rs mk (.tuple [w, d1, d2]) = (bodyF ns rs mk d1 && bodyF ns rs mk d2) := by simp only [nestG, nestF, he, if_true]
        rw [E] at q
        refine ⟨_, rfl, _, rfl, a, _, rfl, hT, (fun z => absurd z.1 (by show ¬ (1 : Nat) = 0; decide)), fun tp ntp => ⟨tp, rfl, ⟨_, SqT.of upd_same⟩, fun D nD => ?_⟩⟩
        have hcut : cutV [v0, u1, u2] (some 1) none = [u1, u2] := rfl
        rw [hcut] at nD ⊢
        have e1 : Ex H (upd H tp (.tup [u1, u2])) := Ex.new ntp
        refine lc_tup (K := K) (a := tp) (xs := [u1, u2]) (fun i H' => Ex (upd H tp (.tup [u1, u2])) H' ∧ H' D = some (.lst ((([d1, d2].take i).map fun x => bodyF ns rs mk x).map V.bl))) ?_ (fun i H' _ ⟨x, _⟩ => SqT.of (x _ _ upd_same)) ?_ ?_
        · exact ⟨Ex.new nD, upd_same⟩
        · rintro i x H' hx ⟨ex, hD⟩
          obtain ⟨dx, hdx, gx⟩ := dqa_get (.cons g1 (.cons g2 .nil)) hx
          have := hn1 dx (List.mem_of_getElem? hdx)
          refine ⟨rfl, _, rfl, _, rfl, _, rfl, _, rfl, x, dx, pn, pr, ns, rs, mk, rfl, gx.mono (same_ex (e1.trans ex)), by omega, trivial, ex _ _ (e1 _ _ hpn), ex _ _ (e1 _ _ hpr), fun H3 e3 => ⟨_, e3 _ _ hD, ?_, ?_, ?_⟩⟩
          · have e3z : (5000 : Nat) < sizeLine := by decide
            rw [List.length_map, List.length_map, List.length_take]
            simp only [List.length_cons, List.length_nil]
            omega
          · intro b o hb
            rw [upd_ne (ne_of_none hb nD)]
            exact e3 _ _ (ex _ _ hb)
          · rw [upd_same, List.take_succ, hdx, List.map_append, List.map_append]
            rfl
        · rintro H' ⟨ex, hD⟩
          refine ⟨D, _, rfl, SqL.of hD, ?_⟩
          have := q H' (e1.trans ex)
          have e : (([d1, d2].take [u1, u2].length).map fun x => bodyF ns rs mk x).all id = (bodyF ns rs mk d1 && bodyF ns rs mk d2) := by
            show ((bodyF ns rs mk d1) && ((bodyF ns rs mk d2) && true)) = _
            rw [Bool.and_true]
          rw [e]
          exact this
      · have E : nestG ns rs mk (.tuple (w :: r)) = false := by
          match r, not_two h3 h2 with
          | [], _ => rfl
          | [x], _ => simp only [nestG, nestF, nl]; rfl
          | [x, y], h => exact absurd rfl h
          | _ :: _ :: _ :: _, _ => rfl
        rw [E] at q
        exact q H (Ex.refl H)
    refine ⟨_, rfl, w, _, h1, rfl, _, rfl, ite2 (fun hl => ?_) (fun hl => ?_)⟩
    · have nb := eqS_ne (b := "block") hl (by decide)
      refine ⟨_, rfl, a, _, rfl, .inr hT, rfl, _, rfl, ite2 (fun h3 => ?_) (fun h3 => ?_)⟩
      · obtain ⟨d1, u1, rfl, rfl, g1⟩ := one_of h3 h2
        obtain ⟨m, rfl⟩ : ∃ m, n = m + 1 := ⟨n - 1, by have := hn1 d1 (List.mem_cons_self ..); omega⟩
        have := hn1 d1 (List.mem_cons_self ..)
        have E : nestG ns rs mk (.tuple [w, d1]) = bodyF ns rs mk d1 := by simp only [nestG, nestF, hl, if_true]
        rw [E] at q
        exact ⟨_, rfl, a, _, 1, u1, rfl, rfl, hT, atI_nat (j := 1) rfl, _, rfl, _, rfl, _, rfl, u1, d1, pn, pr, ns, rs, mk, rfl, g1, by omega, trivial, hpn, hpr, q⟩
      · have E : nestG ns rs mk (.tuple (w :: r)) = false := by
          match r, not_one h3 h2 with
          | [], _ => rfl
          | [x], h => exact absurd rfl h
          | [x, y], _ => simp only [nestG, nestF, he, nb]; rfl
          | _ :: _ :: _ :: _, _ => rfl
        rw [E] at q
        exact q H (Ex.refl H)
    refine ⟨_, rfl, w, _, h1, rfl, _, rfl, ite2 (fun hb => ?_) (fun hb => ?_)⟩
    · refine ⟨_, rfl, a, _, rfl, .inr hT, rfl, _, rfl, ite2 (fun h3 => ?_) (fun h3 => ?_)⟩
      · obtain ⟨d1, d2, u1, u2, rfl, rfl, g1, g2⟩ := two_of h3 h2
        obtain ⟨m, rfl⟩ : ∃ m, n = m + 1 := ⟨n - 1, by have := hn1 d1 (List.mem_cons_self ..); omega⟩
        have := hn1 d2 (List.mem_cons_of_mem _ (List.mem_cons_self ..))
        refine ⟨_, rfl, a, _, 1, u1, rfl, rfl, hT, atI_nat (j := 1) rfl, isi_b g1 ⟨_, rfl, _, rfl, ?_⟩⟩
        cases g1 with
        | bl mb =>
          have E : nestG ns rs mk (.tuple [w, .bool mb, d2]) = bodyF ns rs (mk || mb) d2 := by
            simp only [nestG, nestF, he, hb, if_true]
            rfl
          rw [E] at q
          refine ite2 (fun _ => ?_) (fun h => (h rfl).elim)
          refine ⟨_, rfl, a, _, 2, u2, rfl, rfl, hT, atI_nat (j := 2) rfl, _, rfl, _, rfl, _, rfl, mk, rfl, ?_⟩
          have fin : bodG ns rs (mk || mb) d2 = bodyF ns rs (mk || mb) d2 := rfl
          cases mk with
          | true => exact ite2 (fun _ => ⟨u2, d2, pn, pr, ns, rs, true, rfl, g2, by omega, trivial, hpn, hpr, q⟩) (fun h => (h rfl).elim)
          | false => exact ite2 (fun h => Bool.noConfusion h) (fun _ => ⟨_, rfl, a, _, 1, .bl mb, rfl, rfl, hT, atI_nat (j := 1) rfl, u2, d2, pn, pr, ns, rs, mb, rfl, g2, by omega, trivial, hpn, hpr, q⟩)
        | _ =>
          refine ite2 (fun h => Bool.noConfusion h) (fun _ => ?_)
          have := q H (Ex.refl H)
          simp only [nestG, nestF, he, hb, if_true] at this
          exact this
      · refine ⟨_, rfl, _, rfl, ite2 (fun h => Bool.noConfusion h) (fun _ => ?_)⟩
        have E : nestG ns rs mk (.tuple (w :: r)) = false := by
          match r, not_two h3 h2 with
          | [], _ => rfl
          | [x], _ => simp only [nestG, nestF, hl]; rfl
          | [x, y], h => exact absurd rfl h
          | _ :: _ :: _ :: _, _ => rfl
        rw [E] at q
        exact q H (Ex.refl H)
    · have E : nestG ns rs mk (.tuple (w :: r)) = false := by
        match r with
        | [] => rfl
        | [x] => simp only [nestG, nestF, hl]; rfl
        | [x, y] => simp only [nestG, nestF, he, hb]; rfl
        | _ :: _ :: _ :: _ => rfl
      rw [E] at q
      exact q H (Ex.refl H)
theorem steps_all {ns rs : List Str} {mk : Bool} : ∀ {ds : List PyData}, stepsF ns rs mk ds = ds.all fun d => stepF ns rs mk d
  | [] => by simp only [stepsF, List.all_nil]
  | d :: r => by simp only [stepsF, List.all_cons, steps_all (ds := r)]
/-- is_body: a def with a default -/
def FunB (K : PySem.W.Frag) (f : Addr) (fd : FuncData) : Prop := FunD K "is_body" "is_body" (defArgs sBd) (defBody sBd) (defScope sBd) [.bl false] [] f fd
theorem FunB.ok {N ps : List Str} {k : Nat} {sp : Sp} (F : FunB K f fd) (S : FnScope N ps (defScope sBd)) (len : ∀ vs H Q E, sp vs H Q E → vs.length = ps.length)
    (hbody : ∀ (cdv : Value) (A : Around) (outer : List Env) (s : Shared) (H : Hp) (vs : List V) (Q : VK) (E : XK), Room k (A.deeper (envOfC "is_body" (defScope sBd) s.heap.objs.size f cdv)) → sp vs H Q E →
      ∃ t, PSs (cxOf CX0 P w K mg base N "is_body" (defScope sBd) f cdv A outer s H E).nox (defBody sBd) t ∧ t { nx := fun _ H' => Q .non H', rt := Q } (start N vs) H) : FnOk P w K mg base CX0 (k + 1) f fd ps sp :=
  FunD.ok F S len fun cdv A outer s H vs Q E hr hsp => by
    obtain ⟨t, h, q⟩ := hbody cdv A outer s H vs Q E hr hsp
    exact ⟨t, h.nox, q⟩
theorem ok_bd {n : Nat} {fS : Addr} {fdS : FuncData} (F : FunB K f fd) (FS : FnOk P w K mg base CX0 (3 * n + 3) fS fdS ["value", "names", "rights", "marked"] (spV K (fun ns rs => stepF ns rs) (fun _ => True) n)) (mS : mg "is_step" = some (.ref fS)) (kS : PySem.W.keepIn K (.ref fS) = true) (bS : Binds K fdS ["value", "names", "rights", "marked"] [])
    (mI : mg "isinstance" = none) (mLi : mg "list" = none) : FnOk P w K mg base CX0 (3 * n + 4) f fd ["value", "names", "rights", "marked"] (spV K bodG (fun _ => True) n) := by
  refine F.ok scBd (fun vs H Q E h => ?_) (fun cdv A outer s H vs Q E hr h => ?_)
  · obtain ⟨_, _, _, _, _, _, _, rfl, _⟩ := h
    rfl
  · obtain ⟨v, d, pn, pr, ns, rs, mk, rfl, hd, hn, _, hpn, hpr, q⟩ := h
    refine ⟨_, pss_cons (ps_if (pt_not (pt_val (pe_callB (isi_S (K := K)) (by rfl) mI PyProof.Rows.boot_isinstance (pa_cons (pv 0) (pa_cons (pe_bltn (v := .ty "list") (by rfl) mLi (by decide +kernel) rfl) pa_nil))))) (pss_one (ps_ret pe_bl)) pss_nil)
      (pss_cons (ps_for PassesOwn.never rfl (pi_list (pv 0)) (pg_name (i := 4) scBd.nd rfl (Or.inl rfl))
        (pss_one (ps_if (pt_not (pt_val (pe_call FS hr rfl mS kS bS .nil pass0 (pa_cons (pv 4) (pa_cons (pv 1) (pa_cons (pv 2) (pa_cons (pv 3) pa_nil))))))) (pss_one (ps_ret pe_bl)) pss_nil)))
      (pss_one (ps_ret pe_bl))), ?_⟩
    refine ⟨_, rfl, isi_l hd ⟨_, rfl, ?_⟩⟩
    cases hd with
    | @lst a xs ds ha hx =>
      refine ite2 (fun h => Bool.noConfusion h) (fun _ => ⟨_, rfl, a, rfl, ⟨_, SqL.of ha⟩, ?_⟩)
      have E : bodG ns rs mk (.list ds) = ds.all fun d => stepF ns rs mk d := by
        unfold bodG
        simp only [bodyF]
        exact steps_all
      rw [E] at q
      have hl := dqa_len hx
      refine for_list (K := K) (a := a) (xs := xs) (fun i σ H' => ∃ t : Option V, σ = [some (.ref a), some (.ref pn), some (.ref pr), some (.bl mk), t] ∧ Ex H H' ∧ ((ds.take i).all fun d => stepF ns rs mk d) = true) ?_ (fun i σ H' _ ⟨_, _, x, _⟩ => SqL.of (x _ _ ha)) ?_ ?_
      · exact ⟨none, rfl, Ex.refl H, rfl⟩
      · rintro i x σ H' hi ⟨t, rfl, ex, hal⟩
        obtain ⟨dx, hdx, gx⟩ := dqa_get hx hi
        have := depth_mem (List.mem_of_getElem? hdx)
        simp only [PyData.depth] at hn
        refine ⟨_, rfl, _, rfl, _, rfl, _, rfl, x, dx, pn, pr, ns, rs, mk, rfl, gx.mono (same_ex ex), by omega, trivial, ex _ _ hpn, ex _ _ hpr, fun H3 e3 => ⟨_, rfl, ?_⟩⟩
        have tk : ds.take (i + 1) = ds.take i ++ [dx] := by
          rw [List.take_succ, hdx]
          rfl
        cases hst : stepF ns rs mk dx with
        | true =>
          refine ite2 (fun h => ?_) (fun _ => ⟨_, rfl, ex.trans e3, ?_⟩)
          · cases h
          rw [tk, List.all_append, hal]
          simp only [List.all_cons, List.all_nil, hst]
          rfl
        | false =>
          refine ite2 (fun _ => ?_) (fun h => (h rfl).elim)
          have hf : (ds.all fun d => stepF ns rs mk d) = false := by
            rw [Bool.eq_false_iff]
            intro z
            have := List.all_eq_true.mp z dx (List.mem_of_getElem? hdx)
            rw [hst] at this
            cases this
          rw [hf] at q
          exact q H3 (ex.trans e3)
      · rintro σ H' ⟨t, rfl, ex, hal⟩
        rw [hl, List.take_of_length_le (Nat.le_refl _)] at hal
        rw [hal] at q
        exact q H' ex
    | _ => exact ite2 (fun _ => q H (Ex.refl H)) (fun h => (h rfl).elim)
theorem ok_bd0 (F : FunB K f fd) : FnOk P w K mg base CX0 1 f fd ["value", "names", "rights", "marked"] spNo :=
  F.ok scBd (fun vs H Q E h => h.elim) (fun cdv A outer s H vs Q E hr h => h.elim)
theorem ok_bodies {fB fS fN : Addr} {fdB fdS fdN : FuncData} (FB : FunB K fB fdB) (FS : Fun K "is_step" "is_step" sSt fS fdS) (FN : Fun K "is_nest" "is_nest" sNs fN fdN)
    (mB : mg "is_body" = some (.ref fB)) (kB : PySem.W.keepIn K (.ref fB) = true) (bB : Binds K fdB ["value", "names", "rights", "marked"] [])
    (mS : mg "is_step" = some (.ref fS)) (kS : PySem.W.keepIn K (.ref fS) = true) (bS : Binds K fdS ["value", "names", "rights", "marked"] [])
    (mN : mg "is_nest" = some (.ref fN)) (kN : PySem.W.keepIn K (.ref fN) = true) (bN : Binds K fdN ["value", "names", "rights", "marked"] [])
    (mL : mg "len" = none) (mI : mg "isinstance" = none) (mBo : mg "bool" = none) (mA : mg "all" = none) (mT : mg "tuple" = none) (mLi : mg "list" = none) :
    ∀ n : Nat, FnOk P w K mg base CX0 (3 * n + 4) fB fdB ["value", "names", "rights", "marked"] (spV K bodG (fun _ => True) n)
  | 0 => ok_bd FB (ok_st FS (ok_ns (ds := []) FN (ok_bd0 FB) mB kB bB mL mI mBo mA) mN kN bN mL mI mT) mS kS bS mI mLi
  | n + 1 => ok_bd FB (ok_st FS (ok_ns (ds := []) FN (ok_bodies FB FS FN mB kB bB mS kS bS mN kN bN mL mI mBo mA mT mLi n) mB kB bB mL mI mBo mA) mN kN bN mL mI mT) mS kS bS mI mLi
end
end Lx

set_option Elab.async false
set_option maxRecDepth 100000
set_option linter.all false
set_option maxHeartbeats 4000000
/-! KitN2: a comprehension in a comprehension's block. -/
namespace Kx
open PySem PySem.Spec PyProof.Rows L2
theorem lookup_map {y : Str} {f : Str × NameKind → Str × NameKind} (h1 : ∀ x, (f x).1 = x.1) : ∀ {l : List (Str × NameKind)} {k : NameKind}, List.lookup y l = some k → List.lookup y (l.map f) = some (f (y, k)).2
  | [], k, h => nomatch h
  | (n, k1) :: l, k, h => by
    rw [List.map_cons, show f (n, k1) = ((f (n, k1)).1, (f (n, k1)).2) from rfl, List.lookup_cons, h1]
    rw [List.lookup_cons] at h
    cases e : (y == n) with
    | true =>
      rw [e] at h
      have e2 : y = n := of_decide_eq_true (by simpa using e)
      subst e2
      cases h
      rfl
    | false =>
      rw [e] at h
      exact lookup_map h1 h
theorem blk_re {N : List Str} {sc scope : Scope} {env : Env} {own : List (Str × Nat)} (h : BlkOk N sc scope own) : BlkOk N (relabel sc env) scope own := by
  refine ⟨h.kind, h.uniq, h.ix, fun y hy e => ?_, h.own⟩
  rcases h.free y hy e with z | z
  · refine .inl ?_
    unfold relabel
    rw [lookup_map (fun x => by dsimp only; split <;> rfl) z]
    dsimp only
    split <;> rfl
  · unfold relabel
    rw [lookup_map (fun x => by dsimp only; split <;> rfl) z]
    dsimp only
    split
    · exact .inl rfl
    · exact .inr rfl
theorem pi_listK {X : Cx} {K : PySem.W.Frag} {tg l : Expr} {tl : TE} (hp : PE X l tl) (h : X.K = K := by rfl) : PI X tg l (iList K tl) := h ▸ pi_list hp
theorem pi_tupK {X : Cx} {K : PySem.W.Frag} {tg l : Expr} {tl : TE} (hp : PE X l tl) (h : X.K = K := by rfl) : PI X tg l (iTup K tl) := h ▸ pi_tup hp
end Kx

set_option Elab.async false
set_option maxRecDepth 100000
set_option linter.all false
set_option maxHeartbeats 4000000
namespace Lx
open PySem PySem.Spec PyProof.Rows L2 Evl Kx
section
variable {P : Program} {w : World} {K : PySem.W.Frag} {mg : Str → Option Value} {base : Heap} {f : Addr} {fd : FuncData}
abbrev sCb : Stmt := top 14
abbrev sCs : Stmt := top 15
abbrev sWi : Stmt := top 16
theorem scCb : FnScope ["body", "step"] ["body"] (defScope sCb) := ⟨rfl, rfl, rfl, by decide +kernel, rfl, by decide +kernel, by decide +kernel⟩
theorem scCs : FnScope ["step"] ["step"] (defScope sCs) := ⟨rfl, rfl, rfl, by decide +kernel, rfl, by decide +kernel, by decide +kernel⟩
theorem scWi : FnScope ["step", "change", "part", "inner"] ["step", "change"] (defScope sWi) := ⟨rfl, rfl, rfl, by decide +kernel, rfl, by decide +kernel, by decide +kernel⟩
def spCs (K : PySem.W.Frag) (d : Nat) : Sp := fun vs H Q _ => ∃ (p : Addr) (s : Stp), vs = [.ref p] ∧ Dq K H (.ref p) (stpD s) ∧ nstS s ≤ d ∧ cntS s ≤ 4096 ∧ ∀ p2 H2 M, New H H2 M → FrN K H M (.ref p2) (stpD s) → Q (.ref p2) H2
def spCb (K : PySem.W.Frag) (d : Nat) : Sp := fun vs H Q _ => ∃ (p : Addr) (b : List Stp), vs = [.ref p] ∧ Dq K H (.ref p) (.list (bodyD b)) ∧ nstB b ≤ d ∧ cntB b ≤ 4096 ∧ ∀ p2 H2 M, New H H2 M → FrN K H M (.ref p2) (.list (bodyD b)) → Q (.ref p2) H2
def spCsP (K : PySem.W.Frag) : Nat → Sp
  | 0 => spNo
  | d + 1 => spCs K d
def spWi (K : PySem.W.Frag) (fS : Addr) (d : Nat) : Sp := fun vs H Q _ => ∃ (p : Addr) (s : Stp), vs = [.ref p, .ref fS] ∧ Dq K H (.ref p) (stpD s) ∧ nstS s ≤ d ∧ cntS s ≤ 4096 ∧ ∀ p2 H2 M, New H H2 M → FrN K H M (.ref p2) (stpD s) → Q (.ref p2) H2
theorem ok_wi {d : Nat} {fS : Addr} {fdS : FuncData} (F : Fun K "with_inner" "with_inner" sWi f fd) (FS : FnOk P w K mg base CX0 (2 * d) fS fdS ["step"] (spCsP K d)) (kS : PySem.W.keepIn K (.ref fS) = true) (bS : Binds K fdS ["step"] [])
    (mT : mg "tuple" = none) (mI : mg "isinstance" = none) (mL : mg "list" = none) : FnOk P w K mg base CX0 (2 * d + 1) f fd ["step", "change"] (spWi K fS d) := by
  refine F.ok scWi (fun vs H Q E h => ?_) (fun cdv A outer s H vs Q E hr h => ?_)
  · obtain ⟨_, _, rfl, _⟩ := h
    rfl
  · obtain ⟨p, s, rfl, hv, hn, hc, q⟩ := h
    refine ⟨_, pss_one (ps_ret (pe_tupleOf (by rfl) mT (pe_lc (own := [("part", 2)]) (g := gName 2) rfl scWi.nd (pi_tup (pv 0))
            (blkOk_by (own := [("part", 2)]) (N := ["step", "change", "part", "inner"]) (sc := defScope sWi) (by decide +kernel))
            (fun _ _ _ _ _ => pg_name (i := 2) scWi.nd rfl (Or.inl rfl)) (fun _ _ _ _ _ => pts_nil)
            (fun _ _ _ _ _ => pe_ifExp (pt_val (pe_callB (isi_S (K := K)) (by rfl) mI PyProof.Rows.boot_isinstance (pa_cons (pv 2) (pa_cons (pe_bltn (v := .ty "list") (by rfl) mL (by decide +kernel) rfl) pa_nil))))
              (pe_lc (own := [("inner", 3)]) (g := gName 3) rfl scWi.nd (pi_listK (K := K) (pv 2))
                (blk_re (blkOk_by (own := [("inner", 3)]) (N := ["step", "change", "part", "inner"]) (by decide +kernel)))
                (fun _ _ _ _ _ => pg_name (i := 3) scWi.nd rfl (Or.inl rfl)) (fun _ _ _ _ _ => pts_nil)
                (fun _ _ _ _ _ => pe_callL (i := 1) FS hr rfl (Or.inr (Or.inl rfl)) kS bS .nil pass0 (pa_cons (pv 3) pa_nil))) (pv 2))))), ?_⟩
    obtain ⟨ta, ys, ep, eT, hy⟩ := step_at hv
    cases ep
    have h3 : (partsP s).length ≤ 3 := by cases s <;> simp only [partsP, List.length_cons, List.length_nil] <;> omega
    refine ⟨_, rfl, p, rfl, ⟨_, eT⟩, fun D nD => ?_⟩
    refine lc_tup (K := K) (a := p) (xs := ys) (fun j H'' => ∃ (M2 : Hp) (zs : List V), New H H'' M2 ∧ H'' D = some (.lst zs) ∧ M2 D = none ∧ FrA K H M2 zs (((partsP s).take j).map (·.1))) ?_ (fun j H'' _ ⟨_, _, z, _⟩ => sqt_ex (same_ex z.hh) eT) ?_ ?_
    · exact ⟨emp, [], New.refl.own nD, upd_same, rfl, FrA.nil⟩
    · rintro j v H'' hj ⟨M2, zs, z, hD, mD, hz⟩
      obtain ⟨⟨pd, po⟩, hpp, hvd⟩ := part_get hy hj
      have hvg := hvd
      have hvd := hvd.mono (same_ex z.hh)
      have htk : (partsP s).take (j + 1) = (partsP s).take j ++ [(pd, po)] := by
        rw [List.take_succ, hpp]
        rfl
      have hzl : zs.length < sizeLine := by
        have := dqa_len hz.dq
        rw [List.length_map, List.length_take] at this
        have e3z : (5 : Nat) < sizeLine := by decide
        omega
      have fin : ∀ (v3 : V) (H3 M3 : Hp), New H'' H3 M3 → FrN K H'' M3 v3 pd → ∃ acc, H3 D = some (.lst acc) ∧ acc.length < sizeLine ∧ ∃ (M2 : Hp) (zs : List V), New H (upd H3 D (.lst (acc ++ [v3]))) M2 ∧ (upd H3 D (.lst (acc ++ [v3]))) D = some (.lst zs) ∧ M2 D = none ∧ FrA K H M2 zs (((partsP s).take (j + 1)).map (·.1)) := by
        intro v3 H3 M3 k3 h3
        have hD3 := k3.hh _ _ hD
        have mD3 : join M2 M3 D = none := join_none mD (k3.fr _ _ hD)
        refine ⟨zs, hD3, hzl, join M2 M3, zs ++ [v3], (z.trans k3).wr nD mD3, upd_same, mD3, ?_⟩
        rw [htk, List.map_append]
        exact FrA.app z hz join_l (z.right k3) h3
      refine ⟨rfl, _, rfl, isi_l hvd ⟨_, rfl, ?_⟩⟩
      rcases parts_ok (List.mem_of_getElem? hpp) with ⟨h1, h2⟩ | ⟨b', h1, h2, h3, h4⟩
      · refine ite2 (fun h => ?_) (fun _ => ?_)
        · simp only [h1] at h
          cases h
        · exact ⟨_, rfl, fin v H'' emp New.refl (FrN.flat (parts_flat (List.mem_of_getElem? hpp) h1) (flat_dq (parts_flat (List.mem_of_getElem? hpp) h1) hvg))⟩
      · subst h1 h2
        refine ite2 (fun h => ?_) (fun h => (h rfl).elim)
        obtain ⟨d', rfl⟩ : ∃ d', d = d' + 1 := ⟨d - 1, by omega⟩
        cases hvd with
        | @lst pa xs2 _ hp2 hx2 =>
        have hlen : xs2.length = b'.length := by
          have := dqa_len hx2
          rw [bodyD_map, List.length_map] at this
          exact this
        refine ⟨_, rfl, pa, rfl, ⟨_, SqL.of hp2⟩, fun D2 nD2 => ?_⟩
        refine lc_list (K := K) (a := pa) (xs := xs2) (fun i H' => ∃ (M : Hp) (acc : List V), New H'' H' M ∧ H' D2 = some (.lst acc) ∧ M D2 = none ∧ FrA K H'' M acc (bodyD (b'.take i))) ?_ (fun i H' _ ⟨_, _, k, _⟩ => SqL.of (k.hh _ _ hp2)) ?_ ?_
        · exact ⟨emp, [], New.refl.own nD2, upd_same, rfl, by simp only [List.take_zero, bodyD]; exact FrA.nil⟩
        · rintro i x H' hi ⟨M, acc, k, hD2, mD2, ha⟩
          obtain ⟨s', hs, hv'⟩ := body_get hx2 hi
          obtain ⟨ta, ys', rfl, hT, hy'⟩ := step_at hv'
          have hst : s' ∈ b' := List.mem_of_getElem? hs
          refine ⟨rfl, rfl, _, rfl, ta, s', rfl, hv'.mono (same_ex k.hh), (by have := nst_mem hst; omega), (by have := cnt_mem hst; omega), fun p3 H3 M3 k3 h3 => ?_⟩
          have hD3 := k3.hh _ _ hD2
          have mD3 : join M M3 D2 = none := join_none mD2 (k3.fr _ _ hD2)
          refine ⟨acc, hD3, ?_, join M M3, acc ++ [.ref p3], (k.trans k3).wr nD2 mD3, upd_same, mD3, ?_⟩
          · have := dqa_len ha.dq
            rw [bodyD_map, List.length_map, List.length_take] at this
            have h2 := (List.getElem?_eq_some_iff.mp hi).1
            have h3 := len_cnt b'
            have e3z : (5000 : Nat) < sizeLine := by decide
            omega
          · rw [bodyD_map, List.take_succ, hs, List.map_append, ← bodyD_map]
            exact FrA.app k ha join_l (k.right k3) h3
        · rintro H' ⟨M, acc, k, hD2, mD2, ha⟩
          rw [hlen, List.take_of_length_le (Nat.le_refl _)] at ha
          exact fin (.ref D2) H' _ (k.frz nD2 hD2) (FrN.lst ha mD2 nD2)
    · rintro H'' ⟨M2, zs, z, hD, mD, hz⟩
      have hl : ys.length = (partsP s).length := by
        have := dqa_len hy
        rw [List.length_map] at this
        exact this
      rw [hl, List.take_of_length_le (Nat.le_refl _)] at hz
      refine .inl ⟨D, zs, rfl, SqL.of hD, fun tp ntp => q tp _ _ (z.put (o := .tup zs) ntp) ?_⟩
      rw [stpD_parts]
      exact FrN.tup hz (Ex.new (z.none ntp)) upd_same
theorem ok_cs {d : Nat} {fW : Addr} {fdW : FuncData} (F : Fun K "copy_step" "copy_step" sCs f fd) (FW : FnOk P w K mg base CX0 (2 * d + 1) fW fdW ["step", "change"] (spWi K f d)) (mW : mg "with_inner" = some (.ref fW)) (kW : PySem.W.keepIn K (.ref fW) = true) (bW : Binds K fdW ["step", "change"] [])
    (mS : mg "copy_step" = some (.ref f)) : FnOk P w K mg base CX0 (2 * d + 2) f fd ["step"] (spCs K d) := by
  refine F.ok scCs (fun vs H Q E h => ?_) (fun cdv A outer s H vs Q E hr h => ?_)
  · obtain ⟨_, _, rfl, _⟩ := h
    rfl
  · obtain ⟨p, s, rfl, hv, hn, hc, q⟩ := h
    refine ⟨_, pss_one (ps_ret (pe_call FW hr rfl mW kW bW .nil pass0 (pa_cons (pv 0) (pa_cons (pe_glob (v := .ref f) (by rfl) mS rfl) pa_nil)))), ?_⟩
    exact ⟨_, rfl, p, s, rfl, hv, hn, hc, q⟩
theorem ok_cb {d : Nat} {fS : Addr} {fdS : FuncData} (F : Fun K "copy_body" "copy_body" sCb f fd) (FS : FnOk P w K mg base CX0 (2 * d + 2) fS fdS ["step"] (spCs K d)) (mS : mg "copy_step" = some (.ref fS)) (kS : PySem.W.keepIn K (.ref fS) = true) (bS : Binds K fdS ["step"] []) :
    FnOk P w K mg base CX0 (2 * d + 3) f fd ["body"] (spCb K d) := by
  refine F.ok scCb (fun vs H Q E h => ?_) (fun cdv A outer s H vs Q E hr h => ?_)
  · obtain ⟨_, _, rfl, _⟩ := h
    rfl
  · obtain ⟨p, b, rfl, hd, hn, hc, q⟩ := h
    refine ⟨_, pss_one (ps_ret (pe_lc (own := [("step", 1)]) (g := gName 1) rfl scCb.nd (pi_list (pv 0))
            (blkOk_by (own := [("step", 1)]) (N := ["body", "step"]) (sc := defScope sCb) (by decide +kernel))
            (fun _ _ _ _ _ => pg_name (i := 1) scCb.nd rfl (Or.inl rfl)) (fun _ _ _ _ _ => pts_nil)
            (fun _ _ _ _ _ => pe_call FS hr rfl mS kS bS .nil pass0 (pa_cons (pv 1) pa_nil)))), ?_⟩
    cases hd with
    | @lst _ xs _ hp hx =>
    have hlen : xs.length = b.length := by
      have := dqa_len hx
      rw [bodyD_map, List.length_map] at this
      exact this
    refine ⟨_, rfl, p, rfl, ⟨_, SqL.of hp⟩, fun D nD => ?_⟩
    refine lc_list (K := K) (a := p) (xs := xs) (fun i H' => ∃ (M : Hp) (acc : List V), New H H' M ∧ H' D = some (.lst acc) ∧ M D = none ∧ FrA K H M acc (bodyD (b.take i))) ?_ (fun i H' _ ⟨_, _, k, _⟩ => SqL.of (k.hh _ _ hp)) ?_ ?_
    · exact ⟨emp, [], New.refl.own nD, upd_same, rfl, by simp only [List.take_zero, bodyD]; exact FrA.nil⟩
    · rintro i x H' hi ⟨M, acc, k, hD, mD, ha⟩
      obtain ⟨s, hs, hv⟩ := body_get hx hi
      obtain ⟨ta, ys, rfl, hT, hy⟩ := step_at hv
      have hst : s ∈ b := List.mem_of_getElem? hs
      refine ⟨rfl, _, rfl, ta, s, rfl, hv.mono (same_ex k.hh), (by have := nst_mem hst; omega), (by have := cnt_mem hst; omega), fun p3 H3 M3 k3 h3 => ?_⟩
      have hD3 := k3.hh _ _ hD
      have mD3 : join M M3 D = none := join_none mD (k3.fr _ _ hD)
      refine ⟨acc, hD3, ?_, join M M3, acc ++ [.ref p3], (k.trans k3).wr nD mD3, upd_same, mD3, ?_⟩
      · have := dqa_len ha.dq
        rw [bodyD_map, List.length_map, List.length_take] at this
        have h2 := (List.getElem?_eq_some_iff.mp hi).1
        have h3 := len_cnt b
        have e3z : (5000 : Nat) < sizeLine := by decide
        omega
      · rw [bodyD_map, List.take_succ, hs, List.map_append, ← bodyD_map]
        exact FrA.app k ha join_l (k.right k3) h3
    · rintro H' ⟨M, acc, k, hD, mD, ha⟩
      rw [hlen, List.take_of_length_le (Nat.le_refl _)] at ha
      exact q D H' _ (k.frz nD hD) (FrN.lst ha mD nD)
theorem no_ok {fd : FuncData} {ps : List Str} : FnOk P w K mg base CX0 0 f fd ps spNo :=
  ⟨fun _ _ _ _ h => h.elim, fun _ _ _ _ _ _ _ _ _ _ _ _ _ h => h.elim⟩
theorem ok_css {fW fS : Addr} {fdW fdS : FuncData} (FW : Fun K "with_inner" "with_inner" sWi fW fdW) (FS : Fun K "copy_step" "copy_step" sCs fS fdS)
    (mW : mg "with_inner" = some (.ref fW)) (kW : PySem.W.keepIn K (.ref fW) = true) (bW : Binds K fdW ["step", "change"] [])
    (mS : mg "copy_step" = some (.ref fS)) (kS : PySem.W.keepIn K (.ref fS) = true) (bS : Binds K fdS ["step"] [])
    (mT : mg "tuple" = none) (mI : mg "isinstance" = none) (mL : mg "list" = none) : ∀ d : Nat, FnOk P w K mg base CX0 (2 * d + 2) fS fdS ["step"] (spCs K d)
  | 0 => ok_cs FS (ok_wi (d := 0) FW no_ok kS bS mT mI mL) mW kW bW mS
  | d + 1 => ok_cs FS (ok_wi (d := d + 1) FW (ok_css FW FS mW kW bW mS kS bS mT mI mL d) kS bS mT mI mL) mW kW bW mS
theorem ok_copies {fB fS fW : Addr} {fdB fdS fdW : FuncData} (FB : Fun K "copy_body" "copy_body" sCb fB fdB) (FS : Fun K "copy_step" "copy_step" sCs fS fdS) (FW : Fun K "with_inner" "with_inner" sWi fW fdW)
    (mS : mg "copy_step" = some (.ref fS)) (kS : PySem.W.keepIn K (.ref fS) = true) (bS : Binds K fdS ["step"] []) (mW : mg "with_inner" = some (.ref fW)) (kW : PySem.W.keepIn K (.ref fW) = true) (bW : Binds K fdW ["step", "change"] [])
    (mT : mg "tuple" = none) (mI : mg "isinstance" = none) (mL : mg "list" = none) (d : Nat) : FnOk P w K mg base CX0 (2 * d + 3) fB fdB ["body"] (spCb K d) :=
  ok_cb FB (ok_css FW FS mW kW bW mS kS bS mT mI mL d) mS kS bS
end
end Lx

set_option Elab.async false
set_option maxRecDepth 100000
set_option linter.all false
set_option maxHeartbeats 4000000
namespace Lx
open PySem PySem.Spec PyProof.Rows L2 Evl Kx
def ownerF (rs : List Str) : PyData → Bool
  | .tuple [a, b] => nameD a && choiceF rs b
  | _ => false
def functionF (os ns rs : List Str) : PyData → Bool
  | .tuple [a, b, c] => nameD a && os.any (eqS b) && bodyF ns rs false c
  | _ => false
section
variable {P : Program} {w : World} {K : PySem.W.Frag} {mg : Str → Option Value} {base : Heap} {f : Addr} {fd : FuncData}
abbrev sOwn : Stmt := top 26
abbrev sCho : Stmt := top 27
abbrev sFun : Stmt := top 28
theorem scOwn : FnScope ["value", "rights"] ["value", "rights"] (defScope sOwn) := ⟨rfl, rfl, rfl, by decide +kernel, rfl, by decide +kernel, by decide +kernel⟩
theorem scCho : FnScope ["value", "rights", "right"] ["value", "rights"] (defScope sCho) := ⟨rfl, rfl, rfl, by decide +kernel, rfl, by decide +kernel, by decide +kernel⟩
theorem scFun : FnScope ["value", "owner_names", "names", "rights"] ["value", "owner_names", "names", "rights"] (defScope sFun) := ⟨rfl, rfl, rfl, by decide +kernel, rfl, by decide +kernel, by decide +kernel⟩
structure spCho (K : PySem.W.Frag) (vs : List V) (H : Hp) (Q : VK) (E_ : XK) : Prop where
  mk' ::
  out : ∃ v d pr rs, vs = [v, .ref pr] ∧ Dq K H v d ∧ H pr = some (.lst (rs.map V.str)) ∧ rs.length ≤ 4096 ∧ ∀ H2, Ex H H2 → Q (.bl (choiceF rs d)) H2
theorem ok_cho (F : Fun K "is_choice" "is_choice" sCho f fd) (mL : mg "len" = none) (mI : mg "isinstance" = none) (mLi : mg "list" = none) (mA : mg "all" = none) : FnOk P w K mg base CX0 1 f fd ["value", "rights"] (spCho K) := by
  refine F.ok scCho (fun vs H Q E h => ?_) (fun cdv A outer s H vs Q E hr h => ?_)
  · obtain ⟨_, _, _, _, rfl, _⟩ := h
    rfl
  · obtain ⟨v, d, pr, rs, rfl, hd, hpr, hrl, q⟩ := h
    have hu := hr.units0
    have hu1 : (A.deeper (envOfC "is_choice" (defScope sCho) s.heap.objs.size f cdv)).units + 1 < cLine := Nat.lt_of_le_of_lt (Nat.add_le_add_left (by decide : 1 ≤ 64) _) hr.units
    refine ⟨_, pss_cons (ps_if (PW.pt (pw_or (pt_not (pt_val (pe_callB (isi_S (K := K)) (by rfl) mI PyProof.Rows.boot_isinstance (pa_cons (pv 0) (pa_cons (pe_bltn (v := .ty "list") (by rfl) mLi (by decide +kernel) rfl) pa_nil))))) (pw_or1 (pt_cmpR op_gt (pe_callB call_len_seq (by rfl) mL PySem.boot_len (pa_cons (pv 0) pa_nil)) (pe_callB call_len_seq (by rfl) mL PySem.boot_len (pa_cons (pv 1) pa_nil)) (nomark _))))) (pss_one (ps_ret pe_bl)) pss_nil)
      (pss_one (ps_ret (pe_callB (cr_all rfl) (by rfl) mA (by decide +kernel) (pa_cons (pe_lc (own := [("right", 2)]) (g := gName 2) rfl scCho.nd (pi_list (pv 0))
            (blkOk_by (own := [("right", 2)]) (N := ["value", "rights", "right"]) (sc := defScope sCho) (by decide +kernel))
            (fun _ _ _ _ _ => pg_name (i := 2) scCho.nd rfl (Or.inl rfl)) (fun _ _ _ _ _ => pts_nil)
            (fun _ _ _ _ _ => pe_and (pe_cmpR (op_inTsK (K := K) hu1) (pv 2) (pv 1) (by rfl)) (pe_one (pe_cmpR op_eq (pe_bmK (K := K) PySem.F.plainAttrs_list PySem.F.slot_list_count PySem.F.type_list_count (mt_countSK (K := K) hu1) (pv 0) (pa_cons (pv 2) pa_nil)) pe_int (nomark _))))) pa_nil)))), ?_⟩
    refine ⟨_, rfl, isi_l hd ⟨_, rfl, ?_⟩⟩
    cases hd with
    | @lst a xs ds ha hx =>
      have hl := dqa_len hx
      have hrl2 : (rs.map V.str).length = rs.length := List.length_map ..
      refine ite2 (fun h => Bool.noConfusion h) (fun _ => ⟨_, rfl, a, xs, rfl, .inl (SqL.of ha), _, rfl, pr, _, rfl, .inl (SqL.of hpr), _, _, rfl, rfl, _, rfl, ite2 (fun hg => ?_) (fun hg => ?_)⟩)
      · have hg := of_decide_eq_true hg
        have : ¬ ds.length ≤ rs.length := by omega
        have := q H (Ex.refl H)
        simp only [choiceF, decide_eq_false ‹¬ ds.length ≤ rs.length›, Bool.false_and] at this
        exact this
      · have hg : ds.length ≤ rs.length := by
          have : ¬ ((rs.map V.str).length : Int) < (xs.length : Int) := fun z => hg (decide_eq_true z)
          omega
        simp only [choiceF, decide_eq_true hg, Bool.true_and] at q
        refine ⟨_, rfl, a, rfl, ⟨_, SqL.of ha⟩, fun D nD => ?_⟩
        refine lc_list (K := K) (a := a) (xs := xs) (fun i H' => Ex H H' ∧ H' D = some (.lst (((ds.take i).map fun x => rs.any (eqS x) && onceF ds x).map V.bl))) ?_ (fun i H' _ ⟨x, _⟩ => SqL.of (x _ _ ha)) ?_ ?_
        · exact ⟨Ex.new nD, upd_same⟩
        · rintro i x H' hx' ⟨ex, hD⟩
          obtain ⟨dx, hdx, gx⟩ := dqa_get hx hx'
          have fin : ∀ b : Bool, b = (rs.any (eqS dx) && onceF ds dx) → ∃ acc, H' D = some (.lst acc) ∧ acc.length < sizeLine ∧ Ex H (upd H' D (.lst (acc ++ [.bl b]))) ∧ (upd H' D (.lst (acc ++ [.bl b]))) D = some (.lst (((ds.take (i + 1)).map fun x => rs.any (eqS x) && onceF ds x).map V.bl)) := by
            rintro b rfl
            refine ⟨_, hD, ?_, ?_, ?_⟩
            · rw [List.length_map, List.length_map, List.length_take]
              have e3z : (5000 : Nat) < sizeLine := by decide
              omega
            · intro b o hb
              rw [upd_ne (ne_of_none hb nD)]
              exact ex _ _ hb
            · rw [upd_same, List.take_succ, hdx, List.map_append, List.map_append]
              rfl
          refine ⟨rfl, _, rfl, _, rfl, dx, rs, pr, gx.mono (same_ex ex), rfl, SqL.of (ex _ _ hpr), _, rfl, ite2 (fun hin => ?_) (fun hin => ?_)⟩
          · obtain ⟨z, rfl, hz⟩ := any_str (by simpa using hin)
            cases gx
            refine ⟨_, rfl, .inl ⟨rfl, _, SqL.of (ex _ _ ha)⟩, _, rfl, a, xs, ds, z, rfl, rfl, SqL.of (ex _ _ ha), hx.mono (same_ex ex), rfl, fin _ ?_⟩
            have hin : rs.any (eqS (.str z)) = true := by simpa using hin
            rw [hin]
            simp only [Bool.true_and, onceF, V.int.injEq]
            rw [Bool.eq_iff_iff, decide_eq_true_eq, decide_eq_true_eq]
            omega
          · refine fin _ ?_
            have hin : rs.any (eqS dx) = false := by simpa using hin
            rw [hin]
            rfl
        · rintro H' ⟨ex, hD⟩
          rw [hl, List.take_of_length_le (Nat.le_refl _)] at hD
          refine ⟨D, _, rfl, SqL.of hD, ?_⟩
          have := q H' ex
          rw [List.all_map]
          exact this
    | _ => exact ite2 (fun _ => q H (Ex.refl H)) (fun h => (h rfl).elim)
/-- the first place of a tuple is no endless text -/
def headOk (d : PyData) : Prop := ∀ x r, d = .tuple (x :: r) → strOk x
structure spOwn (K : PySem.W.Frag) (vs : List V) (H : Hp) (Q : VK) (E_ : XK) : Prop where
  mk' ::
  out : ∃ v d pr rs, vs = [v, .ref pr] ∧ Dq K H v d ∧ headOk d ∧ H pr = some (.lst (rs.map V.str)) ∧ rs.length ≤ 4096 ∧ ∀ H2, Ex H H2 → Q (.bl (ownerF rs d)) H2
theorem tp_k {v : V} {d : PyData} {n : Nat} {H : Hp} {Q : VK} {E : XK} (h : Dq K H v d) (q : Q (.bl (tupN n d)) H) : spTp K [v, .int n] H Q E := by

  exact ⟨v, d, n, rfl, h, q⟩
theorem nm_k {v : V} {d : PyData} {H : Hp} {Q : VK} {E : XK} (h : Dq K H v d) (z : strOk d) (q : ∀ H2, Ex H H2 → Q (.bl (nameD d)) H2) : spNm K [v] H Q E := by

  exact ⟨v, d, rfl, h, z, q⟩
theorem cho_k {v : V} {d : PyData} {pr : Addr} {rs : List Str} {H : Hp} {Q : VK} {E : XK} (h : Dq K H v d) (hpr : H pr = some (.lst (rs.map V.str))) (hl : rs.length ≤ 4096) (q : ∀ H2, Ex H H2 → Q (.bl (choiceF rs d)) H2) : spCho K [v, .ref pr] H Q E := by

  exact ⟨v, d, pr, rs, rfl, h, hpr, hl, q⟩
theorem ok_own {fT fN fC : Addr} {fdT fdN fdC : FuncData} (F : Fun K "is_owner" "is_owner" sOwn f fd)
    (FT : FnOk P w K mg base CX0 1 fT fdT ["value", "size"] (spTp K)) (mT : mg "is_tuple_of" = some (.ref fT)) (kT : PySem.W.keepIn K (.ref fT) = true) (bT : Binds K fdT ["value", "size"] [])
    (FN : FnOk P w K mg base CX0 1 fN fdN ["value"] (spNm K)) (mN : mg "is_name" = some (.ref fN)) (kN : PySem.W.keepIn K (.ref fN) = true) (bN : Binds K fdN ["value"] [])
    (FC : FnOk P w K mg base CX0 1 fC fdC ["value", "rights"] (spCho K)) (mC : mg "is_choice" = some (.ref fC)) (kC : PySem.W.keepIn K (.ref fC) = true) (bC : Binds K fdC ["value", "rights"] []) :
    FnOk P w K mg base CX0 2 f fd ["value", "rights"] (spOwn K) := by
  refine F.ok scOwn (fun vs H Q E h => ?_) (fun cdv A outer s H vs Q E hr h => ?_)
  · obtain ⟨_, _, _, _, rfl, _⟩ := h
    rfl
  · obtain ⟨v, d, pr, rs, rfl, hd, hz, hpr, hrl, q⟩ := h
    refine ⟨_, pss_one (ps_ret (pe_and (pe_call FT hr rfl mT kT bT .nil pass0 (pa_cons (pv 0) (pa_cons pe_int pa_nil)))
      (pe_and (pe_call FN hr rfl mN kN bN .nil pass0 (pa_cons (pe_ix ix_tup (pv 0) pe_int (fun _ _ => rfl)) pa_nil))
      (pe_one (pe_call FC hr rfl mC kC bC .nil pass0 (pa_cons (pe_ix ix_tup (pv 0) pe_int (fun _ _ => rfl)) (pa_cons (pv 1) pa_nil))))))), ?_⟩
    refine ⟨_, rfl, tp_k (n := 2) hd ⟨_, rfl, ite2 (fun h2 => ?_) (fun h2 => ?_)⟩⟩
    · obtain ⟨a, b, rfl⟩ : ∃ a b, d = .tuple [a, b] := by
        match d, h2 with
        | .tuple [a, b], _ => exact ⟨a, b, rfl⟩
        | .tuple [], h => cases h
        | .tuple [_], h => cases h
        | .tuple (_ :: _ :: _ :: _), h => simp [tupN] at h
      cases hd with
      | @tup ad xs _ hT hx =>
      cases hx with
      | @cons v0 _ _ _ g0 hx =>
      cases hx with
      | @cons v1 _ _ _ g1 hx =>
      cases hx
      refine ⟨_, rfl, ad, _, 0, v0, rfl, rfl, hT, atI_nat (j := 0) rfl, nm_k g0 (hz _ _ rfl) fun H2 e2 => ⟨_, rfl, ite2 (fun hn => ?_) (fun hn => ?_)⟩⟩
      · refine ⟨_, rfl, ad, _, 1, v1, rfl, rfl, sqt_ex (same_ex e2) hT, atI_nat (j := 1) rfl, _, rfl, cho_k (g1.mono (same_ex e2)) (e2 _ _ hpr) hrl fun H3 e3 => ?_⟩
        have := q H3 (e2.trans e3)
        simp only [ownerF, hn, Bool.true_and] at this
        exact this
      · have := q H2 e2
        have hn : nameD a = false := by simpa using hn
        simp only [ownerF, hn, Bool.false_and] at this
        exact this
    · have := q H (Ex.refl H)
      have e : ownerF rs d = false := by
        match d, h2 with
        | .tuple [a, b], h => exact absurd rfl h
        | .tuple [], _ => rfl
        | .tuple [_], _ => rfl
        | .tuple (_ :: _ :: _ :: _), _ => rfl
        | .none, _ => rfl
        | .bool _, _ => rfl
        | .int _, _ => rfl
        | .str _, _ => rfl
        | .list _, _ => rfl
        | .dict _, _ => rfl
      rw [e] at this
      exact this
structure spFun (K : PySem.W.Frag) (n : Nat) (vs : List V) (H : Hp) (Q : VK) (E_ : XK) : Prop where
  mk' ::
  out : ∃ v d po pn pr os ns rs, vs = [v, .ref po, .ref pn, .ref pr] ∧ Dq K H v d ∧ headOk d ∧ d.depth ≤ n + 1 ∧ H po = some (.lst (os.map V.str)) ∧ H pn = some (.lst (ns.map V.str)) ∧ H pr = some (.lst (rs.map V.str)) ∧ ∀ H2, Ex H H2 → Q (.bl (functionF os ns rs d)) H2
theorem bd_k {v : V} {d : PyData} {pn pr : Addr} {ns rs : List Str} {mk : Bool} {n : Nat} {H : Hp} {Q : VK} {E : XK} (h : Dq K H v d) (hn : d.depth ≤ n) (hpn : H pn = some (.lst (ns.map V.str))) (hpr : H pr = some (.lst (rs.map V.str))) (q : ∀ H2, Ex H H2 → Q (.bl (bodyF ns rs mk d)) H2) :
    spV K bodG (fun _ => True) n [v, .ref pn, .ref pr, .bl mk] H Q E := by

  exact ⟨v, d, pn, pr, ns, rs, mk, rfl, h, hn, trivial, hpn, hpr, q⟩
theorem ok_fun {n : Nat} {fT fN fB : Addr} {fdT fdN fdB : FuncData} (F : Fun K "is_function" "is_function" sFun f fd)
    (FT : FnOk P w K mg base CX0 1 fT fdT ["value", "size"] (spTp K)) (mT : mg "is_tuple_of" = some (.ref fT)) (kT : PySem.W.keepIn K (.ref fT) = true) (bT : Binds K fdT ["value", "size"] [])
    (FN : FnOk P w K mg base CX0 1 fN fdN ["value"] (spNm K)) (mN : mg "is_name" = some (.ref fN)) (kN : PySem.W.keepIn K (.ref fN) = true) (bN : Binds K fdN ["value"] [])
    (FB : FnOk P w K mg base CX0 (3 * n + 4) fB fdB ["value", "names", "rights", "marked"] (spV K bodG (fun _ => True) n)) (mB : mg "is_body" = some (.ref fB)) (kB : PySem.W.keepIn K (.ref fB) = true) (bB : Binds K fdB ["value", "names", "rights", "marked"] [.bool false]) :
    FnOk P w K mg base CX0 (3 * n + 5) f fd ["value", "owner_names", "names", "rights"] (spFun K n) := by
  refine F.ok scFun (fun vs H Q E h => ?_) (fun cdv A outer s H vs Q E hr h => ?_)
  · obtain ⟨_, _, _, _, _, _, _, _, rfl, _⟩ := h
    rfl
  · obtain ⟨v, d, po, pn, pr, os, ns, rs, rfl, hd, hz, hn, hpo, hpn, hpr, q⟩ := h
    have r1 := hr.mono (j := 1) (by omega)
    have hu1 : (A.deeper (envOfC "is_function" (defScope sFun) s.heap.objs.size f cdv)).units + 1 < cLine := Nat.lt_of_le_of_lt (Nat.add_le_add_left (by decide : 1 ≤ 64) _) hr.units
    refine ⟨_, pss_cons (ps_if (PW.pt (pw_or (pt_not (pt_val (pe_call FT r1 rfl mT kT bT .nil pass0 (pa_cons (pv 0) (pa_cons pe_int pa_nil))))) (pw_or (pt_not (pt_val (pe_call FN r1 rfl mN kN bN .nil pass0 (pa_cons (pe_ix ix_tup (pv 0) pe_int (fun _ _ => rfl)) pa_nil)))) (pw_or1 (pt_cmpR (op_notInTs hu1) (pe_ix ix_tup (pv 0) pe_int (fun _ _ => rfl)) (pv 1) (by rfl)))))) (pss_one (ps_ret pe_bl)) pss_nil)
      (pss_one (ps_ret (pe_call (dvs := [.bl false]) FB hr rfl mB kB bB (.cons rfl .nil) pass0 (pa_cons (pe_ix ix_tup (pv 0) pe_int (fun _ _ => rfl)) (pa_cons (pv 2) (pa_cons (pv 3) pa_nil)))))), ?_⟩
    refine ⟨_, rfl, tp_k (n := 3) hd ⟨_, rfl, ite2 (fun h2 => ?_) (fun h2 => ?_)⟩⟩
    · have h2 : tupN 3 d = false := by simpa using h2
      have e : functionF os ns rs d = false := by
        match d, h2 with
        | .tuple [a, b, c], h => cases h
        | .tuple [], _ => rfl
        | .tuple [_], _ => rfl
        | .tuple [_, _], _ => rfl
        | .tuple (_ :: _ :: _ :: _ :: _), _ => rfl
        | .none, _ => rfl
        | .bool _, _ => rfl
        | .int _, _ => rfl
        | .str _, _ => rfl
        | .list _, _ => rfl
        | .dict _, _ => rfl
      have := q H (Ex.refl H)
      rw [e] at this
      exact this
    · have h2 : tupN 3 d = true := by simpa using h2
      obtain ⟨a, b, c, rfl⟩ : ∃ a b c, d = .tuple [a, b, c] := by
        match d, h2 with
        | .tuple [a, b, c], _ => exact ⟨a, b, c, rfl⟩
        | .tuple [], h => cases h
        | .tuple [_], h => cases h
        | .tuple [_, _], h => cases h
        | .tuple (_ :: _ :: _ :: _ :: _), h => simp [tupN] at h
      have hc : c.depth ≤ n := by
        simp only [PyData.depth, PyData.depthAll] at hn
        omega
      cases hd with
      | @tup ad xs _ hT hx =>
      cases hx with
      | @cons v0 _ _ _ g0 hx =>
      cases hx with
      | @cons v1 _ _ _ g1 hx =>
      cases hx with
      | @cons v2 _ _ _ g2 hx =>
      cases hx
      refine ⟨_, rfl, ad, _, 0, v0, rfl, rfl, hT, atI_nat (j := 0) rfl, nm_k g0 (hz _ _ rfl) fun H2 e2 => ⟨_, rfl, ite2 (fun hn => ?_) (fun hn => ?_)⟩⟩
      · have hn : nameD a = false := by simpa using hn
        have := q H2 e2
        simp only [functionF, hn, Bool.false_and] at this
        exact this
      · have hn : nameD a = true := by simpa using hn
        refine ⟨_, rfl, ad, _, 1, v1, rfl, rfl, sqt_ex (same_ex e2) hT, atI_nat (j := 1) rfl, _, rfl, b, os, po, g1.mono (same_ex e2), rfl, SqL.of (e2 _ _ hpo), _, rfl, ite2 (fun hi => ?_) (fun hi => ?_)⟩
        · have hi : os.any (eqS b) = false := by simpa using hi
          have := q H2 e2
          simp only [functionF, hn, hi, Bool.true_and, Bool.false_and] at this
          exact this
        · have hi : os.any (eqS b) = true := by simpa using hi
          refine ⟨_, rfl, ad, _, 2, v2, rfl, rfl, sqt_ex (same_ex e2) hT, atI_nat (j := 2) rfl, _, rfl, _, rfl, bd_k (g2.mono (same_ex e2)) hc (e2 _ _ hpn) (e2 _ _ hpr) fun H3 e3 => ?_⟩
          have := q H3 (e2.trans e3)
          simp only [functionF, hn, hi, Bool.true_and] at this
          exact this
end
end Lx

set_option Elab.async false
set_option maxRecDepth 100000
set_option linter.all false
set_option maxHeartbeats 4000000
namespace Lx
open PySem PySem.Spec PyProof.Rows L2 Evl Kx
section
variable {P : Program} {w : World} {K : PySem.W.Frag} {mg : Str → Option Value} {base : Heap} {f : Addr} {fd : FuncData}
abbrev sSz : Stmt := top 22
abbrev sCkR : Stmt := top 23
theorem scSz : FnScope ["value", "most"] ["value", "most"] (defScope sSz) := ⟨rfl, rfl, rfl, by decide +kernel, rfl, by decide +kernel, by decide +kernel⟩
theorem scCkR : FnScope ["rights", "known", "item"] ["rights"] (defScope sCkR) := ⟨rfl, rfl, rfl, by decide +kernel, rfl, by decide +kernel, by decide +kernel⟩
def sizeF (m : Nat) : PyData → Bool
  | .list ds => decide (1 ≤ ds.length) && decide (ds.length ≤ m)
  | _ => false
/-- refused: C with v -/
def Refuse (H : Hp) (E : XK) (C : Addr) (v : V) : Prop := ∀ H1, Ex H H1 → ∀ d H2, XFly H1 H2 d "value" v → E (.ref C) (some d) H2
structure spSz (K : PySem.W.Frag) (CL : Addr) (vs : List V) (H : Hp) (Q : VK) (E : XK) : Prop where
  mk' ::
  out : ∃ v d m, vs = [v, .int (m : Nat)] ∧ Dq K H v d ∧ (sizeF m d = true → Q .non H) ∧ (sizeF m d = false → Refuse H E CL v)
theorem ok_sz {CL fI : Addr} {fdI : FuncData} (F : Fun K "check_size" "check_size" sSz f fd) (T : XCls P w K mg "InvalidList" "value" CL fI fdI) (mL : mg "len" = none) (mI : mg "isinstance" = none) (mLi : mg "list" = none) :
    FnOk P w K mg base (L2.CX P w) 3 f fd ["value", "most"] (spSz K CL) := by
  refine F.okX scSz (fun vs H Q E h => ?_) (fun cdv A outer s H vs Q E hr h => ?_)
  · obtain ⟨_, _, _, rfl, _⟩ := h
    rfl
  · obtain ⟨v, d, m, rfl, hd, q1, q2⟩ := h
    refine ⟨_, pss_one (ps_if (PW.pt (pw_or (pt_not (pt_val (pe_callB (isi_S (K := K)) (by rfl) mI PyProof.Rows.boot_isinstance (pa_cons (pv 0) (pa_cons (pe_bltn (v := .ty "list") (by rfl) mLi (by decide +kernel) rfl) pa_nil))))) (pw_or1 (pt_not (pt_chain op_le op_le pe_int (pe_callB call_len_seq (by rfl) mL PySem.boot_len (pa_cons (pv 0) pa_nil)) (pv 1))))))
      (pss_one (ps_raiseX rfl rfl (takes_of rfl rfl rfl rfl) T hr (by rfl) (pv 0) (fun σ H Q Q' k ⟨v, h1, h2⟩ => ⟨v, h1, k _ _ h2⟩))) pss_nil), ?_⟩
    have bad : sizeF m d = false → ∀ H1, Ex H H1 → (∀ a, H1 a = none → H a = none) ∧ ∀ d H2, XFly H1 H2 d "value" v → E (.ref CL) (some d) H2 := fun z H1 x => ⟨fun a ha => fresh_back x ha, q2 z H1 x⟩
    refine ⟨_, rfl, isi_l hd ⟨_, rfl, ?_⟩⟩
    cases hd with
    | @lst a xs ds ha hx =>
      have hl := dqa_len hx
      refine ite2 (fun h => Bool.noConfusion h) (fun _ => ⟨_, rfl, a, xs, rfl, .inl (SqL.of ha), _, _, rfl, rfl, _, rfl, ?_⟩)
      refine ite2 (fun h1 => ⟨_, rfl, _, _, rfl, rfl, _, rfl, ite2 (fun h2 => ?_) (fun h2 => ?_)⟩) (fun h1 => ⟨_, rfl, ?_⟩)
      · refine ⟨_, rfl, bad ?_ H (Ex.refl H)⟩
        have h2 : ¬ (ds.length ≤ m) := fun z => by
          have : decide ((xs.length : Int) ≤ (m : Int)) = true := decide_eq_true (by omega)
          rw [this] at h2
          cases h2
        simp only [sizeF, decide_eq_false h2, Bool.and_false]
      · have h1 := of_decide_eq_true h1
        have h2 : ds.length ≤ m := by
          cases y : decide ((xs.length : Int) ≤ (m : Int)) with
          | false => exact (h2 (by rw [y]; rfl)).elim
          | true =>
            have := of_decide_eq_true y
            omega
        have h3 : 1 ≤ ds.length := by omega
        exact q1 (by simp only [sizeF, decide_eq_true h2, decide_eq_true h3, Bool.and_self])
      · refine ite2 (fun _ => ⟨_, rfl, bad ?_ H (Ex.refl H)⟩) (fun z => (z rfl).elim)
        have h1 : ¬ 1 ≤ ds.length := fun z => h1 (decide_eq_true (by omega))
        simp only [sizeF, decide_eq_false h1, Bool.false_and]
    | _ => exact ite2 (fun _ => ⟨_, rfl, bad rfl H (Ex.refl H)⟩) (fun h => (h rfl).elim)
/-- the first right that is refused, behind those that are known -/
def rBad : List Str → List PyData → Option Nat
  | _, [] => none
  | kn, d :: r => if !nameD d || kn.any (eqS d) then some 0 else match d with
    | .str z => (rBad (kn ++ [z]) r).map (· + 1)
    | _ => some 0
theorem name_str {d : PyData} (h : nameD d = true) : ∃ z, d = .str z := by
  cases d with
  | str z => exact ⟨z, rfl⟩
  | _ => cases h
structure spCkR (K : PySem.W.Frag) (CL CI : Addr) (vs : List V) (H : Hp) (Q : VK) (E : XK) : Prop where
  mk' ::
  out : ∃ v d, vs = [v] ∧ Dq K H v d ∧ (∀ ds, d = .list ds → ∀ x ∈ ds, strOk x) ∧ (sizeF 5 d = false → Refuse H E CL v) ∧
  (∀ a xs ds, v = .ref a → H a = some (.lst xs) → d = .list ds → sizeF 5 d = true → (rBad [] ds = none → ∀ H2, Ex H H2 → Q .non H2) ∧ (∀ i x, rBad [] ds = some i → xs[i]? = some x → Refuse H E CI x))
theorem sz_k {v : V} {d : PyData} {m : Nat} {CL : Addr} {H : Hp} {Q : VK} {E : XK} (h : Dq K H v d) (q1 : sizeF m d = true → Q .non H) (q2 : sizeF m d = false → Refuse H E CL v) : spSz K CL [v, .int m] H Q E := by

  exact ⟨v, d, m, rfl, h, q1, q2⟩
theorem ok_ckR {CL CI fI fI2 fS fN : Addr} {fdI fdI2 fdS fdN : FuncData} (F : Fun K "check_rights" "check_rights" sCkR f fd) (TI : XCls P w K mg "InvalidItem" "value" CI fI2 fdI2)
    (FS : FnOk P w K mg base (L2.CX P w) 3 fS fdS ["value", "most"] (spSz K CL)) (mS : mg "check_size" = some (.ref fS)) (kS : PySem.W.keepIn K (.ref fS) = true) (bS : Binds K fdS ["value", "most"] [])
    (FN : FnOk P w K mg base CX0 1 fN fdN ["value"] (spNm K)) (mN : mg "is_name" = some (.ref fN)) (kN : PySem.W.keepIn K (.ref fN) = true) (bN : Binds K fdN ["value"] [])
    {tn : Value} (mM : mg "MOST_RIGHTS" = some tn) (rM : RelV (.int 5) tn) :
    FnOk P w K mg base (L2.CX P w) 4 f fd ["rights"] (spCkR K CL CI) := by
  refine F.okX scCkR (fun vs H Q E h => ?_) (fun cdv A outer s H vs Q E hr h => ?_)
  · obtain ⟨_, _, rfl, _⟩ := h
    rfl
  · obtain ⟨v, d, rfl, hd, hz, q1, q2⟩ := h
    have r1 := hr.mono (j := 1) (by decide)
    have r2 := hr.mono (j := 2) (by decide)
    have hu1 : (A.deeper (envOfC "check_rights" (defScope sCkR) s.heap.objs.size f cdv)).units + 1 < cLine := Nat.lt_of_le_of_lt (Nat.add_le_add_left (by decide : 1 ≤ 64) _) hr.units
    refine ⟨_, pss_cons (ps_expr (pe_callS FS hr (by rfl) mS kS bS (fun σ => passAt (takes_of rfl rfl rfl rfl) σ) (pa_cons (pv 0) (pa_cons (pe_glob (by rfl) mM rM) pa_nil))))
      (pss_cons (ps_set (i := 1) scCkR.nd rfl (Or.inl rfl) (pe_lst pa_nil))
      (pss_one (ps_for (passes_of rfl) rfl (pi_list (pv 0)) (pg_name (i := 2) scCkR.nd rfl (Or.inl rfl))
        (pss_cons (ps_if (PW.pt (pw_or (pt_not (pt_val (pe_call FN r1 rfl mN kN bN .nil pass0 (pa_cons (pv 2) pa_nil)))) (pw_or1 (pt_cmpR (op_inTs hu1) (pv 2) (pv 1) (by rfl)))))
          (pss_one (ps_raiseX rfl rfl (takes_of rfl rfl rfl rfl) TI r2 (by rfl) (pv 2) (fun σ H Q Q' k ⟨v, h1, h2⟩ => ⟨v, h1, k _ _ h2⟩))) pss_nil)
        (pss_one (ps_expr (pe_bm PySem.F.plainAttrs_list PySem.F.slot_list_append PySem.F.type_list_append mt_append (pv 1) (pa_cons (pv 2) pa_nil)))))))), ?_⟩
    refine ⟨_, rfl, sz_k (m := 5) hd (fun hs => ?_) q1⟩
    cases hd with
    | @lst a xs ds ha hx =>
      obtain ⟨qo, qb⟩ := q2 a xs ds rfl ha rfl hs
      have hz := hz ds rfl
      have h5 : ds.length ≤ 5 := by
        simp only [sizeF, Bool.and_eq_true, decide_eq_true_eq] at hs
        exact hs.2
      have hl := dqa_len hx
      refine ⟨by show 0 ≤ sizeLine; decide, fun pk npk => ?_⟩
      have e0 : Ex H (upd H pk (.lst [])) := Ex.new npk
      refine ⟨_, rfl, a, rfl, ⟨_, SqL.of (e0 _ _ ha)⟩, ?_⟩
      refine for_list (K := K) (a := a) (xs := xs) (fun i σ H' => ∃ (t : Option V) (kn : List Str), σ = [some (.ref a), some (.ref pk), t] ∧ Ex H H' ∧ H' pk = some (.lst (kn.map V.str)) ∧ kn.length = i ∧ rBad [] ds = (rBad kn (ds.drop i)).map (· + i)) ?_ (fun i σ H' _ ⟨_, _, _, x, _⟩ => SqL.of (x _ _ ha)) ?_ ?_
      · exact ⟨none, [], rfl, e0, upd_same, rfl, by rw [List.drop_zero]; cases rBad [] ds <;> rfl⟩
      · rintro i x σ H' hi ⟨t, kn, rfl, ex, hk, hkl, hb⟩
        obtain ⟨dx, hdx, gx⟩ := dqa_get hx hi
        have hil := (List.getElem?_eq_some_iff.mp hdx).1
        have hdr : ds.drop i = dx :: ds.drop (i + 1) := by
          rw [List.drop_eq_getElem_cons hil]
          congr 1
          exact (List.getElem?_eq_some_iff.mp hdx).2
        rw [hdr] at hb
        have bad : (!nameD dx || kn.any (eqS dx)) = true → ∀ H1, Ex H' H1 → (∀ b, H1 b = none → H b = none) ∧ ∀ d H2, XFly H1 H2 d "value" x → E (.ref CI) (some d) H2 := fun z H1 x1 => by
          simp only [rBad, z, if_true, Option.map_some, Nat.zero_add] at hb
          exact ⟨fun b hb' => fresh_back (ex.trans x1) hb', qb i x hb hi H1 (ex.trans x1)⟩
        refine ⟨_, rfl, nm_k (gx.mono (same_ex ex)) (hz dx (List.mem_of_getElem? hdx)) fun H2 e2 => ⟨_, rfl, ite2 (fun hn => ?_) (fun hn => ?_)⟩⟩
        · exact ⟨_, rfl, bad (by rw [hn]; rfl) H2 e2⟩
        · have hn : nameD dx = true := by simpa using hn
          refine ⟨_, rfl, _, rfl, dx, kn, pk, gx.mono (same_ex (ex.trans e2)), rfl, SqL.of (e2 _ _ hk), _, rfl, ite2 (fun hin => ?_) (fun hin => ?_)⟩
          · have hin : kn.any (eqS dx) = true := by simpa using hin
            exact ⟨_, rfl, bad (by rw [hin, Bool.or_true]) H2 e2⟩
          · have hin : kn.any (eqS dx) = false := by simpa using hin
            obtain ⟨z, rfl⟩ := name_str hn
            cases gx
            have e3z : (5000 : Nat) < sizeLine := by decide
            refine ⟨_, rfl, .inl ⟨rfl, _, SqL.of (e2 _ _ hk)⟩, _, rfl, pk, _, .str z, rfl, rfl, e2 _ _ hk, by rw [List.length_map]; omega, _, kn ++ [z], rfl, ?_, ?_, ?_, ?_⟩
            · intro b o hb'
              rw [upd_ne (ne_of_none hb' npk)]
              exact e2 _ _ (ex _ _ hb')
            · rw [upd_same, List.map_append]
              rfl
            · rw [List.length_append, hkl]
              rfl
            · rw [hb]
              have : rBad kn (.str z :: ds.drop (i + 1)) = (rBad (kn ++ [z]) (ds.drop (i + 1))).map (· + 1) := by
                simp only [rBad, hn, hin, Bool.not_true, Bool.or_self, Bool.false_eq_true, if_false]
              rw [this, Option.map_map]
              congr 1
              funext k
              show k + 1 + i = k + (i + 1)
              omega
      · rintro σ H' ⟨t, kn, rfl, ex, hk, hkl, hb⟩
        rw [hl, List.drop_of_length_le (Nat.le_refl _)] at hb
        exact qo (by rw [hb]; rfl) H' ex
    | _ => cases hs
end
end Lx

set_option Elab.async false
set_option maxRecDepth 100000
set_option linter.all false
set_option maxHeartbeats 4000000
namespace Lx
open PySem PySem.Spec PyProof.Rows L2 Evl Kx
section
variable {P : Program} {w : World} {K : PySem.W.Frag} {mg : Str → Option Value} {base : Heap} {f : Addr} {fd : FuncData}
abbrev sCkO : Stmt := top 24
theorem scCkO : FnScope ["owners", "rights", "known", "item"] ["owners", "rights"] (defScope sCkO) := ⟨rfl, rfl, rfl, by decide +kernel, rfl, by decide +kernel, by decide +kernel⟩
/-- the text at the first place of a tuple -/
def headS : PyData → Str
  | .tuple (.str z :: _) => z
  | _ => ""
/-- the first owner that is refused, behind those that are known -/
def oBad (rs : List Str) : List Str → List PyData → Option Nat
  | _, [] => none
  | kn, d :: r => if !ownerF rs d || kn.any (eqS (.str (headS d))) then some 0 else (oBad rs (kn ++ [headS d]) r).map (· + 1)
theorem owner_head {rs : List Str} {d : PyData} (h : ownerF rs d = true) : ∃ z b, d = .tuple [.str z, b] := by
  match d, h with
  | .tuple [.str z, b], _ => exact ⟨z, b, rfl⟩
  | .tuple [], h => cases h
  | .tuple [_], h => cases h
  | .tuple (_ :: _ :: _ :: _), h => simp [ownerF] at h
structure spCkO (K : PySem.W.Frag) (CL CI : Addr) (vs : List V) (H : Hp) (Q : VK) (E : XK) : Prop where
  mk' ::
  out : ∃ v d pr rs, vs = [v, .ref pr] ∧ Dq K H v d ∧ H pr = some (.lst (rs.map V.str)) ∧ rs.length ≤ 4096 ∧ (∀ ds, d = .list ds → ∀ x ∈ ds, headOk x) ∧ (sizeF 5 d = false → Refuse H E CL v) ∧
  (∀ a xs ds, v = .ref a → H a = some (.lst xs) → d = .list ds → sizeF 5 d = true → (oBad rs [] ds = none → ∀ H2, Ex H H2 → Q .non H2) ∧ (∀ i x, oBad rs [] ds = some i → xs[i]? = some x → Refuse H E CI x))
theorem own_k {v : V} {d : PyData} {pr : Addr} {rs : List Str} {H : Hp} {Q : VK} {E : XK} (h : Dq K H v d) (hz : headOk d) (hpr : H pr = some (.lst (rs.map V.str))) (hl : rs.length ≤ 4096) (q : ∀ H2, Ex H H2 → Q (.bl (ownerF rs d)) H2) : spOwn K [v, .ref pr] H Q E := by

  exact ⟨v, d, pr, rs, rfl, h, hz, hpr, hl, q⟩
theorem ok_ckO {CL CI fI2 fS fO : Addr} {fdI2 fdS fdO : FuncData} (F : Fun K "check_owners" "check_owners" sCkO f fd) (TI : XCls P w K mg "InvalidItem" "value" CI fI2 fdI2)
    (FS : FnOk P w K mg base (L2.CX P w) 3 fS fdS ["value", "most"] (spSz K CL)) (mS : mg "check_size" = some (.ref fS)) (kS : PySem.W.keepIn K (.ref fS) = true) (bS : Binds K fdS ["value", "most"] [])
    (FO : FnOk P w K mg base CX0 2 fO fdO ["value", "rights"] (spOwn K)) (mO : mg "is_owner" = some (.ref fO)) (kO : PySem.W.keepIn K (.ref fO) = true) (bO : Binds K fdO ["value", "rights"] [])
    {tn : Value} (mM : mg "MOST_OWNERS" = some tn) (rM : RelV (.int 5) tn) :
    FnOk P w K mg base (L2.CX P w) 4 f fd ["owners", "rights"] (spCkO K CL CI) := by
  refine F.okX scCkO (fun vs H Q E h => ?_) (fun cdv A outer s H vs Q E hr h => ?_)
  · obtain ⟨_, _, _, _, rfl, _⟩ := h
    rfl
  · obtain ⟨v, d, pr, rs, rfl, hd, hpr, hrl, hz, q1, q2⟩ := h
    have r2 := hr.mono (j := 2) (by decide)
    have hu1 : (A.deeper (envOfC "check_owners" (defScope sCkO) s.heap.objs.size f cdv)).units + 1 < cLine := Nat.lt_of_le_of_lt (Nat.add_le_add_left (by decide : 1 ≤ 64) _) hr.units
    refine ⟨_, pss_cons (ps_expr (pe_callS FS hr (by rfl) mS kS bS (fun σ => passAt (takes_of rfl rfl rfl rfl) σ) (pa_cons (pv 0) (pa_cons (pe_glob (by rfl) mM rM) pa_nil))))
      (pss_cons (ps_set (i := 2) scCkO.nd rfl (Or.inl rfl) (pe_lst pa_nil))
      (pss_one (ps_for (passes_of rfl) rfl (pi_list (pv 0)) (pg_name (i := 3) scCkO.nd rfl (Or.inl rfl))
        (pss_cons (ps_if (PW.pt (pw_or (pt_not (pt_val (pe_call FO r2 rfl mO kO bO .nil pass0 (pa_cons (pv 3) (pa_cons (pv 1) pa_nil))))) (pw_or1 (pt_cmpR (op_inTs hu1) (pe_ix ix_tup (pv 3) pe_int (fun _ _ => rfl)) (pv 2) (by rfl)))))
          (pss_one (ps_raiseX rfl rfl (takes_of rfl rfl rfl rfl) TI r2 (by rfl) (pv 3) (fun σ H Q Q' k ⟨v, h1, h2⟩ => ⟨v, h1, k _ _ h2⟩))) pss_nil)
        (pss_one (ps_expr (pe_bm PySem.F.plainAttrs_list PySem.F.slot_list_append PySem.F.type_list_append mt_append (pv 2) (pa_cons (pe_ix ix_tup (pv 3) pe_int (fun _ _ => rfl)) pa_nil)))))))), ?_⟩
    refine ⟨_, rfl, sz_k (m := 5) hd (fun hs => ?_) q1⟩
    cases hd with
    | @lst a xs ds ha hx =>
      obtain ⟨qo, qb⟩ := q2 a xs ds rfl ha rfl hs
      have hz := hz ds rfl
      have h5 : ds.length ≤ 5 := by
        simp only [sizeF, Bool.and_eq_true, decide_eq_true_eq] at hs
        exact hs.2
      have hl := dqa_len hx
      refine ⟨by show 0 ≤ sizeLine; decide, fun pk npk => ?_⟩
      have e0 : Ex H (upd H pk (.lst [])) := Ex.new npk
      refine ⟨_, rfl, a, rfl, ⟨_, SqL.of (e0 _ _ ha)⟩, ?_⟩
      refine for_list (K := K) (a := a) (xs := xs) (fun i σ H' => ∃ (t : Option V) (kn : List Str), σ = [some (.ref a), some (.ref pr), some (.ref pk), t] ∧ Ex H H' ∧ H' pk = some (.lst (kn.map V.str)) ∧ kn.length = i ∧ oBad rs [] ds = (oBad rs kn (ds.drop i)).map (· + i)) ?_ (fun i σ H' _ ⟨_, _, _, x, _⟩ => SqL.of (x _ _ ha)) ?_ ?_
      · exact ⟨none, [], rfl, e0, upd_same, rfl, by rw [List.drop_zero]; cases oBad rs [] ds <;> rfl⟩
      · rintro i x σ H' hi ⟨t, kn, rfl, ex, hk, hkl, hb⟩
        obtain ⟨dx, hdx, gx⟩ := dqa_get hx hi
        have hil := (List.getElem?_eq_some_iff.mp hdx).1
        have hdr : ds.drop i = dx :: ds.drop (i + 1) := by
          rw [List.drop_eq_getElem_cons hil]
          congr 1
          exact (List.getElem?_eq_some_iff.mp hdx).2
        rw [hdr] at hb
        have bad : (!ownerF rs dx || kn.any (eqS (.str (headS dx)))) = true → ∀ H1, Ex H' H1 → (∀ b, H1 b = none → H b = none) ∧ ∀ d H2, XFly H1 H2 d "value" x → E (.ref CI) (some d) H2 := fun z H1 x1 => by
          simp only [oBad, z, if_true, Option.map_some, Nat.zero_add] at hb
          exact ⟨fun b hb' => fresh_back (ex.trans x1) hb', qb i x hb hi H1 (ex.trans x1)⟩
        refine ⟨_, rfl, _, rfl, own_k (gx.mono (same_ex ex)) (hz dx (List.mem_of_getElem? hdx)) (ex _ _ hpr) hrl fun H2 e2 => ⟨_, rfl, ite2 (fun hn => ?_) (fun hn => ?_)⟩⟩
        · exact ⟨_, rfl, bad (by rw [hn]; rfl) H2 e2⟩
        · have hn : ownerF rs dx = true := by simpa using hn
          obtain ⟨z, b2, rfl⟩ := owner_head hn
          have gx2 := gx
          cases gx with
          | @tup ad ys _ hT hy =>
          cases hy with
          | @cons v0 _ _ _ g0 hy =>
          cases g0
          have hT2 := sqt_ex (same_ex (ex.trans e2)) hT
          refine ⟨_, rfl, ad, _, 0, .str z, rfl, rfl, hT2, atI_nat (j := 0) rfl, _, rfl, .str z, kn, pk, .str z, rfl, SqL.of (e2 _ _ hk), _, rfl, ite2 (fun hin => ?_) (fun hin => ?_)⟩
          · have hin : kn.any (eqS (.str z)) = true := by simpa using hin
            exact ⟨_, rfl, bad (by show (_ || kn.any (eqS (.str z))) = true; rw [hin, Bool.or_true]) H2 e2⟩
          · have hin : kn.any (eqS (.str z)) = false := by simpa using hin
            have e3z : (5000 : Nat) < sizeLine := by decide
            refine ⟨_, rfl, .inl ⟨rfl, _, SqL.of (e2 _ _ hk)⟩, _, rfl, ad, _, 0, .str z, rfl, rfl, hT2, atI_nat (j := 0) rfl, pk, _, .str z, rfl, rfl, e2 _ _ hk, by rw [List.length_map]; omega, _, kn ++ [z], rfl, ?_, ?_, ?_, ?_⟩
            · intro b o hb'
              rw [upd_ne (ne_of_none hb' npk)]
              exact e2 _ _ (ex _ _ hb')
            · rw [upd_same, List.map_append]
              rfl
            · rw [List.length_append, hkl]
              rfl
            · rw [hb]
              have : oBad rs kn (.tuple [.str z, b2] :: ds.drop (i + 1)) = (oBad rs (kn ++ [z]) (ds.drop (i + 1))).map (· + 1) := by
                simp only [oBad, headS, hn, hin, Bool.not_true, Bool.or_self, Bool.false_eq_true, if_false]
              rw [this, Option.map_map]
              congr 1
              funext k
              show k + 1 + i = k + (i + 1)
              omega
      · rintro σ H' ⟨t, kn, rfl, ex, hk, hkl, hb⟩
        rw [hl, List.drop_of_length_le (Nat.le_refl _)] at hb
        exact qo (by rw [hb]; rfl) H' ex
    | _ => cases hs
end
end Lx

set_option Elab.async false
set_option maxRecDepth 100000
set_option linter.all false
set_option maxHeartbeats 4000000
namespace Lx
open PySem PySem.Spec PyProof.Rows L2 Evl Kx
section
variable {P : Program} {w : World} {K : PySem.W.Frag} {mg : Str → Option Value} {base : Heap} {f : Addr} {fd : FuncData}
abbrev sCkF : Stmt := top 25
theorem scCkF : FnScope ["functions", "owners", "rights", "names", "owner_names", "known", "item", "owner"] ["functions", "owners", "rights"] (defScope sCkF) := ⟨rfl, rfl, rfl, by decide +kernel, rfl, by decide +kernel, by decide +kernel⟩
def nmd (d : PyData) : Bool := tupN 3 d && (match d with
  | .tuple (x :: _) => nameD x
  | _ => false)
def namesF (ds : List PyData) : List Str := (ds.filter nmd).map headS
def fBad (os ns rs : List Str) : List Str → List PyData → Option Nat
  | _, [] => none
  | kn, d :: r => if !functionF os ns rs d || kn.any (eqS (.str (headS d))) then some 0 else (fBad os ns rs (kn ++ [headS d]) r).map (· + 1)
theorem function_head {os ns rs : List Str} {d : PyData} (h : functionF os ns rs d = true) : ∃ z b c, d = .tuple [.str z, b, c] := by
  match d, h with
  | .tuple [.str z, b, c], _ => exact ⟨z, b, c, rfl⟩
  | .tuple [], h => cases h
  | .tuple [_], h => cases h
  | .tuple [_, _], h => cases h
  | .tuple (_ :: _ :: _ :: _ :: _), h => simp [functionF] at h
structure spCkF (K : PySem.W.Frag) (n : Nat) (CL CI : Addr) (vs : List V) (H : Hp) (Q : VK) (E : XK) : Prop where
  mk' ::
  out : ∃ (v : V) (d : PyData) (po pr : Addr) (os : List Own) (rs : List Str), vs = [v, .ref po, .ref pr] ∧ Dq K H v d ∧ Dq K H (.ref po) (.list (os.map ownD)) ∧ os.length ≤ 4096 ∧ H pr = some (.lst (rs.map V.str)) ∧ (∀ ds, d = .list ds → ∀ x ∈ ds, headOk x ∧ x.depth ≤ n + 1) ∧ (sizeF 6 d = false → Refuse H E CL v) ∧
  (∀ a xs ds, v = .ref a → H a = some (.lst xs) → d = .list ds → sizeF 6 d = true → (fBad (os.map (·.1)) (namesF ds) rs [] ds = none → ∀ H2, Ex H H2 → Q .non H2) ∧ (∀ i x, fBad (os.map (·.1)) (namesF ds) rs [] ds = some i → xs[i]? = some x → Refuse H E CI x))
theorem fun_k {v : V} {d : PyData} {po pn pr : Addr} {os ns rs : List Str} {n : Nat} {H : Hp} {Q : VK} {E : XK} (h : Dq K H v d) (hz : headOk d) (hn : d.depth ≤ n + 1) (hpo : H po = some (.lst (os.map V.str))) (hpn : H pn = some (.lst (ns.map V.str))) (hpr : H pr = some (.lst (rs.map V.str)))
    (q : ∀ H2, Ex H H2 → Q (.bl (functionF os ns rs d)) H2) : spFun K n [v, .ref po, .ref pn, .ref pr] H Q E := by

  exact ⟨v, d, po, pn, pr, os, ns, rs, rfl, h, hz, hn, hpo, hpn, hpr, q⟩
theorem ok_ckF {n : Nat} {CL CI fI2 fS fF fT fN : Addr} {fdI2 fdS fdF fdT fdN : FuncData} (F : Fun K "check_functions" "check_functions" sCkF f fd) (TI : XCls P w K mg "InvalidItem" "value" CI fI2 fdI2)
    (FS : FnOk P w K mg base (L2.CX P w) 3 fS fdS ["value", "most"] (spSz K CL)) (mS : mg "check_size" = some (.ref fS)) (kS : PySem.W.keepIn K (.ref fS) = true) (bS : Binds K fdS ["value", "most"] [])
    (FF : FnOk P w K mg base CX0 (3 * n + 5) fF fdF ["value", "owner_names", "names", "rights"] (spFun K n)) (mF : mg "is_function" = some (.ref fF)) (kF : PySem.W.keepIn K (.ref fF) = true) (bF : Binds K fdF ["value", "owner_names", "names", "rights"] [])
    (FT : FnOk P w K mg base CX0 1 fT fdT ["value", "size"] (spTp K)) (mT : mg "is_tuple_of" = some (.ref fT)) (kT : PySem.W.keepIn K (.ref fT) = true) (bT : Binds K fdT ["value", "size"] [])
    (FN : FnOk P w K mg base CX0 1 fN fdN ["value"] (spNm K)) (mN : mg "is_name" = some (.ref fN)) (kN : PySem.W.keepIn K (.ref fN) = true) (bN : Binds K fdN ["value"] [])
    {tn : Value} (mM : mg "MOST_FUNCTIONS" = some tn) (rM : RelV (.int 6) tn) :
    FnOk P w K mg base (L2.CX P w) (3 * n + 6) f fd ["functions", "owners", "rights"] (spCkF K n CL CI) := by
  refine F.okX scCkF (fun vs H Q E h => ?_) (fun cdv A outer s H vs Q E hr h => ?_)
  · obtain ⟨_, _, _, _, _, _, rfl, _⟩ := h
    rfl
  · obtain ⟨v, d, po, pr, os, rs, rfl, hd, ho, hol, hpr, hz, q1, q2⟩ := h
    have r3 := hr.mono (j := 3) (by omega)
    have r2 := hr.mono (j := 2) (by omega)
    have r1 := hr.mono (j := 1) (by omega)
    have hu1 : (A.deeper (envOfC "check_functions" (defScope sCkF) s.heap.objs.size f cdv)).units + 1 < cLine := Nat.lt_of_le_of_lt (Nat.add_le_add_left (by decide : 1 ≤ 64) _) hr.units
    refine ⟨_, pss_cons (ps_expr (pe_callS FS r3 (by rfl) mS kS bS (fun σ => passAt (takes_of rfl rfl rfl rfl) σ) (pa_cons (pv 0) (pa_cons (pe_glob (by rfl) mM rM) pa_nil))))
      (pss_cons (ps_setLc (i := 3) (own := [("item", 6)]) (g := gName 6) rfl scCkF.nd rfl rfl (sw_true rfl rfl rfl (by decide +kernel)) (pi_list (pv 0))
            (blkOk_by (own := [("item", 6)]) (N := ["functions", "owners", "rights", "names", "owner_names", "known", "item", "owner"]) (sc := defScope sCkF) (by decide +kernel))
            (fun _ _ _ _ _ => pg_name (i := 6) scCkF.nd rfl (Or.inl rfl)) (fun _ _ _ _ _ => pts_one (PW.pt (pw_and (pt_val (pe_call FT r1 rfl mT kT bT .nil pass0 (pa_cons (pv 6) (pa_cons pe_int pa_nil)))) (pw_and1 (pt_val (pe_call FN r1 rfl mN kN bN .nil pass0 (pa_cons (pe_ix (ixT_K (K := K)) (pv 6) pe_int (fun _ _ => rfl)) pa_nil)))))))
            (fun _ _ _ _ _ => pe_ix (ixT_K (K := K)) (pv 6) pe_int (fun _ _ => rfl)))
      (pss_cons (ps_setLc (i := 4) (own := [("owner", 7)]) (g := gName 7) rfl scCkF.nd rfl rfl (sw_true rfl rfl rfl (by decide +kernel)) (pi_list (pv 1))
            (blkOk_by (own := [("owner", 7)]) (N := ["functions", "owners", "rights", "names", "owner_names", "known", "item", "owner"]) (sc := defScope sCkF) (by decide +kernel))
            (fun _ _ _ _ _ => pg_name (i := 7) scCkF.nd rfl (Or.inl rfl)) (fun _ _ _ _ _ => pts_nil)
            (fun _ _ _ _ _ => pe_ix (ixT_K (K := K)) (pv 7) pe_int (fun _ _ => rfl)))
      (pss_cons (ps_set (i := 5) scCkF.nd rfl (Or.inl rfl) (pe_lst pa_nil))
      (pss_one (ps_for (passes_of rfl) rfl (pi_list (pv 0)) (pg_name (i := 6) scCkF.nd rfl (Or.inl rfl))
        (pss_cons (ps_if (PW.pt (pw_or (pt_not (pt_val (pe_call FF hr rfl mF kF bF .nil pass0 (pa_cons (pv 6) (pa_cons (pv 4) (pa_cons (pv 3) (pa_cons (pv 2) pa_nil))))))) (pw_or1 (pt_cmpR (op_inTs hu1) (pe_ix ix_tup (pv 6) pe_int (fun _ _ => rfl)) (pv 5) (by rfl)))))
          (pss_one (ps_raiseX rfl rfl (takes_of rfl rfl rfl rfl) TI r2 (by rfl) (pv 6) (fun σ H Q Q' k ⟨v, h1, h2⟩ => ⟨v, h1, k _ _ h2⟩))) pss_nil)
        (pss_one (ps_expr (pe_bm PySem.F.plainAttrs_list PySem.F.slot_list_append PySem.F.type_list_append mt_append (pv 5) (pa_cons (pe_ix ix_tup (pv 6) pe_int (fun _ _ => rfl)) pa_nil)))))))))), ?_⟩
    refine ⟨_, rfl, sz_k (m := 6) hd (fun hs => ?_) q1⟩
    cases hd with
    | @lst a xs ds ha hx =>
      obtain ⟨qo, qb⟩ := q2 a xs ds rfl ha rfl hs
      have hz := hz ds rfl
      have h5 : ds.length ≤ 6 := by
        simp only [sizeF, Bool.and_eq_true, decide_eq_true_eq] at hs
        exact hs.2
      have hl := dqa_len hx
      have e3z : (5000 : Nat) < sizeLine := by decide
      refine ⟨_, rfl, a, rfl, ⟨_, SqL.of ha⟩, fun pn npn => ?_⟩
      refine lc_list (K := K) (a := a) (xs := xs) (fun i H' => Ex H H' ∧ H' pn = some (.lst ((namesF (ds.take i)).map V.str))) ?_ (fun i H' _ ⟨x, _⟩ => SqL.of (x _ _ ha)) ?_ ?_
      · exact ⟨Ex.new npn, upd_same⟩
      · rintro i x H' hi ⟨ex, hD⟩
        obtain ⟨dx, hdx, gx⟩ := dqa_get hx hi
        have tk : ds.take (i + 1) = ds.take i ++ [dx] := by
          rw [List.take_succ, hdx]
          rfl
        have hlen : ((namesF (ds.take i)).map V.str).length < sizeLine := by
          rw [List.length_map, namesF, List.length_map]
          have := List.length_filter_le nmd (ds.take i)
          rw [List.length_take] at this
          omega
        refine ⟨rfl, _, rfl, tp_k (n := 3) (gx.mono (same_ex ex)) ⟨_, rfl, ite2 (fun h3 => ?_) (fun h3 => ?_)⟩⟩
        · obtain ⟨a', b', c', rfl⟩ : ∃ a b c, dx = .tuple [a, b, c] := by
            match dx, h3 with
            | .tuple [a, b, c], _ => exact ⟨a, b, c, rfl⟩
            | .tuple [], h => cases h
            | .tuple [_], h => cases h
            | .tuple [_, _], h => cases h
            | .tuple (_ :: _ :: _ :: _ :: _), h => simp [tupN] at h
          have hz1 := (hz _ (List.mem_of_getElem? hdx)).1
          cases gx with
          | @tup ad ys _ hT hy =>
          cases hy with
          | @cons v0 _ _ _ g0 hy =>
          have hT2 := sqt_ex (same_ex ex) hT
          refine ⟨_, rfl, ad, _, 0, v0, rfl, rfl, hT2, atI_nat (j := 0) rfl, nm_k (g0.mono (same_ex ex)) (hz1 _ _ rfl) fun H2 e2 => ⟨_, rfl, ite2 (fun hn => ?_) (fun hn => ?_)⟩⟩
          · obtain ⟨z, rfl⟩ := name_str hn
            cases g0
            refine ⟨_, rfl, ad, _, 0, .str z, rfl, rfl, sqt_ex (same_ex e2) hT2, atI_nat (j := 0) rfl, _, e2 _ _ hD, hlen, ?_, ?_⟩
            · intro b o hb
              rw [upd_ne (ne_of_none hb npn)]
              exact e2 _ _ (ex _ _ hb)
            · have : namesF (ds.take i ++ [.tuple [.str z, b', c']]) = namesF (ds.take i) ++ [z] := by
                simp only [namesF, List.filter_append, List.map_append]
                congr 1
                have : nmd (.tuple [.str z, b', c']) = true := hn
                rw [List.filter_cons_of_pos this]
                rfl
              rw [upd_same, tk, this, List.map_append]
              rfl
          · have hn : nameD a' = false := by simpa using hn
            have : namesF (ds.take i ++ [.tuple [a', b', c']]) = namesF (ds.take i) := by
              simp only [namesF, List.filter_append, List.map_append]
              have : nmd (.tuple [a', b', c']) = false := hn
              rw [List.filter_cons_of_neg (by rw [this]; exact Bool.false_ne_true)]
              simp only [List.filter_nil, List.map_nil, List.append_nil]
            rw [tk, this]
            exact ⟨ex.trans e2, e2 _ _ hD⟩
        · have h3 : tupN 3 dx = false := by simpa using h3
          have : namesF (ds.take i ++ [dx]) = namesF (ds.take i) := by
            simp only [namesF, List.filter_append, List.map_append]
            have : nmd dx = false := by unfold nmd; rw [h3, Bool.false_and]
            rw [List.filter_cons_of_neg (by rw [this]; exact Bool.false_ne_true)]
            simp only [List.filter_nil, List.map_nil, List.append_nil]
          rw [tk, this]
          exact ite2 (fun h => Bool.noConfusion h) (fun _ => ⟨ex, hD⟩)
      · rintro H1 ⟨e1, hpn⟩
        rw [hl, List.take_of_length_le (Nat.le_refl _)] at hpn
        have ho1 := ho.mono (same_ex e1)
        cases ho with
        | @lst _ oxs _ hpo hox =>
        refine ⟨_, rfl, po, rfl, ⟨_, SqL.of (e1 _ _ hpo)⟩, fun pw npw => ?_⟩
        refine lc_list (K := K) (a := po) (xs := oxs) (fun i H' => Ex H1 H' ∧ H' pw = some (.lst (((os.map (·.1)).take i).map V.str))) ?_ (fun i H' _ ⟨x, _⟩ => SqL.of (x _ _ (e1 _ _ hpo))) ?_ ?_
        · exact ⟨Ex.new npw, upd_same⟩
        · rintro i x H' hi ⟨ex, hD⟩
          obtain ⟨od, hod, gx⟩ := dqa_get hox hi
          rw [List.getElem?_map] at hod
          obtain ⟨ow, how, rfl⟩ : ∃ ow, os[i]? = some ow ∧ od = ownD ow := by
            cases hy : os[i]? with
            | none => rw [hy] at hod; cases hod
            | some ow => rw [hy] at hod; exact ⟨ow, rfl, (Option.some.inj hod).symm⟩
          have hw1 : (os.map (·.1))[i]? = some ow.1 := by rw [List.getElem?_map, how]; rfl
          cases gx with
          | @tup ad ys _ hT hy =>
          cases hy with
          | @cons v0 _ _ _ g0 hy =>
          cases g0
          refine ⟨rfl, _, rfl, ad, _, 0, .str ow.1, rfl, rfl, sqt_ex (same_ex (e1.trans ex)) hT, atI_nat (j := 0) rfl, _, hD, ?_, ?_, ?_⟩
          · rw [List.length_map, List.length_take, List.length_map]
            omega
          · intro b o hb
            rw [upd_ne (ne_of_none hb npw)]
            exact ex _ _ hb
          · rw [upd_same, List.take_succ, hw1, List.map_append]
            rfl
        · rintro H2 ⟨e2, hpw⟩
          have hlo : oxs.length = (os.map (·.1)).length := by
            have := dqa_len hox
            rw [List.length_map] at this ⊢
            exact this
          rw [hlo, List.take_of_length_le (Nat.le_refl _)] at hpw
          refine ⟨by show 0 ≤ sizeLine; decide, fun pk npk => ?_⟩
          have e02 := e1.trans e2
          have e0 : Ex H (upd H2 pk (.lst [])) := e02.trans (Ex.new npk)
          have e0' : Ex H2 (upd H2 pk (.lst [])) := Ex.new npk
          have npk0 := fresh_back e02 npk
          refine ⟨_, rfl, a, rfl, ⟨_, SqL.of (e0 _ _ ha)⟩, ?_⟩
          refine for_list (K := K) (a := a) (xs := xs) (fun i σ H' => ∃ (t : Option V) (kn : List Str), σ = [some (.ref a), some (.ref po), some (.ref pr), some (.ref pn), some (.ref pw), some (.ref pk), t, none] ∧ Ex H2 H' ∧ H' pk = some (.lst (kn.map V.str)) ∧ kn.length = i ∧
            fBad (os.map (·.1)) (namesF ds) rs [] ds = (fBad (os.map (·.1)) (namesF ds) rs kn (ds.drop i)).map (· + i)) ?_ (fun i σ H' _ ⟨_, _, _, x, _⟩ => SqL.of (x _ _ (e02 _ _ ha))) ?_ ?_
          · exact ⟨none, [], rfl, e0', upd_same, rfl, by rw [List.drop_zero]; cases fBad (os.map (·.1)) (namesF ds) rs [] ds <;> rfl⟩
          · rintro i x σ H' hi ⟨t, kn, rfl, ex, hk, hkl, hb⟩
            have exh := e02.trans ex
            obtain ⟨dx, hdx, gx⟩ := dqa_get hx hi
            have hil := (List.getElem?_eq_some_iff.mp hdx).1
            have hdr : ds.drop i = dx :: ds.drop (i + 1) := by
              rw [List.drop_eq_getElem_cons hil]
              congr 1
              exact (List.getElem?_eq_some_iff.mp hdx).2
            rw [hdr] at hb
            have bad : (!functionF (os.map (·.1)) (namesF ds) rs dx || kn.any (eqS (.str (headS dx)))) = true → ∀ H3, Ex H' H3 → (∀ b, H3 b = none → H b = none) ∧ ∀ d H4, XFly H3 H4 d "value" x → E (.ref CI) (some d) H4 := fun z H3 x3 => by
              simp only [fBad, z, if_true, Option.map_some, Nat.zero_add] at hb
              exact ⟨fun b hb' => fresh_back (exh.trans x3) hb', qb i x hb hi H3 (exh.trans x3)⟩
            obtain ⟨hz1, hz2⟩ := hz dx (List.mem_of_getElem? hdx)
            refine ⟨_, rfl, _, rfl, _, rfl, _, rfl, fun_k (gx.mono (same_ex exh)) hz1 hz2 (ex _ _ hpw) (ex _ _ (e2 _ _ hpn)) (exh _ _ hpr) fun H3 e3 => ⟨_, rfl, ite2 (fun hn => ?_) (fun hn => ?_)⟩⟩
            · exact ⟨_, rfl, bad (by rw [hn]; rfl) H3 e3⟩
            · have hn : functionF (os.map (·.1)) (namesF ds) rs dx = true := by simpa using hn
              obtain ⟨z, b2, c2, rfl⟩ := function_head hn
              cases gx with
              | @tup ad ys _ hT hy =>
              cases hy with
              | @cons v0 _ _ _ g0 hy =>
              cases g0
              have hT2 := sqt_ex (same_ex (exh.trans e3)) hT
              refine ⟨_, rfl, ad, _, 0, .str z, rfl, rfl, hT2, atI_nat (j := 0) rfl, _, rfl, .str z, kn, pk, .str z, rfl, SqL.of (e3 _ _ hk), _, rfl, ite2 (fun hin => ?_) (fun hin => ?_)⟩
              · have hin : kn.any (eqS (.str z)) = true := by simpa using hin
                exact ⟨_, rfl, bad (by show (_ || kn.any (eqS (.str z))) = true; rw [hin, Bool.or_true]) H3 e3⟩
              · have hin : kn.any (eqS (.str z)) = false := by simpa using hin
                refine ⟨_, rfl, .inl ⟨rfl, _, SqL.of (e3 _ _ hk)⟩, _, rfl, ad, _, 0, .str z, rfl, rfl, hT2, atI_nat (j := 0) rfl, pk, _, .str z, rfl, rfl, e3 _ _ hk, by rw [List.length_map]; omega, _, kn ++ [z], rfl, ?_, ?_, ?_, ?_⟩
                · intro b o hb'
                  rw [upd_ne (ne_of_none hb' npk)]
                  exact e3 _ _ (ex _ _ hb')
                · rw [upd_same, List.map_append]
                  rfl
                · rw [List.length_append, hkl]
                  rfl
                · rw [hb]
                  have : fBad (os.map (·.1)) (namesF ds) rs kn (.tuple [.str z, b2, c2] :: ds.drop (i + 1)) = (fBad (os.map (·.1)) (namesF ds) rs (kn ++ [z]) (ds.drop (i + 1))).map (· + 1) := by
                    simp only [fBad, headS, hn, hin, Bool.not_true, Bool.or_self, Bool.false_eq_true, if_false]
                  rw [this, Option.map_map]
                  congr 1
                  funext k
                  show k + 1 + i = k + (i + 1)
                  omega
          · rintro σ H' ⟨t, kn, rfl, ex, hk, hkl, hb⟩
            rw [hl, List.drop_of_length_le (Nat.le_refl _)] at hb
            exact qo (by rw [hb]; rfl) H' (e02.trans ex)
    | _ => cases hs
end
end Lx

set_option Elab.async false
set_option maxRecDepth 100000
set_option linter.all false
set_option maxHeartbeats 4000000
namespace Lx
open PySem PySem.Spec PyProof.Rows L2 Evl Kx
section
variable {P : Program} {w : World} {K : PySem.W.Frag} {mg : Str → Option Value} {base : Heap} {f : Addr} {fd : FuncData}
abbrev sCpO : Stmt := top 29
abbrev sCpF : Stmt := top 30
theorem scCpO : FnScope ["owners", "name", "rights"] ["owners"] (defScope sCpO) := ⟨rfl, rfl, rfl, by decide +kernel, rfl, by decide +kernel, by decide +kernel⟩
theorem scCpF : FnScope ["functions", "name", "owner", "body"] ["functions"] (defScope sCpF) := ⟨rfl, rfl, rfl, by decide +kernel, rfl, by decide +kernel, by decide +kernel⟩
structure spCpO (K : PySem.W.Frag) (vs : List V) (H : Hp) (Q : VK) (E_ : XK) : Prop where
  mk' ::
  out : ∃ (p : Addr) (os : List Own), vs = [.ref p] ∧ Dq K H (.ref p) (.list (os.map ownD)) ∧ os.length ≤ 4096 ∧ ∀ p2 H2 M, New H H2 M → FrN K H M (.ref p2) (.list (os.map ownD)) → Q (.ref p2) H2
theorem strs_back {H : Hp} : ∀ {xs : List V} {ss : List Str}, DqA K H xs (ss.map PyData.str) → xs = ss.map V.str
  | _, [], h => by cases h; rfl
  | _, s :: ss, h => by
    cases h with
    | cons a b =>
      cases a
      rw [strs_back b]
      rfl
theorem own_at {H : Hp} {xs : List V} {os : List Own} {i : Nat} {v : V} (h : DqA K H xs (os.map ownD)) (hi : xs[i]? = some v) : ∃ ow a pl, os[i]? = some ow ∧ v = .ref a ∧ SqT K H a [.str ow.1, .ref pl] ∧ H pl = some (.lst (ow.2.map V.str)) := by
  obtain ⟨od, hod, gx⟩ := dqa_get h hi
  rw [List.getElem?_map] at hod
  obtain ⟨ow, how, rfl⟩ : ∃ ow, os[i]? = some ow ∧ od = ownD ow := by
    cases hy : os[i]? with
    | none => rw [hy] at hod; cases hod
    | some ow => rw [hy] at hod; exact ⟨ow, rfl, (Option.some.inj hod).symm⟩
  cases gx with
  | tup hT hy =>
  cases hy with
  | cons g0 hy =>
  cases g0
  cases hy with
  | cons g1 hy =>
  cases hy
  cases g1 with
  | lst hl hs => exact ⟨ow, _, _, how, rfl, hT, by rw [hl, strs_back hs]⟩
theorem own_fr {H M : Hp} {l tp : Addr} {ow : Own} (h1 : M l = some (.lst (ow.2.map V.str))) (h2 : M tp = some (.tup [.str ow.1, .ref l])) (nl : H l = none) : FrN K H M (.ref tp) (ownD ow) :=
  ⟨[l], .tup h2 (.cons (as := []) (.flat rfl (.str _)) (.cons (as := [l]) (.lst h1 (strs_n _)) .nil)), List.nodup_cons.mpr ⟨(fun h => nomatch h), List.nodup_nil⟩, fun x hx => by rw [List.mem_singleton.mp hx]; exact nl⟩
theorem fn_fr {H M : Hp} {p3 tp : Addr} {g : Fn} (h : FrN K H M (.ref p3) (.list (bodyD g.2.2))) (h2 : M tp = some (.tup [.str g.1, .str g.2.1, .ref p3])) : FrN K H M (.ref tp) (fnD g) := by
  obtain ⟨as, a, b, c⟩ := h
  have := DqNA.cons (as := []) (.flat rfl (.str g.1)) (.cons (as := []) (.flat rfl (.str g.2.1)) (.cons a (.nil (K := K) (H := M))))
  rw [List.append_nil] at this
  exact ⟨as, .tup h2 this, b, c⟩
theorem ok_cpO (F : Fun K "copy_owners" "copy_owners" sCpO f fd) (mL : mg "list" = none) : FnOk P w K mg base CX0 1 f fd ["owners"] (spCpO K) := by
  refine F.ok scCpO (fun vs H Q E h => ?_) (fun cdv A outer s H vs Q E hr h => ?_)
  · obtain ⟨_, _, rfl, _⟩ := h
    rfl
  · obtain ⟨p, os, rfl, hd, hol, q⟩ := h
    refine ⟨_, pss_one (ps_ret (pe_lc (own := [("name", 1), ("rights", 2)]) (g := gTup K 2 (gCons (gName 1) (gCons (gName 2) gNil))) rfl scCpO.nd (pi_list (pv 0))
            (blkOk_by (own := [("name", 1), ("rights", 2)]) (N := ["owners", "name", "rights"]) (sc := defScope sCpO) (by decide +kernel))
            (fun _ _ _ _ _ => pg_tupK rfl (pgs_cons (pg_name (i := 1) scCpO.nd rfl (Or.inl rfl)) (pgs_cons (pg_name (i := 2) scCpO.nd rfl (Or.inl rfl)) pgs_nil))) (fun _ _ _ _ _ => pts_nil)
            (fun _ _ _ _ _ => pe_tup (pa_cons (pv 1) (pa_cons (pe_callTy (call_listK (K := K)) (by rfl) mL (by decide +kernel) (pa_cons (pv 2) pa_nil)) pa_nil))))), ?_⟩
    cases hd with
    | @lst _ xs _ hp hx =>
    have hlen : xs.length = os.length := by
      have := dqa_len hx
      rw [List.length_map] at this
      exact this
    refine ⟨_, rfl, p, rfl, ⟨_, SqL.of hp⟩, fun D nD => ?_⟩
    refine lc_list (K := K) (a := p) (xs := xs) (fun i H' => ∃ (M : Hp) (acc : List V), New H H' M ∧ H' D = some (.lst acc) ∧ M D = none ∧ FrA K H M acc ((os.take i).map ownD)) ?_ (fun i H' _ ⟨_, _, k, _⟩ => SqL.of (k.hh _ _ hp)) ?_ ?_
    · exact ⟨emp, [], New.refl.own nD, upd_same, rfl, FrA.nil⟩
    · rintro i x H' hi ⟨M, acc, k, hD, mD, ha⟩
      obtain ⟨ow, ta, pl, how, rfl, hT, hpl⟩ := own_at hx hi
      refine ⟨ta, _, rfl, sqt_ex (same_ex k.hh) hT, rfl, _, _, rfl, _, _, rfl, rfl, rfl, _, rfl, _, rfl, pl, _, rfl, .inl (SqL.of (k.hh _ _ hpl)), fun l nl => ⟨by show 2 ≤ sizeLine; decide, fun tp ntp => ?_⟩⟩
      have k2 := (k.put (o := .lst (ow.2.map V.str)) nl).put (o := .tup [.str ow.1, .ref l]) ntp
      have fl : D ≠ l := ne_of_none hD nl
      have ft : D ≠ tp := ne_of_none (show (upd H' l (.lst (ow.2.map V.str))) D = some (.lst acc) by rw [upd_ne fl]; exact hD) ntp
      have mD2 : (upd (upd M l (.lst (ow.2.map V.str))) tp (.tup [.str ow.1, .ref l])) D = none := by rw [upd_ne ft, upd_ne fl]; exact mD
      have ml : M l = none := k.none nl
      have mt : (upd M l (.lst (ow.2.map V.str))) tp = none := (k.put (o := .lst (ow.2.map V.str)) nl).none ntp
      have em : Ex M (upd (upd M l (.lst (ow.2.map V.str))) tp (.tup [.str ow.1, .ref l])) := (Ex.new ml).trans (Ex.new mt)
      refine ⟨acc, by rw [upd_ne ft, upd_ne fl]; exact hD, ?_, _, acc ++ [.ref tp], k2.wr nD mD2, upd_same, mD2, ?_⟩
      · have := dqa_len ha.dq
        rw [List.length_map, List.length_take] at this
        have h2 := (List.getElem?_eq_some_iff.mp hi).1
        have e3z : (5000 : Nat) < sizeLine := by decide
        omega
      · rw [List.take_succ, how, List.map_append]
        exact FrA.app k ha em (Ex.refl _) (own_fr (by rw [upd_ne (ne_of_none upd_same mt)]; exact upd_same) upd_same nl)
    · rintro H' ⟨M, acc, k, hD, mD, ha⟩
      rw [hlen, List.take_of_length_le (Nat.le_refl _)] at ha
      exact q D H' _ (k.frz nD hD) (FrN.lst ha mD nD)
structure spCpF (K : PySem.W.Frag) (d : Nat) (vs : List V) (H : Hp) (Q : VK) (E_ : XK) : Prop where
  mk' ::
  out : ∃ (p : Addr) (fs : List Fn), vs = [.ref p] ∧ Dq K H (.ref p) (.list (fs.map fnD)) ∧ fs.length ≤ 4096 ∧ (∀ g ∈ fs, nstB g.2.2 ≤ d ∧ cntB g.2.2 ≤ 4096) ∧ ∀ p2 H2 M, New H H2 M → FrN K H M (.ref p2) (.list (fs.map fnD)) → Q (.ref p2) H2
theorem fn_at {H : Hp} {xs : List V} {fs : List Fn} {i : Nat} {v : V} (h : DqA K H xs (fs.map fnD)) (hi : xs[i]? = some v) : ∃ g a pl, fs[i]? = some g ∧ v = .ref a ∧ SqT K H a [.str g.1, .str g.2.1, .ref pl] ∧ Dq K H (.ref pl) (.list (bodyD g.2.2)) := by
  obtain ⟨od, hod, gx⟩ := dqa_get h hi
  rw [List.getElem?_map] at hod
  obtain ⟨g, how, rfl⟩ : ∃ g, fs[i]? = some g ∧ od = fnD g := by
    cases hy : fs[i]? with
    | none => rw [hy] at hod; cases hod
    | some g => rw [hy] at hod; exact ⟨g, rfl, (Option.some.inj hod).symm⟩
  cases gx with
  | tup hT hy =>
  cases hy with
  | cons g0 hy =>
  cases g0
  cases hy with
  | cons g1 hy =>
  cases g1
  cases hy with
  | cons g2 hy =>
  cases hy
  have g2' := g2
  cases g2 with
  | lst hl hs => exact ⟨g, _, _, how, rfl, hT, g2'⟩
theorem ok_cpF {d : Nat} {fB : Addr} {fdB : FuncData} (F : Fun K "copy_functions" "copy_functions" sCpF f fd) (FB : FnOk P w K mg base CX0 (2 * d + 3) fB fdB ["body"] (spCb K d)) (mB : mg "copy_body" = some (.ref fB)) (kB : PySem.W.keepIn K (.ref fB) = true) (bB : Binds K fdB ["body"] []) :
    FnOk P w K mg base CX0 (2 * d + 4) f fd ["functions"] (spCpF K d) := by
  refine F.ok scCpF (fun vs H Q E h => ?_) (fun cdv A outer s H vs Q E hr h => ?_)
  · obtain ⟨_, _, rfl, _⟩ := h
    rfl
  · obtain ⟨p, fs, rfl, hd, hol, hfs, q⟩ := h
    refine ⟨_, pss_one (ps_ret (pe_lc (own := [("name", 1), ("owner", 2), ("body", 3)]) (g := gTup K 3 (gCons (gName 1) (gCons (gName 2) (gCons (gName 3) gNil)))) rfl scCpF.nd (pi_list (pv 0))
            (blkOk_by (own := [("name", 1), ("owner", 2), ("body", 3)]) (N := ["functions", "name", "owner", "body"]) (sc := defScope sCpF) (by decide +kernel))
            (fun _ _ _ _ _ => pg_tupK rfl (pgs_cons (pg_name (i := 1) scCpF.nd rfl (Or.inl rfl)) (pgs_cons (pg_name (i := 2) scCpF.nd rfl (Or.inl rfl)) (pgs_cons (pg_name (i := 3) scCpF.nd rfl (Or.inl rfl)) pgs_nil)))) (fun _ _ _ _ _ => pts_nil)
            (fun _ _ _ _ _ => pe_tup (pa_cons (pv 1) (pa_cons (pv 2) (pa_cons (pe_call FB hr rfl mB kB bB .nil pass0 (pa_cons (pv 3) pa_nil)) pa_nil)))))), ?_⟩
    cases hd with
    | @lst _ xs _ hp hx =>
    have hlen : xs.length = fs.length := by
      have := dqa_len hx
      rw [List.length_map] at this
      exact this
    refine ⟨_, rfl, p, rfl, ⟨_, SqL.of hp⟩, fun D nD => ?_⟩
    refine lc_list (K := K) (a := p) (xs := xs) (fun i H' => ∃ (M : Hp) (acc : List V), New H H' M ∧ H' D = some (.lst acc) ∧ M D = none ∧ FrA K H M acc ((fs.take i).map fnD)) ?_ (fun i H' _ ⟨_, _, k, _⟩ => SqL.of (k.hh _ _ hp)) ?_ ?_
    · exact ⟨emp, [], New.refl.own nD, upd_same, rfl, FrA.nil⟩
    · rintro i x H' hi ⟨M, acc, k, hD, mD, ha⟩
      obtain ⟨g, ta, pl, how, rfl, hT, hpl⟩ := fn_at hx hi
      obtain ⟨h1, h2⟩ := hfs g (List.mem_of_getElem? how)
      refine ⟨ta, _, rfl, sqt_ex (same_ex k.hh) hT, rfl, _, _, rfl, _, _, rfl, _, _, rfl, rfl, rfl, _, rfl, _, rfl, _, rfl, pl, g.2.2, rfl, hpl.mono (same_ex k.hh), h1, h2, fun p3 H3 M3 k3 h3 => ⟨by show 3 ≤ sizeLine; decide, fun tp ntp => ?_⟩⟩
      have hD3 := k3.hh _ _ hD
      have k4 := (k.trans k3).put (o := .tup [.str g.1, .str g.2.1, .ref p3]) ntp
      have ft : D ≠ tp := ne_of_none hD3 ntp
      have mt : (join M M3) tp = none := (k.trans k3).none ntp
      have mD2 : (upd (join M M3) tp (.tup [.str g.1, .str g.2.1, .ref p3])) D = none := by
        rw [upd_ne ft]
        exact join_none mD (k3.fr _ _ hD)
      refine ⟨acc, by rw [upd_ne ft]; exact hD3, ?_, _, acc ++ [.ref tp], k4.wr nD mD2, upd_same, mD2, ?_⟩
      · have := dqa_len ha.dq
        rw [List.length_map, List.length_take] at this
        have h2 := (List.getElem?_eq_some_iff.mp hi).1
        have e3z : (5000 : Nat) < sizeLine := by decide
        omega
      · rw [List.take_succ, how, List.map_append]
        exact FrA.app k ha (join_l.trans (Ex.new mt)) (Ex.refl _) (fn_fr (h3.mono ((k.right k3).trans (Ex.new mt))) upd_same)
    · rintro H' ⟨M, acc, k, hD, mD, ha⟩
      rw [hlen, List.take_of_length_le (Nat.le_refl _)] at ha
      exact q D H' _ (k.frz nD hD) (FrN.lst ha mD nD)
end
end Lx

set_option Elab.async false
set_option maxRecDepth 100000
set_option linter.all false
set_option maxHeartbeats 4000000
namespace Lx
open PySem PySem.Spec PyProof.Rows L2 Evl Kx
theorem any_eqS {ns : List Str} {n : Str} : ns.any (eqS (.str n)) = decide (n ∈ ns) := by
  rw [Bool.eq_iff_iff, decide_eq_true_eq, List.any_eq_true]
  constructor
  · rintro ⟨x, hx, h⟩
    have : n = x := eq_of_beq h
    exact this ▸ hx
  · exact fun h => ⟨n, h, beq_self_eq_true n⟩
section
variable {ns rs : List Str}
mutual
theorem stepF_ok : ∀ {mk : Bool} {s : Stp}, stepF ns rs mk (stpD s) = okS rs ns mk s
  | mk, .call n => by
    simp only [stpD, stepF, tupF, okS, ← any_eqS]
    rfl
  | mk, .tail n => by
    simp only [stpD, stepF, tupF, okS, ← any_eqS]
    rfl
  | mk, .check r => by
    simp only [stpD, stepF, tupF, okS, ← any_eqS]
    rfl
  | mk, .back => by
    simp only [stpD, stepF, tupF, okS]
    rfl
  | mk, .either a b => by
    simp only [stpD, okS, ← bodyF_ok (mk := mk) (b := a), ← bodyF_ok (mk := mk) (b := b)]
    simp only [stepF, tupF, nestF]
    rfl
  | mk, .loop b => by
    simp only [stpD, okS, ← bodyF_ok (mk := mk) (b := b)]
    simp only [stepF, tupF, nestF]
    rfl
  | mk, .block m b => by
    simp only [stpD, okS, ← bodyF_ok (mk := mk || m) (b := b)]
    simp only [stepF, tupF, nestF]
    rfl
theorem bodyF_ok : ∀ {mk : Bool} {b : List Stp}, bodyF ns rs mk (.list (bodyD b)) = okB rs ns mk b
  | mk, [] => by simp only [bodyF, bodyD, stepsF, okB]
  | mk, s :: r => by
    have h1 := stepF_ok (mk := mk) (s := s)
    have h2 := bodyF_ok (mk := mk) (b := r)
    simp only [bodyF] at h2
    simp only [bodyF, bodyD, stepsF, okB, h1, h2]
end
end
theorem sub_len : ∀ {ss rs : List Str}, ss.Nodup → (∀ s ∈ ss, s ∈ rs) → ss.length ≤ rs.length
  | [], _, _, _ => Nat.zero_le _
  | s :: ss, rs, hn, h => by
    obtain ⟨h1, h2⟩ := List.nodup_cons.mp hn
    have hs := h s (List.mem_cons_self ..)
    have := sub_len (rs := rs.erase s) h2 fun x hx => by
      have hne : x ≠ s := fun e => h1 (e ▸ hx)
      exact (List.mem_erase_of_ne hne).mpr (h x (List.mem_cons_of_mem _ hx))
    rw [List.length_erase_of_mem hs] at this
    have := List.length_pos_of_mem hs
    simp only [List.length_cons]
    omega
theorem cnt_none {z : Str} : ∀ {ss : List Str}, z ∉ ss → (ss.map PyData.str).countP (fun d => eqS d z) = 0
  | [], _ => rfl
  | s :: ss, h => by
    have h1 : eqS (.str s) z = false := by
      show (s == z) = false
      exact beq_eq_false_iff_ne.mpr fun e => h (e ▸ List.mem_cons_self ..)
    rw [List.map_cons, List.countP_cons_of_neg (by rw [h1]; exact Bool.false_ne_true)]
    exact cnt_none fun hm => h (List.mem_cons_of_mem _ hm)
theorem cnt_once {z : Str} : ∀ {ss : List Str}, ss.Nodup → z ∈ ss → (ss.map PyData.str).countP (fun d => eqS d z) = 1
  | s :: ss, hn, h => by
    obtain ⟨h1, h2⟩ := List.nodup_cons.mp hn
    rw [List.map_cons]
    by_cases e : s = z
    · subst e
      have h3 : eqS (.str s) s = true := beq_self_eq_true s
      rw [List.countP_cons_of_pos (p := fun d => eqS d s) h3, cnt_none h1]
    · have h3 : eqS (.str s) z = false := beq_eq_false_iff_ne.mpr e
      rw [List.countP_cons_of_neg (by rw [h3]; exact Bool.false_ne_true)]
      rcases List.mem_cons.mp h with h | h
      · exact (e h.symm).elim
      · exact cnt_once h2 h
theorem choice_ok {rs ss : List Str} (hn : ss.Nodup) (h : ∀ s ∈ ss, s ∈ rs) : choiceF rs (strsD ss) = true := by
  have hl : (ss.map PyData.str).length ≤ rs.length := by
    rw [List.length_map]
    exact sub_len hn h
  simp only [strsD, choiceF, decide_eq_true hl, Bool.true_and, List.all_map]
  refine List.all_eq_true.mpr fun s hs => ?_
  show (rs.any (eqS (.str s)) && onceF (ss.map PyData.str) (.str s)) = true
  rw [any_eqS, decide_eq_true (h s hs)]
  simp only [onceF, cnt_once hn hs, decide_true, Bool.and_self]
theorem rBad_ok : ∀ {ss kn : List Str}, (∀ s ∈ ss, nameD (.str s) = true) → (kn ++ ss).Nodup → rBad kn (ss.map PyData.str) = none
  | [], _, _, _ => rfl
  | s :: ss, kn, h, hn => by
    have h1 := h s (List.mem_cons_self ..)
    have h2 : kn.any (eqS (.str s)) = false := by
      rw [any_eqS]
      refine decide_eq_false fun hm => ?_
      obtain ⟨_, _, hd⟩ := List.nodup_append.mp hn
      exact hd s hm s (List.mem_cons_self ..) rfl
    rw [List.map_cons]
    simp only [rBad, h1, h2, Bool.not_true, Bool.or_self, Bool.false_eq_true, if_false]
    rw [rBad_ok (fun x hx => h x (List.mem_cons_of_mem _ hx)) (by rw [List.append_assoc]; exact hn)]
    rfl
theorem oBad_ok {rs : List Str} : ∀ {os : List Own} {kn : List Str}, (∀ o ∈ os, nameD (.str o.1) = true ∧ o.2.Nodup ∧ ∀ r ∈ o.2, r ∈ rs) → (kn ++ os.map (·.1)).Nodup → oBad rs kn (os.map ownD) = none
  | [], _, _, _ => rfl
  | o :: os, kn, h, hn => by
    obtain ⟨h1, h3, h4⟩ := h o (List.mem_cons_self ..)
    have h2 : kn.any (eqS (.str o.1)) = false := by
      rw [any_eqS]
      refine decide_eq_false fun hm => ?_
      obtain ⟨_, _, hd⟩ := List.nodup_append.mp hn
      exact hd o.1 hm o.1 (List.mem_cons_self ..) rfl
    have ho : ownerF rs (ownD o) = true := by
      simp only [ownD, ownerF, h1, choice_ok h3 h4, Bool.and_self]
    have hh : headS (ownD o) = o.1 := rfl
    rw [List.map_cons]
    simp only [oBad, ho, hh, h2, Bool.not_true, Bool.or_self, Bool.false_eq_true, if_false]
    rw [oBad_ok (fun x hx => h x (List.mem_cons_of_mem _ hx)) (by rw [List.append_assoc]; exact hn)]
    rfl
theorem fBad_ok {os ns rs : List Str} : ∀ {fs : List Fn} {kn : List Str}, (∀ g ∈ fs, nameD (.str g.1) = true ∧ g.2.1 ∈ os ∧ okB rs ns false g.2.2 = true) → (kn ++ fs.map (·.1)).Nodup → fBad os ns rs kn (fs.map fnD) = none
  | [], _, _, _ => rfl
  | g :: fs, kn, h, hn => by
    obtain ⟨h1, h3, h4⟩ := h g (List.mem_cons_self ..)
    have h2 : kn.any (eqS (.str g.1)) = false := by
      rw [any_eqS]
      refine decide_eq_false fun hm => ?_
      obtain ⟨_, _, hd⟩ := List.nodup_append.mp hn
      exact hd g.1 hm g.1 (List.mem_cons_self ..) rfl
    have ho : functionF os ns rs (fnD g) = true := by
      simp only [fnD, functionF, h1, any_eqS, decide_eq_true h3, bodyF_ok, h4, Bool.and_self]
    have hh : headS (fnD g) = g.1 := rfl
    rw [List.map_cons]
    simp only [fBad, ho, hh, h2, Bool.not_true, Bool.or_self, Bool.false_eq_true, if_false]
    rw [fBad_ok (fun x hx => h x (List.mem_cons_of_mem _ hx)) (by rw [List.append_assoc]; exact hn)]
    rfl
theorem namesF_ok : ∀ {fs : List Fn}, (∀ g ∈ fs, nameD (.str g.1) = true) → namesF (fs.map fnD) = fs.map (·.1)
  | [], _ => rfl
  | g :: fs, h => by
    have h1 : nmd (fnD g) = true := h g (List.mem_cons_self ..)
    have h2 := namesF_ok fun x hx => h x (List.mem_cons_of_mem _ hx)
    simp only [namesF] at h2 ⊢
    rw [List.map_cons, List.filter_cons_of_pos h1, List.map_cons, h2]
    rfl
end Lx

set_option Elab.async false
set_option maxRecDepth 100000
set_option linter.all false
set_option maxHeartbeats 4000000
namespace Lx
open PySem PySem.Spec PyProof.Rows L2 Evl Kx
/-! ### what is refused when a program is made -/
inductive Flt where
  | lst (k : Nat)
  | itm (k i : Nat)
def items : PyData → List PyData
  | .list ds => ds
  | _ => []
def unS : PyData → Str
  | .str z => z
  | _ => ""
def faultF (d1 d2 d3 : PyData) : Option Flt :=
  if sizeF 5 d1 = false then some (.lst 0) else
  match rBad [] (items d1) with
  | some i => some (.itm 0 i)
  | none =>
    if sizeF 5 d2 = false then some (.lst 1) else
    match oBad ((items d1).map unS) [] (items d2) with
    | some i => some (.itm 1 i)
    | none =>
      if sizeF 6 d3 = false then some (.lst 2) else
      match fBad ((items d2).map headS) (namesF (items d3)) ((items d1).map unS) [] (items d3) with
      | some i => some (.itm 2 i)
      | none => none
/-- the class and the very thing of a fault -/
def FltV (CL CI : Addr) (G : Hp) (vs : List V) : Flt → Addr → V → Prop
  | .lst k, c, v => c = CL ∧ vs[k]? = some v
  | .itm k i, c, v => c = CI ∧ ∃ a xs, vs[k]? = some (.ref a) ∧ G a = some (.lst xs) ∧ xs[i]? = some v
theorem rBad_strs : ∀ {ds : List PyData} {kn : List Str}, rBad kn ds = none → ds = (ds.map unS).map PyData.str
  | [], _, _ => rfl
  | d :: r, kn, h => by
    simp only [rBad] at h
    split at h
    · cases h
    · rename_i h1
      cases d with
      | str z =>
        simp only [Option.map_eq_none_iff] at h
        have := rBad_strs h
        simp only [List.map_cons, unS]
        rw [← this]
      | _ => cases h
theorem choice_strs {rs : List Str} {d : PyData} (h : choiceF rs d = true) : ∃ ss : List Str, d = strsD ss := by
  cases d with
  | list ds =>
    simp only [choiceF, Bool.and_eq_true] at h
    refine ⟨ds.map unS, ?_⟩
    have : ∀ {es : List PyData}, (∀ x ∈ es, rs.any (eqS x) = true) → es = (es.map unS).map PyData.str := by
      intro es
      induction es with
      | nil => intro _; rfl
      | cons e r ih =>
        intro h
        obtain ⟨z, rfl, _⟩ := any_str (h e (List.mem_cons_self ..))
        have := ih fun x hx => h x (List.mem_cons_of_mem _ hx)
        simp only [List.map_cons, unS]
        rw [← this]
    unfold strsD
    rw [← this fun x hx => by
      have := List.all_eq_true.mp h.2 x hx
      simp only [Bool.and_eq_true] at this
      exact this.1]
  | _ => cases h
theorem oBad_own {rs : List Str} : ∀ {ds : List PyData} {kn : List Str}, oBad rs kn ds = none → ∃ os : List Own, ds = os.map ownD ∧ os.map (·.1) = ds.map headS
  | [], _, _ => ⟨[], rfl, rfl⟩
  | d :: r, kn, h => by
    simp only [oBad] at h
    split at h
    · cases h
    · rename_i h1
      simp only [Option.map_eq_none_iff] at h
      obtain ⟨os, h2, h3⟩ := oBad_own h
      simp only [Bool.or_eq_true, Bool.not_eq_true', not_or, Bool.not_eq_false] at h1
      have ho := h1.1
      obtain ⟨z, b, rfl⟩ := owner_head ho
      simp only [ownerF, Bool.and_eq_true] at ho
      obtain ⟨ss, rfl⟩ := choice_strs ho.2
      exact ⟨(z, ss) :: os, by rw [h2]; rfl, by simp only [List.map_cons, h3]; rfl⟩
/-- what a program's data may be for these promises -/
structure DataOk (n : Nat) (d1 d2 d3 : PyData) : Prop where
  r : ∀ x ∈ items d1, strOk x
  o : ∀ x ∈ items d2, headOk x
  f : ∀ x ∈ items d3, headOk x ∧ x.depth ≤ n + 1
theorem items_of {d : PyData} {P : PyData → Prop} (h : ∀ x ∈ items d, P x) : ∀ ds, d = .list ds → ∀ x ∈ ds, P x := by
  rintro ds rfl x hx
  exact h x hx
def progF (a1 a2 a3 : Addr) : List (Str × V) := [("_rights", .ref a1), ("_owners", .ref a2), ("_functions", .ref a3)]
/-- at p stands a program with these parts -/
def ProgAt (K : PySem.W.Frag) (C : Addr) (H : Hp) (p : Addr) (q : Prt) : Prop := ∃ dx a1 a2 a3, H p = some (.ins C dx (progF a1 a2 a3)) ∧ H a1 = some (.lst (q.rs.map V.str)) ∧ Dq K H (.ref a2) (.list (q.os.map ownD)) ∧ Dq K H (.ref a3) (.list (q.fs.map fnD))
theorem ProgAt.mono {K : PySem.W.Frag} {C : Addr} {H H' : Hp} {p : Addr} {q : Prt} (e : Ex H H') (h : ProgAt K C H p q) : ProgAt K C H' p q :=
  let ⟨dx, a1, a2, a3, h0, h1, h2, h3⟩ := h
  ⟨dx, a1, a2, a3, e _ _ h0, e _ _ h1, h2.mono (same_ex e), h3.mono (same_ex e)⟩
/-- bounds of what is copied -/
structure PrtLe (d : Nat) (q : Prt) : Prop where
  os : q.os.length ≤ 4096
  fl : q.fs.length ≤ 4096
  fs : ∀ g ∈ q.fs, nstB g.2.2 ≤ d ∧ cntB g.2.2 ≤ 4096
structure spInit (K : PySem.W.Frag) (n d : Nat) (C CL CI : Addr) (vs : List V) (H : Hp) (Q : VK) (E : XK) : Prop where
  mk' ::
  out : ∃ (p dx : Addr) (G : Hp) (v1 v2 v3 : V) (d1 d2 d3 : PyData), vs = [.ref p, v1, v2, v3] ∧ H p = some (.ins C dx []) ∧ Ex G H ∧ G p = none ∧ Dq K G v1 d1 ∧ Dq K G v2 d2 ∧ Dq K G v3 d3 ∧ DataOk n d1 d2 d3 ∧
  (∀ f c v, faultF d1 d2 d3 = some f → FltV CL CI G [v1, v2, v3] f c v → Refuse H E c v) ∧
  (faultF d1 d2 d3 = none → ∃ q : Prt, d1 = strsD q.rs ∧ d2 = .list (q.os.map ownD) ∧ d3 = .list (q.fs.map fnD) ∧ PrtLe d q ∧
    ∀ H2 M a1 a2 a3, New H H2 M → M a1 = some (.lst (q.rs.map V.str)) → Dq K M (.ref a2) (.list (q.os.map ownD)) → Dq K M (.ref a3) (.list (q.fs.map fnD)) → Q .non (upd H2 p (.ins C dx (progF a1 a2 a3))))
/-- the class as the text has made it -/
structure PTxt (K : PySem.W.Frag) (mg : Str → Option Value) (C : Addr) : Prop where
  cl : Cls K C
  nR : NoAttr K C "_rights"
  nO : NoAttr K C "_owners"
  nF : NoAttr K C "_functions"
  mgC : mg "Program" = some (.ref C)
theorem ne_ro : ¬ (("_rights" : Str) = "_owners") := by decide +kernel
theorem ne_rf : ¬ (("_rights" : Str) = "_functions") := by decide +kernel
theorem ne_of' : ¬ (("_owners" : Str) = "_functions") := by decide +kernel
theorem putF_o (x y : V) : putF "_owners" y [("_rights", x)] = ([("_rights", x), ("_owners", y)] : List (Str × V)) := by
  show (if ("_rights" : Str) = "_owners" then _ else (("_rights" : Str), x) :: putF "_owners" y []) = ([("_rights", x), ("_owners", y)] : List (Str × V))
  rw [if_neg ne_ro]
  all_goals rfl
theorem putF_f (x y z : V) : putF "_functions" z [("_rights", x), ("_owners", y)] = ([("_rights", x), ("_owners", y), ("_functions", z)] : List (Str × V)) := by
  show (if ("_rights" : Str) = "_functions" then _ else ((("_rights" : Str), x) :: (if ("_owners" : Str) = "_functions" then _ else (("_owners" : Str), y) :: putF "_functions" z []))) = ([("_rights", x), ("_owners", y), ("_functions", z)] : List (Str × V))
  rw [if_neg ne_rf, if_neg ne_of']
  all_goals rfl
section
variable {P : Program} {w : World} {K : PySem.W.Frag} {mg : Str → Option Value} {base : Heap} {f : Addr} {fd : FuncData}
abbrev sIni : Stmt := inClass (top 21) 0
theorem scIni : FnScope ["self", "rights", "owners", "functions"] ["self", "rights", "owners", "functions"] (defScope sIni) := ⟨rfl, rfl, rfl, by decide +kernel, rfl, by decide +kernel, by decide +kernel⟩
theorem ckR_k {CL CI : Addr} {v : V} {d : PyData} {H : Hp} {Q : VK} {E : XK} (h : Dq K H v d) (hz : ∀ x ∈ items d, strOk x) (q0 : sizeF 5 d = false → Refuse H E CL v)
    (q1 : sizeF 5 d = true → rBad [] (items d) = none → ∀ H2, Ex H H2 → Q .non H2) (q2 : sizeF 5 d = true → ∀ i a xs x, rBad [] (items d) = some i → v = .ref a → H a = some (.lst xs) → xs[i]? = some x → Refuse H E CI x) : spCkR K CL CI [v] H Q E := by

  refine ⟨v, d, rfl, h, items_of hz, q0, fun a xs ds e1 e2 e3 hs => ⟨fun h1 => q1 hs (by rw [e3]; exact h1), fun i x h1 h2 => q2 hs i a xs x (by rw [e3]; exact h1) e1 e2 h2⟩⟩
theorem ckO_k {CL CI pr : Addr} {rs : List Str} {v : V} {d : PyData} {H : Hp} {Q : VK} {E : XK} (h : Dq K H v d) (hpr : H pr = some (.lst (rs.map V.str))) (hl : rs.length ≤ 4096) (hz : ∀ x ∈ items d, headOk x) (q0 : sizeF 5 d = false → Refuse H E CL v)
    (q1 : sizeF 5 d = true → oBad rs [] (items d) = none → ∀ H2, Ex H H2 → Q .non H2) (q2 : sizeF 5 d = true → ∀ i a xs x, oBad rs [] (items d) = some i → v = .ref a → H a = some (.lst xs) → xs[i]? = some x → Refuse H E CI x) : spCkO K CL CI [v, .ref pr] H Q E := by

  refine ⟨v, d, pr, rs, rfl, h, hpr, hl, items_of hz, q0, fun a xs ds e1 e2 e3 hs => ⟨fun h1 => q1 hs (by rw [e3]; exact h1), fun i x h1 h2 => q2 hs i a xs x (by rw [e3]; exact h1) e1 e2 h2⟩⟩
theorem ckF_k {CL CI po pr : Addr} {n : Nat} {os : List Own} {rs : List Str} {v : V} {d : PyData} {H : Hp} {Q : VK} {E : XK} (h : Dq K H v d) (hpo : Dq K H (.ref po) (.list (os.map ownD))) (hol : os.length ≤ 4096) (hpr : H pr = some (.lst (rs.map V.str)))
    (hz : ∀ x ∈ items d, headOk x ∧ x.depth ≤ n + 1) (q0 : sizeF 6 d = false → Refuse H E CL v)
    (q1 : sizeF 6 d = true → fBad (os.map (·.1)) (namesF (items d)) rs [] (items d) = none → ∀ H2, Ex H H2 → Q .non H2) (q2 : sizeF 6 d = true → ∀ i a xs x, fBad (os.map (·.1)) (namesF (items d)) rs [] (items d) = some i → v = .ref a → H a = some (.lst xs) → xs[i]? = some x → Refuse H E CI x) : spCkF K n CL CI [v, .ref po, .ref pr] H Q E := by

  refine ⟨v, d, po, pr, os, rs, rfl, h, hpo, hol, hpr, items_of hz, q0, fun a xs ds e1 e2 e3 hs => ⟨fun h1 => q1 hs (by rw [e3]; exact h1), fun i x h1 h2 => q2 hs i a xs x (by rw [e3]; exact h1) e1 e2 h2⟩⟩
theorem cpO_k {p : Addr} {os : List Own} {H : Hp} {Q : VK} {E : XK} (h : Dq K H (.ref p) (.list (os.map ownD))) (hl : os.length ≤ 4096) (q : ∀ p2 H2 M, New H H2 M → FrN K H M (.ref p2) (.list (os.map ownD)) → Q (.ref p2) H2) : spCpO K [.ref p] H Q E := by

  exact ⟨p, os, rfl, h, hl, q⟩
theorem cpF_k {p : Addr} {d : Nat} {fs : List Fn} {H : Hp} {Q : VK} {E : XK} (h : Dq K H (.ref p) (.list (fs.map fnD))) (hl : fs.length ≤ 4096) (hb : ∀ g ∈ fs, nstB g.2.2 ≤ d ∧ cntB g.2.2 ≤ 4096) (q : ∀ p2 H2 M, New H H2 M → FrN K H M (.ref p2) (.list (fs.map fnD)) → Q (.ref p2) H2) : spCpF K d [.ref p] H Q E := by

  exact ⟨p, fs, rfl, h, hl, hb, q⟩
theorem dq_list {v : V} {d : PyData} {H : Hp} (h : Dq K H v d) (hs : isLst d = true) : ∃ a xs, v = .ref a ∧ H a = some (.lst xs) ∧ DqA K H xs (items d) := by
  cases h with
  | lst h1 h2 => exact ⟨_, _, rfl, h1, h2⟩
  | _ => cases hs
theorem size_lst {m : Nat} {d : PyData} (h : sizeF m d = true) : isLst d = true ∧ (items d).length ≤ m := by
  cases d with
  | list ds =>
    simp only [sizeF, Bool.and_eq_true, decide_eq_true_eq] at h
    exact ⟨rfl, h.2⟩
  | _ => cases h
theorem lst_items {d : PyData} (h : isLst d = true) : d = .list (items d) := by
  cases d with
  | list ds => rfl
  | _ => cases h
theorem ok_init {n d : Nat} {C CL CI fR fO fF fCO fCF : Addr} {fdR fdO fdF fdCO fdCF : FuncData} (F : Fun K "__init__" "Program.__init__" sIni f fd) (T : PTxt K mg C) (hnd : 2 * d + 4 ≤ 3 * n + 6)
    (FR : FnOk P w K mg base (L2.CX P w) 4 fR fdR ["rights"] (spCkR K CL CI)) (mR : mg "check_rights" = some (.ref fR)) (kR : PySem.W.keepIn K (.ref fR) = true) (bR : Binds K fdR ["rights"] [])
    (FO : FnOk P w K mg base (L2.CX P w) 4 fO fdO ["owners", "rights"] (spCkO K CL CI)) (mO : mg "check_owners" = some (.ref fO)) (kO : PySem.W.keepIn K (.ref fO) = true) (bO : Binds K fdO ["owners", "rights"] [])
    (FF : FnOk P w K mg base (L2.CX P w) (3 * n + 6) fF fdF ["functions", "owners", "rights"] (spCkF K n CL CI)) (mF : mg "check_functions" = some (.ref fF)) (kF : PySem.W.keepIn K (.ref fF) = true) (bF : Binds K fdF ["functions", "owners", "rights"] [])
    (FCO : FnOk P w K mg base CX0 1 fCO fdCO ["owners"] (spCpO K)) (mCO : mg "copy_owners" = some (.ref fCO)) (kCO : PySem.W.keepIn K (.ref fCO) = true) (bCO : Binds K fdCO ["owners"] [])
    (FCF : FnOk P w K mg base CX0 (2 * d + 4) fCF fdCF ["functions"] (spCpF K d)) (mCF : mg "copy_functions" = some (.ref fCF)) (kCF : PySem.W.keepIn K (.ref fCF) = true) (bCF : Binds K fdCF ["functions"] [])
    (mL : mg "list" = none) :
    FnOk P w K mg base (L2.CX P w) (3 * n + 7) f fd ["self", "rights", "owners", "functions"] (spInit K n d C CL CI) := by
  refine F.okX scIni (fun vs H Q E h => ?_) (fun cdv A outer s H vs Q E hr h => ?_)
  · obtain ⟨_, _, _, _, _, _, _, _, _, rfl, _⟩ := h
    rfl
  · obtain ⟨p, dx, G, v1, v2, v3, d1, d2, d3, rfl, hp, eG, gp, h1, h2, h3, ok, qb, qg⟩ := h
    have r4 := hr.mono (j := 4) (by omega)
    have r1 := hr.mono (j := 1) (by omega)
    have rd := hr.mono (j := 2 * d + 4) (by omega)
    refine ⟨_, pss_cons (ps_expr (pe_callS FR r4 (by rfl) mR kR bR (fun σ => passAt (takes_of rfl rfl rfl rfl) σ) (pa_cons (pv 1) pa_nil)))
      (pss_cons (ps_expr (pe_callS FO r4 (by rfl) mO kO bO (fun σ => passAt (takes_of rfl rfl rfl rfl) σ) (pa_cons (pv 2) (pa_cons (pv 1) pa_nil))))
      (pss_cons (ps_expr (pe_callS FF hr (by rfl) mF kF bF (fun σ => passAt (takes_of rfl rfl rfl rfl) σ) (pa_cons (pv 3) (pa_cons (pv 2) (pa_cons (pv 1) pa_nil)))))
      (pss_cons (ps_fld (pv 0) (pe_callTy (call_listK (K := K)) (by rfl) mL (by decide +kernel) (pa_cons (pv 1) pa_nil)) rfl)
      (pss_cons (ps_fld (pv 0) (pe_call FCO r1 rfl mCO kCO bCO .nil pass0 (pa_cons (pv 2) pa_nil)) rfl)
      (pss_one (ps_fld (pv 0) (pe_call FCF rd rfl mCF kCF bCF .nil pass0 (pa_cons (pv 3) pa_nil)) rfl)))))), ?_⟩
    have sG := same_ex eG
    refine ⟨_, rfl, ckR_k (h1.mono sG) ok.r (fun s1 => qb (.lst 0) CL v1 (by simp only [faultF, s1, if_true]) ⟨rfl, rfl⟩) (fun s1 b1 H1 e1 => ?_) (fun s1 i a xs x b1 ea hx hi => ?_)⟩
    case refine_2 =>
      subst ea
      obtain ⟨a', xs', ea, ga, _⟩ := dq_list h1 (size_lst s1).1
      cases ea
      rw [eG _ _ ga] at hx
      cases hx
      exact qb (.itm 0 i) CI x (by simp only [faultF, s1, b1, Bool.true_eq_false, if_false]) ⟨rfl, _, _, rfl, ga, hi⟩
    obtain ⟨a1, xs1, rfl, g1, q1⟩ := dq_list h1 (size_lst s1).1
    have e1s := rBad_strs b1
    have hx1 : xs1 = ((items d1).map unS).map V.str := strs_back (by rw [← e1s]; exact q1)
    have l1 : ((items d1).map unS).length ≤ 4096 := by
      have := (size_lst s1).2
      rw [List.length_map]
      omega
    rw [hx1] at g1
    have x1 := eG.trans e1
    refine ⟨_, rfl, _, rfl, ckO_k (rs := (items d1).map unS) (h2.mono (same_ex x1)) (x1 _ _ g1) l1 ok.o (fun s2 => ?_) (fun s2 b2 H2 e2 => ?_) (fun s2 i a xs x b2 ea hx hi => ?_)⟩
    · intro H3 e3
      exact qb (.lst 1) CL v2 (by simp only [faultF, s1, b1, s2, Bool.true_eq_false, if_false, if_true]) ⟨rfl, rfl⟩ H3 (e1.trans e3)
    case refine_3 =>
      subst ea
      obtain ⟨a', xs', ea, ga, _⟩ := dq_list h2 (size_lst s2).1
      cases ea
      rw [x1 _ _ ga] at hx
      cases hx
      intro H3 e3
      exact qb (.itm 1 i) CI x (by simp only [faultF, s1, b1, s2, b2, Bool.true_eq_false, if_false]) ⟨rfl, _, _, rfl, ga, hi⟩ H3 (e1.trans e3)
    obtain ⟨os, eos, hos⟩ := oBad_own b2
    obtain ⟨a2, xs2, rfl, g2, q2⟩ := dq_list h2 (size_lst s2).1
    have e2d : d2 = .list (os.map ownD) := by rw [lst_items (size_lst s2).1, eos]
    have l2 : os.length ≤ 4096 := by
      have h1 := (size_lst s2).2
      have h2 := congrArg List.length eos
      rw [List.length_map] at h2
      omega
    have x2 := x1.trans e2
    refine ⟨_, rfl, _, rfl, _, rfl, ckF_k (os := os) (rs := (items d1).map unS) (h3.mono (same_ex x2)) (by rw [← e2d]; exact h2.mono (same_ex x2)) l2 (x2 _ _ g1) ok.f (fun s3 => ?_) (fun s3 b3 H3 e3 => ?_) (fun s3 i a xs x b3 ea hx hi => ?_)⟩
    · intro H3 e3
      exact qb (.lst 2) CL v3 (by simp only [faultF, s1, b1, s2, b2, s3, Bool.true_eq_false, if_false, if_true]) ⟨rfl, rfl⟩ H3 ((e1.trans e2).trans e3)
    case refine_3 =>
      subst ea
      obtain ⟨a', xs', ea, ga, _⟩ := dq_list h3 (size_lst s3).1
      cases ea
      rw [x2 _ _ ga] at hx
      cases hx
      intro H3 e3
      rw [hos] at b3
      exact qb (.itm 2 i) CI x (by simp only [faultF, s1, b1, s2, b2, s3, b3, Bool.true_eq_false, if_false]) ⟨rfl, _, _, rfl, ga, hi⟩ H3 ((e1.trans e2).trans e3)
    rw [hos] at b3
    obtain ⟨q, ed1, ed2, ed3, le, qg⟩ := qg (by simp only [faultF, s1, b1, s2, b2, s3, b3, Bool.true_eq_false, if_false])
    have x3 := x2.trans e3
    have er : (items d1).map unS = q.rs := by
      rw [ed1]
      simp [strsD, items, unS, List.map_map, Function.comp_def]
    have gq1 : H3 a1 = some (.lst (q.rs.map V.str)) := by
      rw [x3 _ _ g1, er]
    have hp3 : H3 p = some (.ins C dx []) := e3 _ _ (e2 _ _ (e1 _ _ hp))
    refine ⟨_, rfl, a1, _, rfl, .inl (SqL.of gq1), fun l nl => ?_⟩
    have npl : p ≠ l := ne_of_none hp3 nl
    refine ⟨_, rfl, p, C, dx, [], rfl, (by rw [upd_ne npl]; exact hp3), T.cl, T.nR, (by show 0 < 1000; decide), ?_⟩
    have k1 : New H (upd H3 l (.lst (q.rs.map V.str))) (upd emp l (.lst (q.rs.map V.str))) := (new_ofEx (e1.trans (e2.trans e3))).put nl
    have x4 : Ex G (upd H3 l (.lst (q.rs.map V.str))) := x3.trans (Ex.new nl)
    have xp : ∀ {H4 : Hp} {o : HO}, Ex G H4 → Ex G (upd H4 p o) := fun x a u e => by
      have z : a ≠ p := fun z => by rw [z, gp] at e; cases e
      rw [upd_ne z]
      exact x a u e
    obtain ⟨a3, xs3, rfl, g3, q3⟩ := dq_list h3 (size_lst s3).1
    rw [ed2] at h2
    rw [ed3] at h3
    refine ⟨_, rfl, cpO_k (os := q.os) (h2.mono (same_ex (xp x4))) le.os fun a2' H5 M5 k5 h5 => ?_⟩
    have hp5 := k5.hh _ _ (upd_same (a := p))
    refine ⟨_, rfl, p, C, dx, _, rfl, hp5, T.cl, T.nO, (by show 1 < 1000; decide), ?_⟩
    obtain ⟨k5', e5⟩ := new_swap k5 (o0 := .ins C dx []) (by rw [upd_ne npl]; exact hp3)
    generalize upd H5 p (.ins C dx []) = A5 at k5' e5
    subst e5
    have x5 : Ex G A5 := x4.trans k5'.hh
    rw [upd_upd]
    refine ⟨_, rfl, cpF_k (fs := q.fs) (h3.mono (same_ex (xp x5))) le.fl le.fs fun a3' H6 M6 k6 h6 => ?_⟩
    have hp6 := k6.hh _ _ (upd_same (a := p))
    refine ⟨_, rfl, p, C, dx, _, rfl, hp6, T.cl, T.nF, (by rw [show putF "_rights" (V.ref l) [] = ([("_rights", V.ref l)] : List (Str × V)) from rfl, putF_o]; show 2 < 1000; decide), ?_⟩
    have hp4 : (upd H3 l (.lst (q.rs.map V.str))) p = some (.ins C dx []) := by rw [upd_ne npl]; exact hp3
    obtain ⟨k6', e6⟩ := new_swap k6 (o0 := .ins C dx []) (k5'.hh _ _ hp4)
    generalize upd H6 p (.ins C dx []) = A6 at k6' e6
    subst e6
    rw [upd_upd, show putF "_rights" (V.ref l) [] = ([("_rights", V.ref l)] : List (Str × V)) from rfl, putF_o, putF_f]
    have kk := (k1.trans k5').trans k6'
    have r1' : Ex (upd emp l (.lst (q.rs.map V.str))) (join (join (upd emp l (.lst (q.rs.map V.str))) M5) M6) := join_l.trans join_l
    have r2' : Ex M5 (join (join (upd emp l (.lst (q.rs.map V.str))) M5) M6) := (k1.right k5').trans join_l
    have r3' : Ex M6 (join (join (upd emp l (.lst (q.rs.map V.str))) M5) M6) := (k1.trans k5').right k6'
    exact qg A6 _ l a2' a3' kk (r1' _ _ upd_same) (h5.dq.mono (same_ex r2')) (h6.dq.mono (same_ex r3'))
end
end Lx

set_option Elab.async false
set_option maxRecDepth 100000
set_option linter.all false
set_option maxHeartbeats 2000000
/-! KitQ: == and != of an instance whose class has its own ==, beside anything; plain data to the left of such an instance. -/
namespace KxQ
open PySem PySem.W PyProof.Rows PySem.SeqAt
section
variable {prog : Program} {w : World} {A : Around} {E : Value → Shared → Prop} {s : Shared} {K : Frag} {x C f : Addr} {ox : Obj} {od : Option Obj} {b tb : Value}
/-- x != b by the inherited != over the own == -/
theorem ne_K {Q : Value → Shared → Prop} (hu : A.units + 1 < cLine) (X : K.In s.heap) (I : InstAt s.heap x ox C od) (hb : Looks (model prog w) s.heap (typeOf b) tb) (hn : notFirst K C tb = true)
    (hne : findIn K (.ref C) "__ne__" = some (some (.builtin "object.__ne__"))) (hob : subIn K (.ref C) (.type "object") = some true)
    (hs : findIn K (.ref C) "__eq__" = some (some (.ref f))) (hf : isFn K (.ref f) = true)
    (h : wpAny (model prog w) A.in1 (call (.ref f) [.ref x, b]) (fun v s' => ∃ r, v = .bool r ∧ Q (.bool (!r)) s') E s) : wpAny (model prog w) A (richCompare .NotEq (.ref x) b) Q E s := by
  have ob := F.cmp_object
  have body : wpAny (model prog w) A.in1 (Builtin.«object.__ne__» ⟨[.ref x, b], []⟩) (fun fin s' => ∃ r, fin = .done (.ret (.bool r)) ∧ Q (.bool r) s') E s := by
    obtain ⟨hp, g, d, t, os⟩ := s
    unfold Builtin.«object.__ne__»
    repeat (first
      | with_reducible refine wpAny_cRoomFor (show A.in1.units < cLine from hu) ?_
      | (refine wpAny_bind (m := callSpecialIfBound? (.ref x) (Str.ofString "__eq__") [b])
          (ifBound_K X I hs hf (wpAny_mono h (fun r s' hr => by
            obtain ⟨b, rfl, hq⟩ := hr
            repeat (first | exact ⟨_, rfl, hq⟩ | exact wpAny_pure ⟨_, rfl, hq⟩ | exact wpAny_truthy_bool ⟨_, rfl, hq⟩ | (refine wpAny_bind (m := truthy (.bool _)) (wpAny_truthy_bool ?_)) | wp_step)) fun _ _ e => e)))
      | wp_step)
  have one : wpAny (model prog w) A (tryCompare (.ref x) "__ne__" b) (fun r s' => ∃ r', r = some (.bool r') ∧ Q (.bool r') s') E s := by
    unfold tryCompare
    refine wpAny_bind ?_
    simp only [callSpecialIfBound?, bindSpecialIfBound?]
    have fin : wpAny (model prog w) A (call (.builtin "object.__ne__") ([.ref x] ++ [b]) >>= fun v => pure (some v)) (fun r => wpAny (model prog w) A (match r with | some .notImplemented | none => pure none | some v => pure (some v)) (fun r s' => ∃ r', r = some (.bool r') ∧ Q (.bool r') s') E) E s := by
      refine wpAny_bind (wpAny_call (codeAny_call_builtin ob.ne.plain F.cmpEntry_ne (check_slot F.cmpKind_ne F.cmpSplit_ne (I.type.andThen (looks_subIn X hob)) (F.cmpArgs_ne _ _) (wpAny_mono body (fun fin s' hv => ?_) fun _ _ e => e))))
      obtain ⟨r, rfl, q⟩ := hv
      exact wpAny_pure (wpAny_pure ⟨r, rfl, q⟩)
    refine wpAny_holding (wpAny_bind (wpAny_bind (wpAny_bind (I.type.here ((looks_findIn X hne).here ?_)))))
    simp only [ob.ne.bind]
    refine wpAny_bind (wpAny_askSetting (wpAny_ite ?_))
    split
    · exact wpAny_bind (wpAny_pure (wpAny_pure fin))
    · exact wpAny_tryCatch (wpAny_bind (wpAny_pure (wpAny_pure fin)))
  unfold richCompare
  simp only [oneThing_ref]
  refine wpAny_holding (wpAny_bind (wpAny_cRoomFor (Nat.lt_of_succ_lt hu) ?_))
  refine wpAny_bind (I.type.here (wpAny_bind (hb.here ?_)))
  split
  · rename_i q
    have e : subIn K tb (.ref C) = some false := by
      rcases Bool.or_eq_true_iff.mp hn with e | e
      · rw [beq_iff_eq.mp e] at q; simp at q
      · exact beq_iff_eq.mp e
    refine wpAny_bind ((looks_subIn X e).here ?_)
    simp only [Bool.false_eq_true, if_false]
    refine wpAny_bind (wpAny_mono one (fun r s' z => ?_) fun _ _ e => e)
    obtain ⟨v, rfl, hq⟩ := z
    exact wpAny_pure hq
  · refine wpAny_bind (wpAny_pure ?_)
    simp only [Bool.false_eq_true, if_false]
    refine wpAny_bind (wpAny_mono one (fun r s' z => ?_) fun _ _ e => e)
    obtain ⟨v, rfl, hq⟩ := z
    exact wpAny_pure hq
/-- u == x, u of a built-in type that declines, x an instance with its own == -/
theorem rev_K {u : Value} {T id : String} {Q : Value → Shared → Prop} (hu : A.units < cLine) (X : K.In s.heap) (ha : s.TypeIs u T) (I : InstAt s.heap x ox C od) (hsub : subIn K (.ref C) (.type T) = some false)
    (h1 : Slot T "__eq__" id) (hc : ∀ Q' : Value → Shared → Prop, Q' .notImplemented s → wpAny (model prog w) A (call (.builtin id) [u, .ref x]) Q' E s)
    (hs : findIn K (.ref C) "__eq__" = some (some (.ref f))) (hf : isFn K (.ref f) = true)
    (h : wpAny (model prog w) A (call (.ref f) [.ref x, u]) (PySem.W.CmpBack Q) E s) : wpAny (model prog w) A (richCompare .Eq u (.ref x)) Q E s := by
  have one : wpAny (model prog w) A (tryCompare (.ref x) "__eq__" u) (fun r s' => ∃ v, r = some v ∧ Q v s') E s := by
    unfold tryCompare
    refine wpAny_bind (ifBound_K X I hs hf (wpAny_mono h (fun v s' hv => ?_) fun _ _ e => e))
    cases v <;> first | exact hv.elim | exact wpAny_pure ⟨_, rfl, hv⟩
  unfold richCompare
  simp only [ha.oneThing_none]
  refine wpAny_holding (wpAny_bind (wpAny_cRoomFor hu ?_))
  refine wpAny_bind (wpAny_typeOf ha (wpAny_bind (I.type.here ?_)))
  have hne : (Value.type T != Value.ref C) = true := rfl
  simp only [hne, if_true]
  refine wpAny_bind ((looks_subIn X hsub).here ?_)
  simp only [Bool.false_eq_true, if_false, Bool.not_false, if_true]
  refine wpAny_bind (m := tryCompare u _ (.ref x)) (wpAny_tryCompare_declines ha h1 (hc _ ⟨rfl, ?_⟩))
  refine wpAny_bind (wpAny_mono one (fun r s' z => ?_) fun _ _ e => e)
  obtain ⟨v, rfl, hq⟩ := z
  exact wpAny_pure hq
end
end KxQ

set_option Elab.async false
set_option maxRecDepth 100000
set_option linter.all false
set_option maxHeartbeats 2000000
namespace KxQ
open PySem PySem.W PyProof.Rows PySem.SeqAt
open AutoSeq1 (wpAny_loadPart')
section
variable {prog : Program} {w : World} {A : Around} {E : Value → Shared → Prop} {s : Shared} {K : Frag} {x C dx : Addr} {od : Option Obj}
theorem cut {T : String} {name : Str} {id : String} {B : Builtin} {self : Value} {rest : List Value} {Q : Value → Shared → Prop} (slot : Slot T name id) (hT : s.TypeIs self T)
    (entry : entryFor table id = some B) (args : argsOk id ⟨self :: rest, []⟩)
    (h : ∀ R : Result → Shared → Prop, R (.ok (.ret .notImplemented)) s → wpAny (model prog w) A.in1 (B ⟨self :: rest, []⟩) (GQ.FinOf prog w A R) (fun e s' => R (.error e) s') s) (q : Q .notImplemented s) :
    wpAny (model prog w) A (call (.builtin id) (self :: rest)) Q E s := GQ.call_here slot hT entry args (h _ q)
theorem dec_list {l : Addr} {items : Array Value} {n : Nat} {dd : Option Addr} {sl : Array (Option Value)} (X : K.In s.heap) (hl : s.heap.get? l = some { cls := .type "list", dict := dd, data := .seq items n, slots := sl })
    (I : InstAt s.heap x (instObj C dx) C od) (hs : subIn K (.ref C) (.type "list") = some false) {R : Result → Shared → Prop} (h : R (.ok (.ret .notImplemented)) s) :
    wpAny (model prog w) A.in1 (Builtin.«list.__eq__» ⟨[.ref l, .ref x], []⟩) (GQ.FinOf prog w A R) (fun e s' => R (.error e) s') s := by
  have L : Looks (model prog w) s.heap (isInstance (.ref x) (.type "list")) false := I.type.andThen (looks_subIn X hs)
  obtain ⟨hp, g, d, tk, os⟩ := s
  repeat (first | with_reducible refine L.here ?_ | wp_step)
  exact h
theorem dec_tup {l : Addr} {items : Array Value} {n : Nat} {dd : Option Addr} {sl : Array (Option Value)} (X : K.In s.heap) (hl : s.heap.get? l = some { cls := .type "tuple", dict := dd, data := .seq items n, slots := sl })
    (I : InstAt s.heap x (instObj C dx) C od) (hs : subIn K (.ref C) (.type "tuple") = some false) {R : Result → Shared → Prop} (h : R (.ok (.ret .notImplemented)) s) :
    wpAny (model prog w) A.in1 (Builtin.«tuple.__eq__» ⟨[.ref l, .ref x], []⟩) (GQ.FinOf prog w A R) (fun e s' => R (.error e) s') s := by
  have L : Looks (model prog w) s.heap (isInstance (.ref x) (.type "tuple")) false := I.type.andThen (looks_subIn X hs)
  obtain ⟨hp, g, d, tk, os⟩ := s
  repeat (first | with_reducible refine L.here ?_ | with_reducible refine wpAny_loadPart' hl ?_ | wp_step)
  exact h
theorem dec_dict {l : Addr} {es : Array DictEntry} {n : Nat} {dd : Option Addr} {sl : Array (Option Value)} (X : K.In s.heap) (hl : s.heap.get? l = some { cls := .type "dict", dict := dd, data := .dict es n, slots := sl })
    (I : InstAt s.heap x (instObj C dx) C od) (hs : subIn K (.ref C) (.type "dict") = some false) {R : Result → Shared → Prop} (h : R (.ok (.ret .notImplemented)) s) :
    wpAny (model prog w) A.in1 (Builtin.«dict.__eq__» ⟨[.ref l, .ref x], []⟩) (GQ.FinOf prog w A R) (fun e s' => R (.error e) s') s := by
  have L : Looks (model prog w) s.heap (isInstance (.ref x) (.type "dict")) false := I.type.andThen (looks_subIn X hs)
  obtain ⟨hp, g, d, tk, os⟩ := s
  repeat (first | with_reducible refine L.here ?_ | with_reducible refine wpAny_loadPart' hl ?_ | wp_step)
  exact h
theorem dec_str {y : Str} {u : Tok} (I : InstAt s.heap x (instObj C dx) C od) {R : Result → Shared → Prop} (h : R (.ok (.ret .notImplemented)) s) :
    wpAny (model prog w) A.in1 (Builtin.«str.__eq__» ⟨[.str y u, .ref x], []⟩) (GQ.FinOf prog w A R) (fun e s' => R (.error e) s') s := by
  have hx := I.at_
  obtain ⟨hp, g, d, tk, os⟩ := s
  repeat (first | with_reducible refine wpAny_load hx ?_ | wp_step)
  exact h
theorem dec_int {i : Int} {u : Tok} (I : InstAt s.heap x (instObj C dx) C od) {R : Result → Shared → Prop} (h : R (.ok (.ret .notImplemented)) s) :
    wpAny (model prog w) A.in1 (Builtin.«int.__eq__» ⟨[.int i u, .ref x], []⟩) (GQ.FinOf prog w A R) (fun e s' => R (.error e) s') s := by
  have hx := I.at_
  obtain ⟨hp, g, d, tk, os⟩ := s
  repeat (first | with_reducible refine wpAny_load hx ?_ | wp_step)
  exact h
theorem dec_bool {b : Bool} (I : InstAt s.heap x (instObj C dx) C od) {R : Result → Shared → Prop} (h : R (.ok (.ret .notImplemented)) s) :
    wpAny (model prog w) A.in1 (Builtin.«int.__eq__» ⟨[.bool b, .ref x], []⟩) (GQ.FinOf prog w A R) (fun e s' => R (.error e) s') s := by
  have hx := I.at_
  obtain ⟨hp, g, d, tk, os⟩ := s
  repeat (first | with_reducible refine wpAny_load hx ?_ | wp_step)
  exact h
theorem dec_none {R : Result → Shared → Prop} (h : R (.ok (.ret .notImplemented)) s) :
    wpAny (model prog w) A.in1 (Builtin.«NoneType.__eq__» ⟨[.none, .ref x], []⟩) (GQ.FinOf prog w A R) (fun e s' => R (.error e) s') s := by
  obtain ⟨hp, g, d, tk, os⟩ := s
  repeat wp_step
  exact h
end
end KxQ

set_option Elab.async false
set_option maxRecDepth 100000
set_option linter.all false
set_option maxHeartbeats 2000000
/-! KitQ3: == and != by an own ==, as rules. -/
namespace Kx
open PySem PySem.Spec PyProof.Rows L2 Evl
/-- what the text says of a class with its own == -/
structure OwnE (K : PySem.W.Frag) (C f : Addr) : Prop where
  hs : PySem.W.findIn K (.ref C) "__eq__" = some (some (.ref f))
  hf : PySem.W.isFn K (.ref f) = true
  hne : PySem.W.findIn K (.ref C) "__ne__" = some (some (.builtin "object.__ne__"))
  hob : PySem.W.subIn K (.ref C) (.type "object") = some true
section
variable {X : Cx} {CX : CXT} {n : Nat} {f C : Addr} {fd : FuncData} {ps : List Str} {sp : Sp} {E : XK} {pins : List (Addr × Obj)} {σ : L2.St} {H : Hp} {s : Shared}
theorem run_fo {A : Around} {Q : VK} {us : List Value} {vs : List V} (F : FnOk X.prog X.w X.K X.mg X.base CX n f fd ps sp) (hb : Binds X.K fd ps []) (hr : Room n A) (e0 : Env0 X.prog X.w X.K X.mg X.base A X.stack s H)
    (hx : Passes CX X E) (I : Inv X pins σ H s) (r : Vals vs us) (h : sp vs H Q E) : wpAny (model X.prog X.w) A (call (.ref f) us) (EP X pins σ Q) X.xe s := by
  have hl := F.len _ _ _ _ h
  refine wpAny_call (codeAny_mono (F.run A X.stack s H ⟨us, []⟩ us vs Q E hr e0 (by
    have := hb s us I.kIn (by rw [List.append_nil, ← r.length]; exact hl)
    rw [List.append_nil] at this
    exact this) r h) fun r s' hq => ?_)
  cases r with
  | error e => exact hx pins σ H s e s' I hq
  | ok fl =>
    cases fl with
    | ret u => exact I.after hq
    | next => exact False.elim hq
    | brk => exact False.elim hq
    | cont => exact False.elim hq
theorem looks_tyx {x : V} {u t : Value} (I : Inv X pins σ H s) (rx : RelV x u) (ty : TyX X.K H x t) : PySem.W.Looks (model X.prog X.w) s.heap (typeOf u) t := by
  obtain ⟨P, Z, p, _⟩ := kit_of I rx ty
  exact Z.ty _ _ I.kIn p
/-- x == y, x an instance with its own ==, y anything -/
def rEqO (K : PySem.W.Frag) (C : Addr) (sp : Sp) (E : XK) : R2 := fun x y H Q => ∃ (a dx : Addr) (fs : List (Str × V)) (t : Value), x = .ref a ∧ H a = some (.ins C dx fs) ∧ TyX K H y t ∧ PySem.W.notFirst K C t = true ∧ sp [x, y] H (fun v H' => ∃ b, v = .bl b ∧ Q (.bl b) H') E
def rNeO (K : PySem.W.Frag) (C : Addr) (sp : Sp) (E : XK) : R2 := fun x y H Q => ∃ (a dx : Addr) (fs : List (Str × V)) (t : Value), x = .ref a ∧ H a = some (.ins C dx fs) ∧ TyX K H y t ∧ PySem.W.notFirst K C t = true ∧ sp [x, y] H (fun v H' => ∃ b, v = .bl b ∧ Q (.bl (!b)) H') E
theorem op_eqO (O : OwnE X.K C f) (F : FnOk X.prog X.w X.K X.mg X.base CX n f fd ps sp) (hb : Binds X.K fd ps []) (hr : Room n X.A) (hx : Passes CX X E) : OpR X (compareOp .Eq) (rEqO X.K C sp E) := by
  intro pins s σ H x y v u Q I rx ry h
  obtain ⟨a, dx, fs, t, rfl, ha, ty, hn, q⟩ := h
  have ry' := ry
  cases (show v = Value.ref a from rx)
  obtain ⟨mA, J, _⟩ := ins_get I.hok ha
  obtain ⟨od, J, _⟩ := J.look
  obtain ⟨m, hF⟩ := I.fr
  show wpAny (model X.prog X.w) X.A (richCompare .Eq (.ref a) u) (EP X pins σ Q) X.xe s
  refine PySem.W.cmp_K (op := .Eq) (tb := t) hr.units0 hF I.ok.mod.kin J (looks_tyx I ry ty) hn O.hs O.hf ?_
  refine wpAny_mono (run_fo F hb hr I.env0 hx I (us := [.ref a, u]) (vs := [.ref a, y]) (.cons rfl (.cons ry' .nil)) q) (fun r s' z => ?_) fun _ _ x => x
  obtain ⟨z', H', I', rz, b, rfl, q⟩ := z
  cases (show r = Value.bool b from rz)
  exact ⟨.bl b, H', I', rfl, q⟩
theorem op_neO (O : OwnE X.K C f) (F : FnOk X.prog X.w X.K X.mg X.base CX n f fd ps sp) (hb : Binds X.K fd ps []) (hr : Room (n + 1) X.A) (hx : Passes CX X E) : OpR X (compareOp .NotEq) (rNeO X.K C sp E) := by
  intro pins s σ H x y v u Q I rx ry h
  obtain ⟨a, dx, fs, t, rfl, ha, ty, hn, q⟩ := h
  have ry' := ry
  cases (show v = Value.ref a from rx)
  obtain ⟨mA, J, _⟩ := ins_get I.hok ha
  obtain ⟨od, J, _⟩ := J.look
  show wpAny (model X.prog X.w) X.A (richCompare .NotEq (.ref a) u) (EP X pins σ Q) X.xe s
  refine KxQ.ne_K (tb := t) (Nat.lt_of_le_of_lt (Nat.add_le_add_left (by decide : 1 ≤ 64) _) hr.units) I.kIn J (looks_tyx I ry ty) hn O.hne O.hob O.hs O.hf ?_
  refine wpAny_mono (run_fo F hb hr.in1 I.env0.in1 hx I (us := [.ref a, u]) (vs := [.ref a, y]) (.cons rfl (.cons ry' .nil)) q) (fun r s' z => ?_) fun _ _ x => x
  obtain ⟨z', H', I', rz, b, rfl, q⟩ := z
  cases (show r = Value.bool b from rz)
  exact ⟨b, rfl, .bl (!b), H', I', rfl, q⟩
/-- x == y, x plain data, y an instance with its own == -/
def rEqR (K : PySem.W.Frag) (C : Addr) (sp : Sp) (E : XK) : R2 := fun x y H Q => ∃ (a dx : Addr) (fs : List (Str × V)) (d : PyData), y = .ref a ∧ H a = some (.ins C dx fs) ∧ Dq K H x d ∧ sp [y, x] H (fun v H' => ∃ b, v = .bl b ∧ Q (.bl b) H') E
def NoSub (K : PySem.W.Frag) (C : Addr) : Prop := ∀ T ∈ (["NoneType", "bool", "int", "str", "list", "tuple", "dict"] : List String), PySem.W.subIn K (.ref C) (.type T) = some false
theorem op_eqR (O : OwnE X.K C f) (N : NoSub X.K C) (FF : FnOk X.prog X.w X.K X.mg X.base CX n f fd ps sp) (hb : Binds X.K fd ps []) (hr : Room n X.A) (hx : Passes CX X E) : OpR X (compareOp .Eq) (rEqR X.K C sp E) := by
  intro pins s σ H x y v u Q I rx ry h
  obtain ⟨a, dx, fs, d, rfl, ha, hd, q⟩ := h
  have rx' := rx
  cases (show u = Value.ref a from ry)
  obtain ⟨mA, J0, _⟩ := ins_get I.hok ha
  obtain ⟨od, J, _⟩ := J0.look
  show wpAny (model X.prog X.w) X.A (richCompare .Eq v (.ref a)) (EP X pins σ Q) X.xe s
  have fin : wpAny (model X.prog X.w) X.A (call (.ref f) [.ref a, v]) (PySem.W.CmpBack (EP X pins σ Q)) X.xe s := by
    refine wpAny_mono (run_fo FF hb hr I.env0 hx I (us := [.ref a, v]) (vs := [.ref a, x]) (.cons rfl (.cons rx' .nil)) q) (fun r s' z => ?_) fun _ _ x => x
    obtain ⟨z', H', I', rz, b, rfl, q⟩ := z
    cases (show r = Value.bool b from rz)
    exact ⟨.bl b, H', I', rfl, q⟩
  cases hd with
  | non =>
    cases (show v = Value.none from rx)
    exact KxQ.rev_K (T := "NoneType") hr.units0 I.kIn rfl J (N _ (by decide)) F.slot_NoneType_eq (fun Q' q' => KxQ.cut F.slot_NoneType_eq rfl F.entry_NoneType_eq (F.args_NoneType_eq_2 _ _) (fun R h => KxQ.dec_none (prog := X.prog) (w := X.w) h) q') O.hs O.hf fin
  | bl b =>
    cases (show v = Value.bool b from rx)
    exact KxQ.rev_K (T := "bool") hr.units0 I.kIn rfl J (N _ (by decide)) F.slot_bool_eq (fun Q' q' => KxQ.cut F.slot_bool_eq rfl F.entry_int_eq (F.args_int_eq_2 _ _) (fun R h => KxQ.dec_bool (prog := X.prog) (w := X.w) J h) q') O.hs O.hf fin
  | int i =>
    obtain ⟨t, e⟩ := (show ∃ t, v = Value.int i t from rx)
    cases e
    exact KxQ.rev_K (T := "int") hr.units0 I.kIn (typeIs_int _ _ _) J (N _ (by decide)) F.slot_int_eq (fun Q' q' => KxQ.cut F.slot_int_eq (typeIs_int _ _ _) F.entry_int_eq (F.args_int_eq_2 _ _) (fun R h => KxQ.dec_int (prog := X.prog) (w := X.w) J h) q') O.hs O.hf fin
  | str z =>
    obtain ⟨t, e⟩ := (show ∃ t, v = Value.str z t from rx)
    cases e
    exact KxQ.rev_K (T := "str") hr.units0 I.kIn (typeIs_str _ _ _) J (N _ (by decide)) F.slot_str_eq (fun Q' q' => KxQ.cut F.slot_str_eq (typeIs_str _ _ _) F.entry_str_eq (F.args_str_eq_2 _ _) (fun R h => KxQ.dec_str (prog := X.prog) (w := X.w) J h) q') O.hs O.hf fin
  | @lst l xs ds hl _ =>
    cases (show v = Value.ref l from rx)
    obtain ⟨_, its, n, rv, ho⟩ := (show ObjOk X.prog X.w H s.heap l (.lst _) from I.hok l _ hl)
    exact KxQ.rev_K (T := "list") hr.units0 I.kIn ⟨_, ho, rfl⟩ J (N _ (by decide)) F.slot_list_eq (fun Q' q' => KxQ.cut F.slot_list_eq ⟨_, ho, rfl⟩ F.entry_list_eq (F.args_list_eq_2 _ _) (fun R h => KxQ.dec_list (prog := X.prog) (w := X.w) I.kIn ho J (N _ (by decide)) h) q') O.hs O.hf fin
  | @tup l xs ds hl _ =>
    cases (show v = Value.ref l from rx)
    obtain ⟨its, rv, ⟨⟨cls, dd, dt, sl⟩, ho, hc, n, hd'⟩, _⟩ := I.tuple hl
    simp only at hc hd'
    subst hc hd'
    exact KxQ.rev_K (T := "tuple") hr.units0 I.kIn ⟨_, ho, rfl⟩ J (N _ (by decide)) F.slot_tuple_eq (fun Q' q' => KxQ.cut F.slot_tuple_eq ⟨_, ho, rfl⟩ F.entry_tuple_eq (F.args_tuple_eq_2 _ _) (fun R h => KxQ.dec_tup (prog := X.prog) (w := X.w) I.kIn ho J (N _ (by decide)) h) q') O.hs O.hf fin
  | @dic l kvs ds hl _ =>
    cases (show v = Value.ref l from rx)
    obtain ⟨_, hal, vs, rv, ⟨cls, dd, dt, sl⟩, es, ep, ho, hx', hd', _⟩ := (show ObjOk X.prog X.w H s.heap l (.dK _) from I.hok l _ hl)
    have hc := hx'.1
    simp only at hc hd'
    subst hc hd'
    exact KxQ.rev_K (T := "dict") hr.units0 I.kIn ⟨_, ho, rfl⟩ J (N _ (by decide)) F.slot_dict_eq (fun Q' q' => KxQ.cut F.slot_dict_eq ⟨_, ho, rfl⟩ F.entry_dict_eq (F.args_dict_eq_2 _ _) (fun R h => KxQ.dec_dict (prog := X.prog) (w := X.w) I.kIn ho J (N _ (by decide)) h) q') O.hs O.hf fin
/-- either of two ways -/
theorem op_or {fn : Value → Value → Sem Value} {r r' : R2} (h : OpR X fn r) (h' : OpR X fn r') : OpR X fn (fun x y H Q => r x y H Q ∨ r' x y H Q) := by
  intro pins s σ H x y v u Q I rx ry q
  rcases q with q | q
  · exact h pins s σ H x y v u Q I rx ry q
  · exact h' pins s σ H x y v u Q I rx ry q
end
end Kx

set_option Elab.async false
set_option maxRecDepth 100000
set_option linter.all false
set_option maxHeartbeats 4000000
namespace Kx
open PySem PySem.Spec PyProof.Rows L2 Evl
mutual
theorem noDict_lay : ∀ {d : PyData}, d.canLay0 = true → d.hasDict = false
  | .none, _ => by simp only [PyData.hasDict]
  | .bool _, _ => by simp only [PyData.hasDict]
  | .int _, _ => by simp only [PyData.hasDict]
  | .str _, _ => by simp only [PyData.hasDict]
  | .list xs, h => by
    simp only [PyData.canLay0] at h
    simp only [PyData.hasDict]
    exact noDict_layA h
  | .tuple xs, h => by
    simp only [PyData.canLay0] at h
    simp only [PyData.hasDict]
    exact noDict_layA h
  | .dict _, h => by simp only [PyData.canLay0] at h; cases h
theorem noDict_layA : ∀ {xs : List PyData}, PyData.canLayAll0 xs = true → PyData.hasDictAll xs = false
  | [], _ => by simp only [PyData.hasDictAll]
  | x :: xs, h => by
    simp only [PyData.canLayAll0, Bool.and_eq_true] at h
    simp only [PyData.hasDictAll, noDict_lay h.1, noDict_layA h.2, Bool.or_self]
end
theorem shaped_noDict {d : PyData} (h : SeqAt.shaped d = true) : d.hasDict = false := noDict_lay (Bool.and_eq_true_iff.mp h).1
mutual
theorem eqv_self : ∀ {d : PyData}, d.hasDict = false → PyData.eqv d d = true
  | .none, _ => by simp only [PyData.eqv]
  | .bool _, _ => by simp only [PyData.eqv, beq_self_eq_true]
  | .int _, _ => by simp only [PyData.eqv, beq_self_eq_true]
  | .str _, _ => by simp only [PyData.eqv, beq_self_eq_true]
  | .list xs, h => by
    simp only [PyData.hasDict] at h
    simp only [PyData.eqv]
    exact eqv_selfA h
  | .tuple xs, h => by
    simp only [PyData.hasDict] at h
    simp only [PyData.eqv]
    exact eqv_selfA h
  | .dict _, h => by simp only [PyData.hasDict] at h; cases h
theorem eqv_selfA : ∀ {xs : List PyData}, PyData.hasDictAll xs = false → PyData.eqvAll xs xs = true
  | [], _ => by simp only [PyData.eqvAll]
  | x :: xs, h => by
    simp only [PyData.hasDictAll, Bool.or_eq_false_iff] at h
    simp only [PyData.eqvAll, eqv_self h.1, eqv_selfA h.2, Bool.and_self]
end
end Kx
namespace Lx
open PySem PySem.Spec PyProof.Rows L2 Evl Kx
/-- parts that == can compare -/
structure ShP (q : Prt) : Prop where
  r : SeqAt.shaped (strsD q.rs) = true
  o : SeqAt.shaped (.list (q.os.map ownD)) = true
  f : SeqAt.shaped (.list (q.fs.map fnD)) = true
def sameP (q q2 : Prt) : Bool := PyData.eqv (strsD q.rs) (strsD q2.rs) && PyData.eqv (.list (q.os.map ownD)) (.list (q2.os.map ownD)) && PyData.eqv (.list (q.fs.map fnD)) (.list (q2.fs.map fnD))
theorem sameP_self {q : Prt} (h : ShP q) : sameP q q = true := by
  unfold sameP
  rw [eqv_self (shaped_noDict h.r), eqv_self (shaped_noDict h.o), eqv_self (shaped_noDict h.f)]
  rfl
/-- what isinstance asks of the class -/
structure PIsi (K : PySem.W.Frag) (C : Addr) : Prop where
  ha : PySem.W.findIn K (.ref C) "__class__" = some (some (.builtin "object.__class__"))
  hn : PySem.W.specialIn K (.builtin "object.__class__") "__get__" = some (some (.builtin "getset_descriptor.__get__"))
  ht : PySem.W.takesIn K (.builtin "object.__class__") = some true
  hm : PySem.W.mroIn K C (.type "object") = some true
  no : ∀ T ∈ (["NoneType", "bool", "int", "str", "list", "tuple", "dict"] : List String), PySem.W.kitOne K (.type T) (.ref C) = some false
theorem tyN_mem (d : PyData) : tyN d ∈ (["NoneType", "bool", "int", "str", "list", "tuple", "dict"] : List String) := by cases d <;> simp [tyN]
section
variable {P : Program} {w : World} {K : PySem.W.Frag} {mg : Str → Option Value} {base : Heap} {f : Addr} {fd : FuncData}
theorem lk_r (a1 a2 a3 : Addr) : (progF a1 a2 a3).lookup ("_rights" : Str) = some (.ref a1) := rfl
theorem lk_o (a1 a2 a3 : Addr) : (progF a1 a2 a3).lookup ("_owners" : Str) = some (.ref a2) := by
  have h1 : (("_owners" : Str) == ("_rights" : Str)) = false := by decide +kernel
  have h2 : (("_owners" : Str) == ("_owners" : Str)) = true := by decide +kernel
  unfold progF
  simp only [List.lookup, h1, h2]
theorem lk_f (a1 a2 a3 : Addr) : (progF a1 a2 a3).lookup ("_functions" : Str) = some (.ref a3) := by
  have h1 : (("_functions" : Str) == ("_rights" : Str)) = false := by decide +kernel
  have h2 : (("_functions" : Str) == ("_owners" : Str)) = false := by decide +kernel
  have h3 : (("_functions" : Str) == ("_functions" : Str)) = true := by decide +kernel
  unfold progF
  simp only [List.lookup, h1, h2, h3]
theorem isi_p {C p : Addr} {H : Hp} {q : Prt} {Q : VK} (T : PTxt K mg C) (I : PIsi K C) (h : ProgAt K C H p q) (q' : Q (.bl true) H) : rIsiS K [.ref p, .ref C] H Q := by
  obtain ⟨dx, a1, a2, a3, h0, _⟩ := h
  exact ⟨.ref p, .ref C, .ref C, .ref C, true, rfl, .own C, .base (.ins h0 T.cl I.ha I.hn I.ht I.hm), by unfold PySem.W.kitOne; rw [if_pos (beq_self_eq_true _)], q'⟩
theorem isi_d {C : Addr} {H : Hp} {v : V} {d : PyData} {Q : VK} (I : PIsi K C) (h : Dq K H v d) (q' : Q (.bl false) H) : rIsiS K [v, .ref C] H Q :=
  ⟨v, .ref C, .type (tyN d), .ref C, false, rfl, .own C, dq_tyx h, I.no _ (tyN_mem d), q'⟩
abbrev sRi : Stmt := inClass (top 21) 1
abbrev sOs : Stmt := inClass (top 21) 2
abbrev sFs : Stmt := inClass (top 21) 3
abbrev sEq : Stmt := inClass (top 21) 4
theorem scRi : FnScope ["self"] ["self"] (defScope sRi) := ⟨rfl, rfl, rfl, by decide +kernel, rfl, by decide +kernel, by decide +kernel⟩
theorem scOs : FnScope ["self"] ["self"] (defScope sOs) := ⟨rfl, rfl, rfl, by decide +kernel, rfl, by decide +kernel, by decide +kernel⟩
theorem scFs : FnScope ["self"] ["self"] (defScope sFs) := ⟨rfl, rfl, rfl, by decide +kernel, rfl, by decide +kernel, by decide +kernel⟩
theorem scEq : FnScope ["self", "other"] ["self", "other"] (defScope sEq) := ⟨rfl, rfl, rfl, by decide +kernel, rfl, by decide +kernel, by decide +kernel⟩
structure spRi (K : PySem.W.Frag) (C : Addr) (vs : List V) (H : Hp) (Q : VK) (E_ : XK) : Prop where
  mk' ::
  out : ∃ p q, vs = [.ref p] ∧ ProgAt K C H p q ∧ ∀ l H2 M, New H H2 M → M l = some (.lst (q.rs.map V.str)) → Q (.ref l) H2
structure spOs (K : PySem.W.Frag) (C : Addr) (vs : List V) (H : Hp) (Q : VK) (E_ : XK) : Prop where
  mk' ::
  out : ∃ p q, vs = [.ref p] ∧ ProgAt K C H p q ∧ q.os.length ≤ 4096 ∧ ∀ l H2 M, New H H2 M → FrN K H M (.ref l) (.list (q.os.map ownD)) → Q (.ref l) H2
structure spFs (K : PySem.W.Frag) (C : Addr) (d : Nat) (vs : List V) (H : Hp) (Q : VK) (E_ : XK) : Prop where
  mk' ::
  out : ∃ p q, vs = [.ref p] ∧ ProgAt K C H p q ∧ PrtLe d q ∧ ∀ l H2 M, New H H2 M → FrN K H M (.ref l) (.list (q.fs.map fnD)) → Q (.ref l) H2
structure spEqP (K : PySem.W.Frag) (C : Addr) (vs : List V) (H : Hp) (Q : VK) (E_ : XK) : Prop where
  mk' ::
  out : ∃ p v q, vs = [.ref p, v] ∧ ProgAt K C H p q ∧ ShP q ∧ ((∃ p2 q2, v = .ref p2 ∧ ProgAt K C H p2 q2 ∧ ShP q2 ∧ Q (.bl (sameP q q2)) H) ∨ (∃ d, Dq K H v d ∧ Q (.bl false) H))
theorem ok_ri {C : Addr} (F : Fun K "rights" "Program.rights" sRi f fd) (T : PTxt K mg C) (mL : mg "list" = none) : FnOk P w K mg base CX0 1 f fd ["self"] (spRi K C) := by
  refine F.ok scRi (fun vs H Q E h => ?_) (fun cdv A outer s H vs Q E hr h => ?_)
  · obtain ⟨_, _, rfl, _⟩ := h
    rfl
  · obtain ⟨p, q, rfl, ⟨dx, a1, a2, a3, h0, h1, h2, h3⟩, k⟩ := h
    refine ⟨_, pss_one (ps_ret (pe_callTy (call_listK (K := K)) (by rfl) mL (by decide +kernel) (pa_cons (pe_fld (pv 0) rfl) pa_nil))), ?_⟩
    exact ⟨_, rfl, p, C, dx, _, _, rfl, h0, T.cl, T.nR, lk_r _ _ _, a1, _, rfl, .inl (SqL.of h1), fun l nl => k l _ _ (New.refl.put nl) upd_same⟩
theorem ok_os {C fC : Addr} {fdC : FuncData} (F : Fun K "owners" "Program.owners" sOs f fd) (T : PTxt K mg C)
    (FC : FnOk P w K mg base CX0 1 fC fdC ["owners"] (spCpO K)) (mC : mg "copy_owners" = some (.ref fC)) (kC : PySem.W.keepIn K (.ref fC) = true) (bC : Binds K fdC ["owners"] []) : FnOk P w K mg base CX0 2 f fd ["self"] (spOs K C) := by
  refine F.ok scOs (fun vs H Q E h => ?_) (fun cdv A outer s H vs Q E hr h => ?_)
  · obtain ⟨_, _, rfl, _⟩ := h
    rfl
  · obtain ⟨p, q, rfl, ⟨dx, a1, a2, a3, h0, h1, h2, h3⟩, hl, k⟩ := h
    refine ⟨_, pss_one (ps_ret (pe_call FC hr rfl mC kC bC .nil pass0 (pa_cons (pe_fld (pv 0) rfl) pa_nil))), ?_⟩
    exact ⟨_, rfl, p, C, dx, _, _, rfl, h0, T.cl, T.nO, lk_o _ _ _, cpO_k (os := q.os) h2 hl k⟩
theorem ok_fs {d : Nat} {C fC : Addr} {fdC : FuncData} (F : Fun K "functions" "Program.functions" sFs f fd) (T : PTxt K mg C)
    (FC : FnOk P w K mg base CX0 (2 * d + 4) fC fdC ["functions"] (spCpF K d)) (mC : mg "copy_functions" = some (.ref fC)) (kC : PySem.W.keepIn K (.ref fC) = true) (bC : Binds K fdC ["functions"] []) : FnOk P w K mg base CX0 (2 * d + 5) f fd ["self"] (spFs K C d) := by
  refine F.ok scFs (fun vs H Q E h => ?_) (fun cdv A outer s H vs Q E hr h => ?_)
  · obtain ⟨_, _, rfl, _⟩ := h
    rfl
  · obtain ⟨p, q, rfl, ⟨dx, a1, a2, a3, h0, h1, h2, h3⟩, le, k⟩ := h
    refine ⟨_, pss_one (ps_ret (pe_call FC hr rfl mC kC bC .nil pass0 (pa_cons (pe_fld (pv 0) rfl) pa_nil))), ?_⟩
    exact ⟨_, rfl, p, C, dx, _, _, rfl, h0, T.cl, T.nF, lk_f _ _ _, cpF_k (fs := q.fs) h3 le.fl le.fs k⟩
theorem ok_eqP {C : Addr} (F : Fun K "__eq__" "Program.__eq__" sEq f fd) (T : PTxt K mg C) (I : PIsi K C) (mI : mg "isinstance" = none) : FnOk P w K mg base CX0 1 f fd ["self", "other"] (spEqP K C) := by
  refine F.ok scEq (fun vs H Q E h => ?_) (fun cdv A outer s H vs Q E hr h => ?_)
  · obtain ⟨_, _, _, rfl, _⟩ := h
    rfl
  · obtain ⟨p, v, q, rfl, hp, sq, k⟩ := h
    have hu := hr.units
    refine ⟨_, pss_cons (ps_if (pt_not (pt_val (pe_callB (isi_S (K := K)) (by rfl) mI PyProof.Rows.boot_isinstance (pa_cons (pv 1) (pa_cons (pe_cls (by rfl) T.mgC) pa_nil))))) (pss_one (ps_ret pe_bl)) pss_nil)
      (pss_cons (ps_if (PW.pt (pw_or (pt_cmpR (op_neD hu) (pe_fld (pv 0) rfl) (pe_fld (pv 1) rfl) (nomark _)) (pw_or1 (pt_cmpR (op_neD hu) (pe_fld (pv 0) rfl) (pe_fld (pv 1) rfl) (nomark _))))) (pss_one (ps_ret pe_bl)) pss_nil)
      (pss_one (ps_ret (pe_cmpR (op_eqD hu) (pe_fld (pv 0) rfl) (pe_fld (pv 1) rfl) (nomark _))))), ?_⟩
    rcases k with ⟨p2, q2, rfl, hp2, sq2, k⟩ | ⟨d, hd, k⟩
    · refine ⟨_, rfl, isi_p T I hp2 ⟨_, rfl, iteF ?_⟩⟩
      obtain ⟨dx, a1, a2, a3, h0, h1, h2, h3⟩ := hp
      obtain ⟨dy, b1, b2, b3, g0, g1, g2, g3⟩ := hp2
      refine ⟨_, rfl, p, C, dx, _, _, rfl, h0, T.cl, T.nR, lk_r _ _ _, _, rfl, p2, C, dy, _, _, rfl, g0, T.cl, T.nR, lk_r _ _ _, _, _, dp_of (dq_strs h1) (shaped_noDict sq.r), dp_of (dq_strs g1) (shaped_noDict sq2.r), sq.r, sq2.r, ?_⟩
      refine ⟨_, rfl, ite2 (fun e1 => ?_) (fun e1 => ?_)⟩
      · have : sameP q q2 = false := by
          unfold sameP
          rw [show PyData.eqv (strsD q.rs) (strsD q2.rs) = false by simpa using e1]
          rfl
        rw [this] at k
        exact k
      · have e1 : PyData.eqv (strsD q.rs) (strsD q2.rs) = true := by simpa using e1
        refine ⟨_, rfl, p, C, dx, _, _, rfl, h0, T.cl, T.nO, lk_o _ _ _, _, rfl, p2, C, dy, _, _, rfl, g0, T.cl, T.nO, lk_o _ _ _, _, _, dp_of h2 (shaped_noDict sq.o), dp_of g2 (shaped_noDict sq2.o), sq.o, sq2.o, ?_⟩
        refine ⟨_, rfl, ite2 (fun e2 => ?_) (fun e2 => ?_)⟩
        · have : sameP q q2 = false := by
            unfold sameP
            rw [e1, show PyData.eqv (.list (q.os.map ownD)) (.list (q2.os.map ownD)) = false by simpa using e2]
            rfl
          rw [this] at k
          exact k
        · have e2 : PyData.eqv (.list (q.os.map ownD)) (.list (q2.os.map ownD)) = true := by simpa using e2
          refine ⟨_, rfl, p, C, dx, _, _, rfl, h0, T.cl, T.nF, lk_f _ _ _, _, rfl, p2, C, dy, _, _, rfl, g0, T.cl, T.nF, lk_f _ _ _, _, _, dp_of h3 (shaped_noDict sq.f), dp_of g3 (shaped_noDict sq2.f), sq.f, sq2.f, ?_⟩
          unfold sameP at k
          rw [e1, e2, Bool.true_and, Bool.true_and] at k
          exact k
    · exact ⟨_, rfl, isi_d I hd ⟨_, rfl, iteT k⟩⟩
end
end Lx

set_option Elab.async false
set_option maxRecDepth 100000
set_option linter.all false
set_option maxHeartbeats 4000000
namespace Lx
open PySem PySem.Spec PyProof.Rows L2 Evl Kx
/-- parts that make a program -/
structure Good (n d : Nat) (q : Prt) : Prop where
  ok : DataOk n (strsD q.rs) (.list (q.os.map ownD)) (.list (q.fs.map fnD))
  no : faultF (strsD q.rs) (.list (q.os.map ownD)) (.list (q.fs.map fnD)) = none
  le : PrtLe d q
  sh : ShP q
theorem prt_at {K : PySem.W.Frag} {H : Hp} {p : Addr} {q : Prt} (h : Dq K H (.ref p) (prtD q)) : ∃ a1 a2 a3, H p = some (.lst [.ref a1, .ref a2, .ref a3]) ∧ H a1 = some (.lst (q.rs.map V.str)) ∧ Dq K H (.ref a2) (.list (q.os.map ownD)) ∧ Dq K H (.ref a3) (.list (q.fs.map fnD)) := by
  cases h with
  | lst h0 hs =>
  cases hs with
  | cons g1 hs =>
  cases hs with
  | cons g2 hs =>
  cases hs with
  | cons g3 hs =>
  cases hs
  have g2' := g2
  have g3' := g3
  cases g1 with
  | lst k1 s1 =>
  cases g2 with
  | lst k2 s2 =>
  cases g3 with
  | lst k3 s3 => exact ⟨_, _, _, h0, by rw [k1, strs_back s1], g2', g3'⟩
theorem mk_prt {K : PySem.W.Frag} {H : Hp} {p a1 a2 a3 : Addr} {q : Prt} (h0 : H p = some (.lst [.ref a1, .ref a2, .ref a3])) (h1 : H a1 = some (.lst (q.rs.map V.str))) (h2 : Dq K H (.ref a2) (.list (q.os.map ownD))) (h3 : Dq K H (.ref a3) (.list (q.fs.map fnD))) : Dq K H (.ref p) (prtD q) :=
  .lst h0 (.cons (dq_strs h1) (.cons h2 (.cons h3 .nil)))
section
variable {P : Program} {w : World} {K : PySem.W.Frag} {mg : Str → Option Value} {base : Heap} {f : Addr} {fd : FuncData}
abbrev sPgm : Stmt := top 52
theorem scPgm : FnScope ["parts", "owners", "name", "rights", "owner", "body"] ["parts"] (defScope sPgm) := ⟨rfl, rfl, rfl, by decide +kernel, rfl, by decide +kernel, by decide +kernel⟩
structure spPgm (K : PySem.W.Frag) (n d : Nat) (C : Addr) (vs : List V) (H : Hp) (Q : VK) (E_ : XK) : Prop where
  mk' ::
  out : ∃ (p : Addr) (q : Prt), vs = [.ref p] ∧ Dq K H (.ref p) (prtD q) ∧ Good n d q ∧ ∀ p2 H2 M, New H H2 M → ProgAt K C M p2 q → Q (.ref p2) H2
theorem cop_k {p : Addr} {d : Nat} {b : List Stp} {G H : Hp} {Q : VK} {E : XK} (e : Ex G H) (h : Dq K G (.ref p) (.list (bodyD b))) (h1 : nstB b ≤ d) (h2 : cntB b ≤ 4096) (q : ∀ p2 H2 M, New H H2 M → FrN K H M (.ref p2) (.list (bodyD b)) → Q (.ref p2) H2) : spCop K d [.ref p] H Q E := by

  exact ⟨p, G, b, rfl, e, h, h1, h2, q⟩
/-- a program is made of good parts -/
theorem init_k {n d : Nat} {C CL CI p dx a1 a2 a3 : Addr} {q : Prt} {H : Hp} {Q : VK} {E : XK} (hp : H p = none) (hd : H dx = none) (ne : dx ≠ p) (g : Good n d q) (h1 : H a1 = some (.lst (q.rs.map V.str))) (h2 : Dq K H (.ref a2) (.list (q.os.map ownD))) (h3 : Dq K H (.ref a3) (.list (q.fs.map fnD)))
    (k : ∀ H2 M, New H H2 M → ProgAt K C M p q → Q .non H2) : spInit K n d C CL CI [.ref p, .ref a1, .ref a2, .ref a3] (upd (upd H dx (.own p)) p (.ins C dx [])) Q E := by

  have hp2 : (upd H dx (.own p)) p = none := by rw [upd_ne ne.symm]; exact hp
  refine ⟨p, dx, H, .ref a1, .ref a2, .ref a3, _, _, _, rfl, upd_same, (Ex.new hd).trans (Ex.new hp2), hp, dq_strs h1, h2, h3, g.ok, (fun f c v e => by rw [g.no] at e; cases e), fun _ => ⟨q, rfl, rfl, rfl, g.le, fun H2 M b1 b2 b3 k2 m1 m2 m3 => ?_⟩⟩
  have mp : M p = none := k2.fr p _ upd_same
  have mdx : M dx = none := k2.fr dx (.own p) (by rw [upd_ne ne]; exact upd_same)
  have mm : New H (upd H2 p (.ins C dx (progF b1 b2 b3))) (upd M p (.ins C dx (progF b1 b2 b3))) := by
    refine ⟨fun a u e => ?_, fun a u e => ?_, fun a u e => ?_⟩
    · have z : a ≠ p := ne_of_none e hp
      have z2 : a ≠ dx := ne_of_none e hd
      rw [upd_ne z]
      exact k2.hh a u (by rw [upd_ne z, upd_ne z2]; exact e)
    · by_cases z : a = p
      · rw [z, upd_same] at e ⊢
        exact e
      · rw [upd_ne z] at e ⊢
        exact k2.mh a u e
    · have z : a ≠ p := ne_of_none e hp
      have z2 : a ≠ dx := ne_of_none e hd
      rw [upd_ne z]
      exact k2.fr a u (by rw [upd_ne z, upd_ne z2]; exact e)
  have em : Ex M (upd M p (.ins C dx (progF b1 b2 b3))) := Ex.new mp
  exact k _ _ mm ⟨dx, b1, b2, b3, upd_same, em _ _ m1, m2.mono (same_ex em), m3.mono (same_ex em)⟩
theorem ok_pgm {n d : Nat} {C CL CI fB fI : Addr} {fdB fdI : FuncData} (F : Fun K "_law_program" "_law_program" sPgm f fd) (T : PTxt K mg C) (hnd : d + 2 ≤ 3 * n + 8) (FB : FnOk P w K mg base CX0 (d + 2) fB fdB ["body"] (spCop K d)) (mB : mg "_law_copied" = some (.ref fB)) (kB : PySem.W.keepIn K (.ref fB) = true) (bB : Binds K fdB ["body"] [])
    (M0 : Mk K C fI) (FI : FnOk P w K mg base (L2.CX P w) (3 * n + 7) fI fdI ["self", "rights", "owners", "functions"] (spInit K n d C CL CI)) (bI : Binds K fdI ["self", "rights", "owners", "functions"] []) (mL : mg "list" = none) : FnOk P w K mg base CX0 (3 * n + 9) f fd ["parts"] (spPgm K n d C) := by
  refine F.ok scPgm (fun vs H Q E h => ?_) (fun cdv A outer s H vs Q E hr h => ?_)
  · obtain ⟨_, _, rfl, _⟩ := h
    rfl
  · obtain ⟨p, q, rfl, hd, g, fin⟩ := h
    have le := g.le
    have rB := hr.mono (j := d + 2) (by omega)
    refine ⟨_, pss_cons (ps_setLc (i := 1) (own := [("name", 2), ("rights", 3)]) (g := gTup K 2 (gCons (gName 2) (gCons (gName 3) gNil))) rfl scPgm.nd rfl rfl (sw_true rfl rfl rfl (by decide +kernel)) (pi_list (pe_ix ix_list (pv 0) pe_int (fun _ _ => rfl)))
            (blkOk_by (own := [("name", 2), ("rights", 3)]) (N := ["parts", "owners", "name", "rights", "owner", "body"]) (sc := defScope sPgm) (by decide +kernel))
            (fun _ _ _ _ _ => pg_tupK rfl (pgs_cons (pg_name (i := 2) scPgm.nd rfl (Or.inl rfl)) (pgs_cons (pg_name (i := 3) scPgm.nd rfl (Or.inl rfl)) pgs_nil))) (fun _ _ _ _ _ => pts_nil)
            (fun _ _ _ _ _ => pe_tup (pa_cons (pv 2) (pa_cons (pe_callTy (call_listK (K := K)) (by rfl) mL (by decide +kernel) (pa_cons (pv 3) pa_nil)) pa_nil))))
      (pss_one (ps_ret (pe_make M0 FI hr rfl T.mgC bI .nil (no_passes rfl rfl) (pa_cons (pe_callTy (call_listK (K := K)) (by rfl) mL (by decide +kernel) (pa_cons (pe_ix ix_list (pv 0) pe_int (fun _ _ => rfl)) pa_nil)) (pa_cons (pv 1) (pa_cons (pe_lc (own := [("name", 2), ("owner", 4), ("body", 5)]) (g := gTup K 3 (gCons (gName 2) (gCons (gName 4) (gCons (gName 5) gNil)))) rfl scPgm.nd (pi_list (pe_ix ix_list (pv 0) pe_int (fun _ _ => rfl)))
            (blkOk_by (own := [("name", 2), ("owner", 4), ("body", 5)]) (N := ["parts", "owners", "name", "rights", "owner", "body"]) (sc := defScope sPgm) (by decide +kernel))
            (fun _ _ _ _ _ => pg_tupK rfl (pgs_cons (pg_name (i := 2) scPgm.nd rfl (Or.inl rfl)) (pgs_cons (pg_name (i := 4) scPgm.nd rfl (Or.inl rfl)) (pgs_cons (pg_name (i := 5) scPgm.nd rfl (Or.inl rfl)) pgs_nil)))) (fun _ _ _ _ _ => pts_nil)
            (fun _ _ _ _ _ => pe_tup (pa_cons (pv 2) (pa_cons (pv 4) (pa_cons (pe_call FB rB rfl mB kB bB .nil pass0 (pa_cons (pv 5) pa_nil)) pa_nil))))) pa_nil)))))), ?_⟩
    obtain ⟨a1, a2, a3, h0, h1, h2, h3⟩ := prt_at hd
    have h2' := h2
    have h3' := h3
    cases h2 with
    | @lst _ xsO _ hpO hxO =>
    cases h3 with
    | @lst _ xsF _ hpF hxF =>
    have hlO : xsO.length = q.os.length := by
      have := dqa_len hxO
      rw [List.length_map] at this
      exact this
    have hlF : xsF.length = q.fs.length := by
      have := dqa_len hxF
      rw [List.length_map] at this
      exact this
    have leo := le.os
    have lef := le.fl
    refine ⟨_, rfl, p, _, _, _, rfl, rfl, SqL.of h0, rfl, a2, rfl, ⟨_, SqL.of hpO⟩, fun D nD => ?_⟩
    refine lc_list (K := K) (a := a2) (xs := xsO) (fun i H' => ∃ (M : Hp) (acc : List V), New H H' M ∧ H' D = some (.lst acc) ∧ M D = none ∧ FrA K H M acc ((q.os.take i).map ownD)) ?_ (fun i H' _ ⟨_, _, k, _⟩ => SqL.of (k.hh _ _ hpO)) ?_ ?_
    · exact ⟨emp, [], New.refl.own nD, upd_same, rfl, FrA.nil⟩
    · rintro i x H' hi ⟨M, acc, k, hD, mD, ha⟩
      obtain ⟨ow, ta, pl, how, rfl, hT, hpl⟩ := own_at hxO hi
      refine ⟨ta, _, rfl, sqt_ex (same_ex k.hh) hT, rfl, _, _, rfl, _, _, rfl, rfl, rfl, _, rfl, _, rfl, pl, _, rfl, .inl (SqL.of (k.hh _ _ hpl)), fun l nl => ⟨by show 2 ≤ sizeLine; decide, fun tp ntp => ?_⟩⟩
      have k2 := (k.put (o := .lst (ow.2.map V.str)) nl).put (o := .tup [.str ow.1, .ref l]) ntp
      have fl : D ≠ l := ne_of_none hD nl
      have ft : D ≠ tp := ne_of_none (show (upd H' l (.lst (ow.2.map V.str))) D = some (.lst acc) by rw [upd_ne fl]; exact hD) ntp
      have mD2 : (upd (upd M l (.lst (ow.2.map V.str))) tp (.tup [.str ow.1, .ref l])) D = none := by rw [upd_ne ft, upd_ne fl]; exact mD
      have ml : M l = none := k.none nl
      have mt : (upd M l (.lst (ow.2.map V.str))) tp = none := (k.put (o := .lst (ow.2.map V.str)) nl).none ntp
      have em : Ex M (upd (upd M l (.lst (ow.2.map V.str))) tp (.tup [.str ow.1, .ref l])) := (Ex.new ml).trans (Ex.new mt)
      refine ⟨acc, by rw [upd_ne ft, upd_ne fl]; exact hD, ?_, _, acc ++ [.ref tp], k2.wr nD mD2, upd_same, mD2, ?_⟩
      · have := dqa_len ha.dq
        rw [List.length_map, List.length_take] at this
        have h2 := (List.getElem?_eq_some_iff.mp hi).1
        have e3z : (5000 : Nat) < sizeLine := by decide
        omega
      · rw [List.take_succ, how, List.map_append]
        exact FrA.app k ha em (Ex.refl _) (own_fr (by rw [upd_ne (ne_of_none upd_same mt)]; exact upd_same) upd_same nl)
    · rintro H' ⟨M, acc, k, hD, mD, ha⟩
      rw [hlO, List.take_of_length_le (Nat.le_refl _)] at ha
      have kO := k.frz nD hD
      have dO : FrN K H (upd M D (.lst acc)) (.ref D) (.list (q.os.map ownD)) := FrN.lst ha mD nD
      generalize upd M D (.lst acc) = MO at kO dO
      have x1 := kO.hh
      have h1' := x1 _ _ h1
      refine ⟨_, rfl, p, _, _, _, rfl, rfl, SqL.of (x1 _ _ h0), rfl, a1, _, rfl, .inl (SqL.of h1'), fun l nl => ?_⟩
      have kl := kO.put (o := .lst (q.rs.map V.str)) nl
      have mOl : MO l = none := kO.none nl
      have dO2 := dO.mono (Ex.new (o := .lst (q.rs.map V.str)) mOl)
      have nlO : ∀ as, DqN K MO (.ref D) (.list (q.os.map ownD)) as → l ∉ as := fun as a hl => by
        obtain ⟨xs, e⟩ := a.is l hl
        rw [mOl] at e
        cases e
      obtain ⟨asO, aO, bO, cO⟩ := dO
      have nlO := nlO _ aO
      have aO2 := aO.mono (Ex.new (o := .lst (q.rs.map V.str)) mOl)
      have hlO2 : ∀ a ∈ asO, (upd H' l (.lst (q.rs.map V.str))) a ≠ none := fun a ha => by
        obtain ⟨xs, e⟩ := aO2.is a ha
        rw [kl.mh _ _ e]
        exact fun z => nomatch z
      have nl0 : H l = none := fresh_back x1 nl
      generalize hMl : upd MO l (.lst (q.rs.map V.str)) = Ml at kl dO2 aO2
      have ml : Ml l = some (.lst (q.rs.map V.str)) := by rw [← hMl]; exact upd_same
      have xF : Ex H (upd H' l (.lst (q.rs.map V.str))) := kl.hh
      have hpF2 := xF _ _ hpF
      have hLl : (upd H' l (.lst (q.rs.map V.str))) l ≠ none := by rw [upd_same]; exact fun z => nomatch z
      generalize upd H' l (.lst (q.rs.map V.str)) = HL at kl xF hpF2 hlO2 hLl ⊢
      refine ⟨_, rfl, _, rfl, p, _, _, _, rfl, rfl, SqL.of (xF _ _ h0), rfl, a3, rfl, ⟨_, SqL.of hpF2⟩, fun D2 nD2 => ?_⟩
      refine lc_list (K := K) (a := a3) (xs := xsF) (fun i H' => ∃ (M : Hp) (acc : List V), New HL H' M ∧ H' D2 = some (.lst acc) ∧ M D2 = none ∧ FrA K HL M acc ((q.fs.take i).map fnD)) ?_ (fun i H' _ ⟨_, _, k, _⟩ => SqL.of (k.hh _ _ hpF2)) ?_ ?_
      · exact ⟨emp, [], New.refl.own nD2, upd_same, rfl, FrA.nil⟩
      · rintro i x H' hi ⟨M, acc, k, hD, mD, ha⟩
        obtain ⟨g, ta, pl, how, rfl, hT, hpl⟩ := fn_at hxF hi
        obtain ⟨h1, h2⟩ := le.fs g (List.mem_of_getElem? how)
        refine ⟨ta, _, rfl, sqt_ex (same_ex (xF.trans k.hh)) hT, rfl, _, _, rfl, _, _, rfl, _, _, rfl, rfl, rfl, _, rfl, _, rfl, _, rfl, cop_k (G := H) (xF.trans k.hh) hpl h1 h2 fun p3 H3 M3 k3 h3 => ⟨by show 3 ≤ sizeLine; decide, fun tp ntp => ?_⟩⟩
        have hD3 := k3.hh _ _ hD
        have k4 := (k.trans k3).put (o := .tup [.str g.1, .str g.2.1, .ref p3]) ntp
        have ft : D2 ≠ tp := ne_of_none hD3 ntp
        have mt : (join M M3) tp = none := (k.trans k3).none ntp
        have mD2 : (upd (join M M3) tp (.tup [.str g.1, .str g.2.1, .ref p3])) D2 = none := by
          rw [upd_ne ft]
          exact join_none mD (k3.fr _ _ hD)
        refine ⟨acc, by rw [upd_ne ft]; exact hD3, ?_, _, acc ++ [.ref tp], k4.wr nD2 mD2, upd_same, mD2, ?_⟩
        · have := dqa_len ha.dq
          rw [List.length_map, List.length_take] at this
          have h2 := (List.getElem?_eq_some_iff.mp hi).1
          have e3z : (5000 : Nat) < sizeLine := by decide
          have := le.fl
          omega
        · rw [List.take_succ, how, List.map_append]
          exact FrA.app k ha (join_l.trans (Ex.new mt)) (Ex.refl _) (fn_fr (h3.mono ((k.right k3).trans (Ex.new mt))) upd_same)
      · rintro H' ⟨M, acc, k, hD, mD, ha⟩
        rw [hlF, List.take_of_length_le (Nat.le_refl _)] at ha
        have kF := k.frz nD2 hD
        have dF : FrN K HL (upd M D2 (.lst acc)) (.ref D2) (.list (q.fs.map fnD)) := FrN.lst ha mD nD2
        generalize upd M D2 (.lst acc) = MF at kF dF
        have kk := kl.trans kF
        intro px dx npx ndx nex
        have x2 := kk.mh
        refine init_k npx ndx nex g (x2 _ _ (join_l _ _ ml)) (dO2.dq.mono (same_ex (join_l.trans x2))) (dF.dq.mono (same_ex ((kl.right kF).trans x2))) fun H2 M k2 hp => ⟨rfl, ?_⟩
        exact fin px H2 _ (kk.trans k2) (hp.mono (kk.right k2))
end
end Lx

set_option Elab.async false
set_option maxRecDepth 100000
set_option linter.all false
set_option maxHeartbeats 2000000
/-! KitS2: any data in a tuple of texts. -/
namespace Kx
open PySem PySem.Spec PyProof.Rows L2 Evl SeqAt AutoSeq1 MeetsSeq
def rInTT (K : PySem.W.Frag) (neg : Bool) : R2 := fun x y H Q => ∃ (d : PyData) (ws : List Str) (p : Addr), Dq K H x d ∧ y = .ref p ∧ SqT K H p (ws.map V.str) ∧ Q (.bl (cond neg (!ws.any (eqS d)) (ws.any (eqS d)))) H
theorem op_notInTT {X : Cx} (hu : X.A.units + 1 < cLine) : OpR X (compareOp .NotIn) (rInTT X.K true) := by
  intro pins s σ H x y v u Q I rx ry h
  obtain ⟨d, ws, p, hd, rfl, hs, q⟩ := h
  cases ry
  obtain ⟨as, hr⟩ := Dq.rd I hd rx
  obtain ⟨its, rv, hl, _⟩ := I.tuple hs
  refine notIn_tupleAt (strV d) hl (fun z hz => ?_) ⟨.bl _, H, I, rfl, ?_⟩
  · obtain ⟨w, t, rfl⟩ := strs_mem rv z (by simpa using hz)
    exact rd_Seq w t hu hr
  · rw [List.any_toArray, strs_any rv]
    simpa using q
end Kx

set_option Elab.async false
set_option maxRecDepth 100000
set_option linter.all false
set_option maxHeartbeats 4000000
namespace Lx
open PySem PySem.Spec PyProof.Rows L2 Evl Kx
section
variable {P : Program} {w : World} {K : PySem.W.Frag} {mg : Str → Option Value} {base : Heap} {f : Addr} {fd : FuncData}
abbrev sNp : Stmt := top 31
theorem scNp : FnScope ["value"] ["value"] (defScope sNp) := ⟨rfl, rfl, rfl, by decide +kernel, rfl, by decide +kernel, by decide +kernel⟩
/-- need_program: nothing for a program, else refused with the very thing -/
structure spNp (K : PySem.W.Frag) (C CP : Addr) (vs : List V) (H : Hp) (Q : VK) (E : XK) : Prop where
  mk' ::
  out : ∃ v, vs = [v] ∧ ((∃ p q, v = .ref p ∧ ProgAt K C H p q ∧ Q .non H) ∨ (∃ d, Dq K H v d ∧ Refuse H E CP v))
theorem ok_np {C CP fI : Addr} {fdI : FuncData} (F : Fun K "need_program" "need_program" sNp f fd) (TP : PTxt K mg C) (I : PIsi K C) (T : XCls P w K mg "InvalidProgram" "value" CP fI fdI) (mI : mg "isinstance" = none) :
    FnOk P w K mg base (L2.CX P w) 3 f fd ["value"] (spNp K C CP) := by
  refine F.okX scNp (fun vs H Q E h => ?_) (fun cdv A outer s H vs Q E hr h => ?_)
  · obtain ⟨_, rfl, _⟩ := h
    rfl
  · obtain ⟨v, rfl, k⟩ := h
    refine ⟨_, pss_one (ps_if (pt_not (pt_val (pe_callB (isi_S (K := K)) (by rfl) mI PyProof.Rows.boot_isinstance (pa_cons (pv 0) (pa_cons (pe_cls (by rfl) TP.mgC) pa_nil)))))
      (pss_one (ps_raiseX rfl rfl (takes_of rfl rfl rfl rfl) T hr (by rfl) (pv 0) (fun σ H Q Q' k ⟨v, h1, h2⟩ => ⟨v, h1, k _ _ h2⟩))) pss_nil), ?_⟩
    rcases k with ⟨p, q, rfl, hp, k⟩ | ⟨d, hd, k⟩
    · exact ⟨_, rfl, isi_p TP I hp ⟨_, rfl, iteF k⟩⟩
    · refine ⟨_, rfl, isi_d I hd ⟨_, rfl, ?_⟩⟩
      exact ite2 (fun _ => ⟨_, rfl, fun a ha => ha, k H (Ex.refl H)⟩) (fun h => (h rfl).elim)
end
end Lx

set_option Elab.async false
set_option maxRecDepth 100000
set_option linter.all false
set_option maxHeartbeats 2000000
/-! KitDa: the data layer. Values as data D (with references to what may change), a def's slots as data, own objects, cells; worlds and their moves. -/
namespace Dl
open PySem PySem.Spec PyProof.Rows L2 Evl Kx

inductive D where
  | non | bl (b : Bool) | int (i : Int) | str (z : Str) | lst (ds : List D) | tup (ds : List D) | dic (kvs : List (Key × D)) | dct (kvs : List (List Key × D)) | ref (a : Addr) | ty (n : String) | obj (φ : Addr → Hp → Prop)

mutual
inductive Rp (K : PySem.W.Frag) (G : Hp) : V → D → Prop
  | non : Rp K G .non .non
  | bl (b : Bool) : Rp K G (.bl b) (.bl b)
  | int (i : Int) : Rp K G (.int i) (.int i)
  | str (x : Str) : Rp K G (.str x) (.str x)
  | ref (a : Addr) : Rp K G (.ref a) (.ref a)
  | ty (n : String) : Rp K G (.ty n) (.ty n)
  | lst {a : Addr} {xs : List V} {ds : List D} : G a = some (.lst xs) → RpA K G xs ds → Rp K G (.ref a) (.lst ds)
  | tup {a : Addr} {xs : List V} {ds : List D} : SqT K G a xs → RpA K G xs ds → Rp K G (.ref a) (.tup ds)
  | dic {a : Addr} {kvs : List (Key × V)} {ds : List (Key × D)} : G a = some (.dK kvs) → RpD K G kvs ds → Rp K G (.ref a) (.dic ds)
  | dct {a : Addr} {kvs : List (List Key × V)} {ds : List (List Key × D)} : G a = some (.dT kvs) → RpT K G kvs ds → Rp K G (.ref a) (.dct ds)
  | obj {a : Addr} {φ : Addr → Hp → Prop} : φ a G → (∀ G1 G2 : Hp, Ex G1 G2 → φ a G1 → φ a G2) → Rp K G (.ref a) (.obj φ)
inductive RpA (K : PySem.W.Frag) (G : Hp) : List V → List D → Prop
  | nil : RpA K G [] []
  | cons {v : V} {vs : List V} {d : D} {ds : List D} : Rp K G v d → RpA K G vs ds → RpA K G (v :: vs) (d :: ds)
inductive RpD (K : PySem.W.Frag) (G : Hp) : List (Key × V) → List (Key × D) → Prop
  | nil : RpD K G [] []
  | cons {k : Key} {v : V} {vs : List (Key × V)} {d : D} {ds : List (Key × D)} : Rp K G v d → RpD K G vs ds → RpD K G ((k, v) :: vs) ((k, d) :: ds)
inductive RpT (K : PySem.W.Frag) (G : Hp) : List (List Key × V) → List (List Key × D) → Prop
  | nil : RpT K G [] []
  | cons {k : List Key} {v : V} {vs : List (List Key × V)} {d : D} {ds : List (List Key × D)} : Rp K G v d → RpT K G vs ds → RpT K G ((k, v) :: vs) ((k, d) :: ds)
end
section
variable {K : PySem.W.Frag} {G G' H H' : Hp}
mutual
theorem Rp.mono (e : Ex G G') : ∀ {d : D} {v : V}, Rp K G v d → Rp K G' v d
  | _, _, .non => .non
  | _, _, .bl b => .bl b
  | _, _, .int i => .int i
  | _, _, .str x => .str x
  | _, _, .ref a => .ref a
  | _, _, .ty a => .ty a
  | _, _, .lst h a => .lst (e _ _ h) (RpA.mono e a)
  | _, _, .tup h a => .tup (sqt_ex (same_ex e) h) (RpA.mono e a)
  | _, _, .dic h a => .dic (e _ _ h) (RpD.mono e a)
  | _, _, .dct h a => .dct (e _ _ h) (RpT.mono e a)
  | _, _, .obj h m => .obj (m _ _ e h) m
theorem RpA.mono (e : Ex G G') : ∀ {ds : List D} {vs : List V}, RpA K G vs ds → RpA K G' vs ds
  | _, _, .nil => .nil
  | _, _, .cons a b => .cons (Rp.mono e a) (RpA.mono e b)
theorem RpD.mono (e : Ex G G') : ∀ {ds : List (Key × D)} {vs : List (Key × V)}, RpD K G vs ds → RpD K G' vs ds
  | _, _, .nil => .nil
  | _, _, .cons a b => .cons (Rp.mono e a) (RpD.mono e b)
theorem RpT.mono (e : Ex G G') : ∀ {ds : List (List Key × D)} {vs : List (List Key × V)}, RpT K G vs ds → RpT K G' vs ds
  | _, _, .nil => .nil
  | _, _, .cons a b => .cons (Rp.mono e a) (RpT.mono e b)
end
theorem RpA.len : ∀ {vs : List V} {ds : List D}, RpA K G vs ds → vs.length = ds.length
  | _, _, .nil => rfl
  | _, _, .cons _ b => congrArg Nat.succ (RpA.len b)
theorem RpA.app : ∀ {xs ys : List V} {ds es : List D}, RpA K G xs ds → RpA K G ys es → RpA K G (xs ++ ys) (ds ++ es)
  | _, _, _, _, .nil, h => h
  | _, _, _, _, .cons a b, h => .cons a (RpA.app b h)
theorem RpA.get : ∀ {vs : List V} {ds : List D} {i : Nat} {v : V}, RpA K G vs ds → vs[i]? = some v → ∃ d, ds[i]? = some d ∧ Rp K G v d
  | _, _, 0, _, .cons a _, h => ⟨_, rfl, by simp only [List.getElem?_cons_zero] at h; rw [← Option.some.inj h]; exact a⟩
  | _, _, i + 1, _, .cons _ b, h => by
    simp only [List.getElem?_cons_succ] at h ⊢
    exact RpA.get b h
theorem RpA.nth : ∀ {vs : List V} {ds : List D} {i : Nat} {d : D}, RpA K G vs ds → ds[i]? = some d → ∃ v, vs[i]? = some v ∧ Rp K G v d
  | _, _, 0, _, .cons a _, h => ⟨_, rfl, by simp only [List.getElem?_cons_zero] at h; rw [← Option.some.inj h]; exact a⟩
  | _, _, i + 1, _, .cons _ b, h => by
    simp only [List.getElem?_cons_succ] at h ⊢
    exact RpA.nth b h
theorem RpA.take : ∀ {vs : List V} {ds : List D} (i : Nat), RpA K G vs ds → RpA K G (vs.take i) (ds.take i)
  | _, _, 0, _ => .nil
  | _, _, i + 1, .nil => .nil
  | _, _, i + 1, .cons a b => .cons a (RpA.take i b)
theorem RpA.drop : ∀ {vs : List V} {ds : List D} (i : Nat), RpA K G vs ds → RpA K G (vs.drop i) (ds.drop i)
  | _, _, 0, h => h
  | _, _, i + 1, .nil => .nil
  | _, _, i + 1, .cons a b => RpA.drop i b
theorem RpA.set : ∀ {vs : List V} {ds : List D} {i : Nat} {v : V} {d : D}, RpA K G vs ds → Rp K G v d → RpA K G (vs.set i v) (ds.set i d)
  | _, _, _, _, _, .nil, _ => .nil
  | _, _, 0, _, _, .cons _ b, h => .cons h b
  | _, _, i + 1, _, _, .cons a b, h => .cons a (RpA.set b h)
theorem RpA.rep : ∀ {n : Nat} {vs : List V} {ds : List D}, RpA K G vs ds → RpA K G (List.replicate n vs).flatten (List.replicate n ds).flatten
  | 0, _, _, _ => .nil
  | n + 1, _, _, h => by
    simp only [List.replicate_succ, List.flatten_cons]
    exact h.app (RpA.rep h)
theorem RpA.rev : ∀ {vs : List V} {ds : List D}, RpA K G vs ds → RpA K G vs.reverse ds.reverse
  | _, _, .nil => .nil
  | _, _, .cons a b => by
    rw [List.reverse_cons, List.reverse_cons]
    exact (RpA.rev b).app (.cons a .nil)

/-! ### data without references -/
mutual
def ofP : PyData → D
  | .none => .non
  | .bool b => .bl b
  | .int i => .int i
  | .str x => .str x
  | .list xs => .lst (ofA xs)
  | .tuple xs => .tup (ofA xs)
  | .dict kvs => .dic (ofK kvs)
def ofA : List PyData → List D
  | [] => []
  | x :: xs => ofP x :: ofA xs
def ofK : List (PyData × PyData) → List (Key × D)
  | [] => []
  | (.int i, v) :: r => (.inl i, ofP v) :: ofK r
  | (.str x, v) :: r => (.inr x, ofP v) :: ofK r
  | (_, v) :: r => ofK r
end
theorem ofA_map : ∀ xs : List PyData, ofA xs = xs.map ofP
  | [] => by simp only [ofA, List.map_nil]
  | x :: xs => by simp only [ofA, List.map_cons, ofA_map xs]
mutual
theorem rp_of : ∀ {p : PyData} {v : V}, Dq K G v p → Rp K G v (ofP p)
  | _, _, .non => by simp only [ofP]; exact .non
  | _, _, .bl b => by simp only [ofP]; exact .bl b
  | _, _, .int i => by simp only [ofP]; exact .int i
  | _, _, .str x => by simp only [ofP]; exact .str x
  | _, _, .lst h a => by simp only [ofP]; exact .lst h (rpa_of a)
  | _, _, .tup h a => by simp only [ofP]; exact .tup h (rpa_of a)
  | _, _, .dic h a => by simp only [ofP]; exact .dic h (rpd_of a)
theorem rpa_of : ∀ {ps : List PyData} {vs : List V}, DqA K G vs ps → RpA K G vs (ofA ps)
  | _, _, .nil => by simp only [ofA]; exact .nil
  | _, _, .cons a b => by simp only [ofA]; exact .cons (rp_of a) (rpa_of b)
theorem rpd_of : ∀ {ps : List (PyData × PyData)} {vs : List (Key × V)}, DqD K G vs ps → RpD K G vs (ofK ps)
  | _, _, .nil => by simp only [ofK]; exact .nil
  | _, _, .cons (k := .inl i) a b => by simp only [keyD, ofK]; exact .cons (rp_of a) (rpd_of b)
  | _, _, .cons (k := .inr x) a b => by simp only [keyD, ofK]; exact .cons (rp_of a) (rpd_of b)
end
mutual
def toP : D → Option PyData
  | .non => some .none
  | .bl b => some (.bool b)
  | .int i => some (.int i)
  | .str x => some (.str x)
  | .lst xs => (toA xs).map .list
  | .tup xs => (toA xs).map .tuple
  | .dic kvs => (toK kvs).map .dict
  | _ => none
def toA : List D → Option (List PyData)
  | [] => some []
  | x :: xs => match toP x, toA xs with
    | some p, some ps => some (p :: ps)
    | _, _ => none
def toK : List (Key × D) → Option (List (PyData × PyData))
  | [] => some []
  | (k, x) :: xs => match toP x, toK xs with
    | some p, some ps => some ((keyD k, p) :: ps)
    | _, _ => none
end
mutual
theorem dq_toP' : ∀ {d : D} {v : V}, Rp K G v d → ∀ p : PyData, toP d = some p → Dq K G v p
  | _, _, .non, p, h => by simp only [toP, Option.some.injEq] at h; subst h; exact .non
  | _, _, .bl b, p, h => by simp only [toP, Option.some.injEq] at h; subst h; exact .bl b
  | _, _, .int b, p, h => by simp only [toP, Option.some.injEq] at h; subst h; exact .int b
  | _, _, .str b, p, h => by simp only [toP, Option.some.injEq] at h; subst h; exact .str b
  | _, _, .ref a, p, h => by simp only [toP] at h; cases h
  | _, _, .ty a, p, h => by simp only [toP] at h; cases h
  | _, _, .dct _ a, p, h => by simp only [toP] at h; cases h
  | _, _, .obj _ a, p, h => by simp only [toP] at h; cases h
  | _, _, .lst h1 a, p, h => by
    simp only [toP, Option.map_eq_some_iff] at h
    obtain ⟨ps, e, rfl⟩ := h
    exact .lst h1 (dqa_toP' a ps e)
  | _, _, .tup h1 a, p, h => by
    simp only [toP, Option.map_eq_some_iff] at h
    obtain ⟨ps, e, rfl⟩ := h
    exact .tup h1 (dqa_toP' a ps e)
  | _, _, .dic h1 a, p, h => by
    simp only [toP, Option.map_eq_some_iff] at h
    obtain ⟨ps, e, rfl⟩ := h
    exact .dic h1 (dqd_toP' a ps e)
theorem dqa_toP' : ∀ {ds : List D} {vs : List V}, RpA K G vs ds → ∀ ps : List PyData, toA ds = some ps → DqA K G vs ps
  | _, _, .nil, ps, h => by simp only [toA, Option.some.injEq] at h; subst h; exact .nil
  | _, _, .cons a b, ps, h => by
    simp only [toA] at h
    split at h
    · rename_i p ps e1 e2
      simp only [Option.some.injEq] at h
      subst h
      exact .cons (dq_toP' a p e1) (dqa_toP' b ps e2)
    · cases h
theorem dqd_toP' : ∀ {ds : List (Key × D)} {vs : List (Key × V)}, RpD K G vs ds → ∀ ps : List (PyData × PyData), toK ds = some ps → DqD K G vs ps
  | _, _, .nil, ps, h => by simp only [toK, Option.some.injEq] at h; subst h; exact .nil
  | _, _, .cons a b, ps, h => by
    simp only [toK] at h
    split at h
    · rename_i p ps e1 e2
      simp only [Option.some.injEq] at h
      subst h
      exact .cons (dq_toP' a p e1) (dqd_toP' b ps e2)
    · cases h
end
theorem dq_toP {d : D} {v : V} {p : PyData} (h : toP d = some p) (a : Rp K G v d) : Dq K G v p := dq_toP' a p h
theorem dqa_toP {ds : List D} {vs : List V} {ps : List PyData} (h : toA ds = some ps) (a : RpA K G vs ds) : DqA K G vs ps := dqa_toP' a ps h
theorem dqd_toP {ds : List (Key × D)} {vs : List (Key × V)} {ps : List (PyData × PyData)} (h : toK ds = some ps) (a : RpD K G vs ds) : DqD K G vs ps := dqd_toP' a ps h
mutual
/-- every key of a dict is an int or a text -/
def keyOk : PyData → Bool
  | .list xs => keyOkA xs
  | .tuple xs => keyOkA xs
  | .dict kvs => keyOkD kvs
  | _ => true
def keyOkA : List PyData → Bool
  | [] => true
  | x :: xs => keyOk x && keyOkA xs
def keyOkD : List (PyData × PyData) → Bool
  | [] => true
  | (.int _, v) :: r => keyOk v && keyOkD r
  | (.str _, v) :: r => keyOk v && keyOkD r
  | _ => false
end
mutual
theorem toP_ofP : ∀ {p : PyData}, keyOk p = true → toP (ofP p) = some p
  | .none, _ => by simp only [ofP, toP]
  | .bool _, _ => by simp only [ofP, toP]
  | .int _, _ => by simp only [ofP, toP]
  | .str _, _ => by simp only [ofP, toP]
  | .list xs, h => by simp only [keyOk] at h; simp only [ofP, toP, toA_ofA h, Option.map_some]
  | .tuple xs, h => by simp only [keyOk] at h; simp only [ofP, toP, toA_ofA h, Option.map_some]
  | .dict xs, h => by simp only [keyOk] at h; simp only [ofP, toP, toK_ofK h, Option.map_some]
theorem toA_ofA : ∀ {ps : List PyData}, keyOkA ps = true → toA (ofA ps) = some ps
  | [], _ => by simp only [ofA, toA]
  | x :: xs, h => by
    simp only [keyOkA, Bool.and_eq_true] at h
    simp only [ofA, toA, toP_ofP h.1, toA_ofA h.2]
theorem toK_ofK : ∀ {ps : List (PyData × PyData)}, keyOkD ps = true → toK (ofK ps) = some ps
  | [], _ => by simp only [ofK, toK]
  | (.int i, v) :: r, h => by
    simp only [keyOkD, Bool.and_eq_true] at h
    simp only [ofK, toK, toP_ofP h.1, toK_ofK h.2, keyD]
  | (.str i, v) :: r, h => by
    simp only [keyOkD, Bool.and_eq_true] at h
    simp only [ofK, toK, toP_ofP h.1, toK_ofK h.2, keyD]
  | (.none, v) :: r, h => by simp only [keyOkD] at h; cases h
  | (.bool _, v) :: r, h => by simp only [keyOkD] at h; cases h
  | (.list _, v) :: r, h => by simp only [keyOkD] at h; cases h
  | (.tuple _, v) :: r, h => by simp only [keyOkD] at h; cases h
  | (.dict _, v) :: r, h => by simp only [keyOkD] at h; cases h
end

/-! ### objects of one's own -/
inductive Ow where
  | lst (ds : List D) | dic (kvs : List (Key × D)) | dct (kvs : List (List Key × D))
@[reducible] def Ow.toD : Ow → D
  | .lst ds => .lst ds
  | .dic kvs => .dic kvs
  | .dct kvs => .dct kvs
inductive OwO (K : PySem.W.Frag) (G : Hp) : Ow → HO → Prop
  | lst {ds : List D} {vs : List V} : RpA K G vs ds → OwO K G (.lst ds) (.lst vs)
  | dic {ds : List (Key × D)} {vs : List (Key × V)} : RpD K G vs ds → OwO K G (.dic ds) (.dK vs)
  | dct {ds : List (List Key × D)} {vs : List (List Key × V)} : RpT K G vs ds → OwO K G (.dct ds) (.dT vs)
theorem OwO.mono (e : Ex G G') {o : Ow} {h : HO} (x : OwO K G o h) : OwO K G' o h := by
  cases x with
  | lst a => exact .lst (a.mono e)
  | dic a => exact .dic (a.mono e)
  | dct a => exact .dct (a.mono e)
theorem OwO.rp {o : Ow} {h : HO} {p : Addr} (x : OwO K G o h) (g : G p = some h) : Rp K G (.ref p) o.toD := by
  cases x with
  | lst a => exact .lst g a
  | dic a => exact .dic g a
  | dct a => exact .dct g a
/-- at p stands an object that shows o -/
def OwAt (K : PySem.W.Frag) (G H : Hp) (p : Addr) (o : Ow) : Prop := ∃ h, H p = some h ∧ OwO K G o h

/-! ### cells: what may be changed through references -/
inductive Cell where
  | gen (n : Nat) | own (o : Ow) | ins (c : Addr) (fs : List (Str × D))
abbrev Cs := List (Addr × Cell)
inductive RpF (K : PySem.W.Frag) (G : Hp) : List (Str × V) → List (Str × D) → Prop
  | nil : RpF K G [] []
  | cons {f : Str} {v : V} {vs : List (Str × V)} {d : D} {ds : List (Str × D)} : Rp K G v d → RpF K G vs ds → RpF K G ((f, v) :: vs) ((f, d) :: ds)
theorem RpF.mono (e : Ex G G') : ∀ {ds : List (Str × D)} {vs : List (Str × V)}, RpF K G vs ds → RpF K G' vs ds
  | _, _, .nil => .nil
  | _, _, .cons a b => .cons (a.mono e) (RpF.mono e b)
def CeO (K : PySem.W.Frag) (G H : Hp) (a : Addr) : Cell → Prop
  | .gen n => GenAt H a n
  | .own o => OwAt K G H a o
  | .ins c fs => ∃ dx vfs, H a = some (.ins c dx vfs) ∧ RpF K G vfs fs
theorem CeO.is {a : Addr} {c : Cell} (h : CeO K G H a c) : ∃ o, H a = some o := by
  cases c with
  | gen n => exact GenAt.is h
  | own o => obtain ⟨x, e, _⟩ := h; exact ⟨x, e⟩
  | ins c fs => obtain ⟨dx, vfs, e, _⟩ := h; exact ⟨_, e⟩
theorem CeO.keep {a : Addr} {c : Cell} (h : CeO K G H a c) (e : Ex G G') (k : H' a = H a) : CeO K G' H' a c := by
  cases c with
  | gen n => exact GenAt.of h k
  | own o => obtain ⟨x, e1, r⟩ := h; exact ⟨x, k.trans e1, r.mono e⟩
  | ins c fs => obtain ⟨dx, vfs, e1, r⟩ := h; exact ⟨dx, vfs, k.trans e1, r.mono e⟩
abbrev keys (C : Cs) : List Addr := C.map Prod.fst
/-- a world: what is known, the heap, the cells -/
structure WI (K : PySem.W.Frag) (G H : Hp) (C : Cs) : Prop where
  gh : Ex G H
  cs : ∀ x ∈ C, G x.1 = none ∧ CeO K G H x.1 x.2
  nd : (keys C).Nodup
  sy : Sys G
structure Mv (G H : Hp) (C : Cs) (G' H' : Hp) (C' : Cs) : Prop where
  gg : Ex G G'
  hh : ∀ a o, H a = some o → a ∉ keys C → H' a = some o
  dm : ∀ a o, H a = some o → ∃ o', H' a = some o'
  ag : ∀ a o, H a = some o → G' a = G a
  cn : ∀ a, a ∈ keys C' → a ∈ keys C ∨ H a = none
theorem Mv.refl {C : Cs} : Mv G H C G H C := ⟨fun _ _ h => h, fun _ _ h _ => h, fun _ o h => ⟨o, h⟩, fun _ _ _ => rfl, fun _ h => .inl h⟩
theorem Mv.trans {G1 H1 G2 H2 : Hp} {C C1 C2 : Cs} (a : Mv G H C G1 H1 C1) (b : Mv G1 H1 C1 G2 H2 C2) : Mv G H C G2 H2 C2 := by
  refine ⟨a.gg.trans b.gg, fun x o h n => b.hh x o (a.hh x o h n) fun m => ?_, fun x o h => ?_, fun x o h => ?_, fun x m => ?_⟩
  · rcases a.cn x m with z | z
    · exact n z
    · rw [h] at z; cases z
  · obtain ⟨o', h'⟩ := a.dm x o h
    exact b.dm x o' h'
  · obtain ⟨o', h'⟩ := a.dm x o h
    exact (b.ag x o' h').trans (a.ag x o h)
  · rcases b.cn x m with z | z
    · exact a.cn x z
    · refine .inr ?_
      cases e : H x with
      | none => rfl
      | some o => obtain ⟨o', h'⟩ := a.dm x o e; rw [h'] at z; cases z
theorem WI.ne {C : Cs} {p : Addr} (w : WI K G H C) (h : H p = none) : p ∉ keys C := fun m => by
  obtain ⟨x, hx, rfl⟩ := List.mem_map.mp m
  obtain ⟨o, e⟩ := (w.cs x hx).2.is
  rw [h] at e; cases e
theorem WI.gn {C : Cs} {p : Addr} (w : WI K G H C) (h : H p = none) : G p = none := fresh_back w.gh h
/-- a new object that is known -/
theorem WI.known {C : Cs} {p : Addr} {o : HO} (w : WI K G H C) (h : H p = none) : WI K (upd G p o) (upd H p o) C ∧ Mv G H C (upd G p o) (upd H p o) C := by
  have g := w.gn h
  have e : Ex G (upd G p o) := Ex.new g
  refine ⟨⟨fun a u q => ?_, fun x hx => ?_, w.nd, w.sy.mono (same_ex e)⟩, ⟨e, fun a u q _ => Ex.new h _ _ q, fun a u q => ⟨u, Ex.new h _ _ q⟩, fun a u q => upd_ne (ne_of_none q h), fun a m => .inl m⟩⟩
  · by_cases z : a = p
    · rw [z, upd_same] at q ⊢; exact q
    · rw [upd_ne z] at q ⊢; exact w.gh a u q
  · obtain ⟨q1, q2⟩ := w.cs x hx
    obtain ⟨u, q3⟩ := q2.is
    have ne : x.1 ≠ p := ne_of_none q3 h
    exact ⟨by rw [upd_ne ne]; exact q1, q2.keep e (upd_ne ne)⟩
/-- a new object that is not known -/
theorem WI.fresh {C : Cs} {p : Addr} {o : HO} (w : WI K G H C) (h : H p = none) : WI K G (upd H p o) C ∧ Mv G H C G (upd H p o) C := by
  refine ⟨⟨w.gh.trans (Ex.new h), fun x hx => ?_, w.nd, w.sy⟩, ⟨Ex.refl G, fun a u q _ => Ex.new h _ _ q, fun a u q => ⟨u, Ex.new h _ _ q⟩, fun _ _ _ => rfl, fun a m => .inl m⟩⟩
  obtain ⟨q1, q2⟩ := w.cs x hx
  obtain ⟨u, q3⟩ := q2.is
  exact ⟨q1, q2.keep (Ex.refl G) (upd_ne (ne_of_none q3 h))⟩
/-- an object outside is written -/
theorem WI.wr {C : Cs} {p : Addr} {o : HO} (w : WI K G H C) (g : G p = none) (n : p ∉ keys C) : WI K G (upd H p o) C := by
  refine ⟨fun a u q => ?_, fun x hx => ?_, w.nd, w.sy⟩
  · rw [upd_ne (ne_of_none q g)]
    exact w.gh a u q
  · obtain ⟨q1, q2⟩ := w.cs x hx
    refine ⟨q1, q2.keep (Ex.refl G) (upd_ne fun z => n ?_)⟩
    rw [← z]
    exact List.mem_map.mpr ⟨x, hx, rfl⟩
/-- an object outside is known from now on -/
theorem WI.frz {C : Cs} {p : Addr} {o : HO} (w : WI K G H C) (h : H p = some o) (g : G p = none) (n : p ∉ keys C) : WI K (upd G p o) H C := by
  have e : Ex G (upd G p o) := Ex.new g
  refine ⟨fun a u q => ?_, fun x hx => ?_, w.nd, w.sy.mono (same_ex e)⟩
  · by_cases z : a = p
    · rw [z, upd_same] at q
      rw [z, h]; exact q
    · rw [upd_ne z] at q; exact w.gh a u q
  · obtain ⟨q1, q2⟩ := w.cs x hx
    have ne : x.1 ≠ p := fun z => n (by rw [← z]; exact List.mem_map.mpr ⟨x, hx, rfl⟩)
    exact ⟨by rw [upd_ne ne]; exact q1, q2.keep e rfl⟩
end
/-! ### slots, results -/
inductive Sl where
  | un | va (d : D) | ow (o : Ow)
inductive R where
  | dat (d : D) | slt (i : Nat) | new (o : Ow)
abbrev Sls := List Sl
def OwnP (sl : Sls) (σ : L2.St) (p : Addr) : Prop := ∃ (i : Nat) (o : Ow), sl[i]? = some (Sl.ow o) ∧ σ[i]? = some (some (V.ref p))
structure Ab (K : PySem.W.Frag) (g0 h0 : Hp) (c0 : Cs) (G H : Hp) (C : Cs) (sl : Sls) (σ : L2.St) : Prop where
  wi : WI K G H C
  mv : Mv g0 h0 c0 G H C
  len : sl.length = σ.length
  va : ∀ (i : Nat) (d : D), sl[i]? = some (.va d) → ∃ v, σ[i]? = some (some v) ∧ Rp K G v d
  ow : ∀ (i : Nat) (o : Ow), sl[i]? = some (.ow o) → ∃ p, σ[i]? = some (some (.ref p)) ∧ OwAt K G H p o ∧ G p = none ∧ p ∉ keys C ∧ h0 p = none
  dj : ∀ (i j : Nat) (p : Addr) (o o' : Ow), sl[i]? = some (.ow o) → sl[j]? = some (.ow o') → σ[i]? = some (some (.ref p)) → σ[j]? = some (some (.ref p)) → i = j
def isSet : Option Sl → Prop
  | some .un => False
  | some _ => True
  | none => False
def Rv (K : PySem.W.Frag) (h0 G H : Hp) (C : Cs) (sl : Sls) (σ : L2.St) (v : V) : R → Prop
  | .dat d => Rp K G v d
  | .slt i => σ[i]? = some (some v) ∧ isSet sl[i]?
  | .new o => ∃ p, v = .ref p ∧ OwAt K G H p o ∧ G p = none ∧ p ∉ keys C ∧ h0 p = none ∧ ¬ OwnP sl σ p
structure Stp (σ : L2.St) (G H : Hp) (C : Cs) (sl : Sls) (G' H' : Hp) (C' : Cs) (sl' : Sls) : Prop where
  gg : Ex G G'
  kp : ∀ p o, H p = some o → G p = none → p ∉ keys C → ¬ OwnP sl σ p → H' p = some o ∧ G' p = none ∧ p ∉ keys C' ∧ ¬ OwnP sl' σ p
  ks : ∀ i : Nat, isSet sl[i]? → isSet sl'[i]?
  dm : ∀ a o, H a = some o → ∃ o', H' a = some o'
/-- a new result is newer than H -/
def Nw (H : Hp) (v : V) : R → Prop
  | .new _ => ∃ p, v = .ref p ∧ H p = none
  | _ => True
section
variable {K : PySem.W.Frag} {g0 h0 G H G1 H1 G2 H2 : Hp} {c0 C C1 C2 : Cs} {sl sl1 sl2 : Sls} {σ : L2.St} {v : V} {r : R} {p : Addr}
theorem Stp.refl : Stp σ G H C sl G H C sl := ⟨fun _ _ h => h, fun p o a b c d => ⟨a, b, c, d⟩, fun _ h => h, fun _ o h => ⟨o, h⟩⟩
theorem Stp.trans (a : Stp σ G H C sl G1 H1 C1 sl1) (b : Stp σ G1 H1 C1 sl1 G2 H2 C2 sl2) : Stp σ G H C sl G2 H2 C2 sl2 :=
  ⟨a.gg.trans b.gg, fun p o h1 h2 h3 h4 => by
    obtain ⟨q1, q2, q3, q4⟩ := a.kp p o h1 h2 h3 h4
    exact b.kp p o q1 q2 q3 q4, fun i h => b.ks i (a.ks i h), fun x o h => (a.dm x o h).elim fun o' h' => b.dm x o' h'⟩
theorem Stp.hn (a : Stp σ G H C sl G1 H1 C1 sl1) (h : H1 p = none) : H p = none := by
  cases e : H p with
  | none => rfl
  | some o => obtain ⟨o', q⟩ := a.dm p o e; rw [h] at q; cases q
theorem Nw.back (h : Nw H1 v r) (a : Stp σ G H C sl G1 H1 C1 sl1) : Nw H v r := by
  cases r with
  | new o => obtain ⟨p, e, q⟩ := h; exact ⟨p, e, a.hn q⟩
  | _ => trivial
theorem Rv.step (h : Rv K h0 G H C sl σ v r) (s : Stp σ G H C sl G1 H1 C1 sl1) : Rv K h0 G1 H1 C1 sl1 σ v r := by
  cases r with
  | dat d => exact Rp.mono s.gg h
  | slt i => exact ⟨h.1, s.ks i h.2⟩
  | new o =>
    obtain ⟨p, rfl, ⟨ho, e, q⟩, g, n, z, ow⟩ := h
    obtain ⟨q1, q2, q3, q4⟩ := s.kp p ho e g n ow
    exact ⟨p, rfl, ⟨ho, q1, q.mono s.gg⟩, q2, q3, z, q4⟩
theorem Ab.hn (a : Ab K g0 h0 c0 G H C sl σ) (h : H p = none) : h0 p = none := by
  cases e : h0 p with
  | none => rfl
  | some o => obtain ⟨o', q⟩ := a.mv.dm p o e; rw [h] at q; cases q
theorem Ab.own_some (a : Ab K g0 h0 c0 G H C sl σ) (h : OwnP sl σ p) : ∃ o, H p = some o := by
  obtain ⟨i, o, h1, h2⟩ := h
  obtain ⟨q, e, ⟨x, hx, _⟩, _⟩ := a.ow i o h1
  rw [h2] at e
  cases e
  exact ⟨x, hx⟩
theorem Ab.nown (a : Ab K g0 h0 c0 G H C sl σ) (h : H p = none) : ¬ OwnP sl σ p := fun z => by
  obtain ⟨o, e⟩ := a.own_some z
  rw [h] at e; cases e
/-- the world goes on, the slots' own objects stay -/
theorem Ab.go (a : Ab K g0 h0 c0 G H C sl σ) (w : WI K G1 H1 C1) (m : Mv G H C G1 H1 C1) : Ab K g0 h0 c0 G1 H1 C1 sl σ := by
  refine ⟨w, a.mv.trans m, a.len, fun i d h => ?_, fun i o h => ?_, a.dj⟩
  · obtain ⟨v, e, q⟩ := a.va i d h
    exact ⟨v, e, q.mono m.gg⟩
  · obtain ⟨p, e, ⟨x, hx, q⟩, g, n, z⟩ := a.ow i o h
    refine ⟨p, e, ⟨x, m.hh p x hx n, q.mono m.gg⟩, (m.ag p x hx).trans g, fun k => ?_, z⟩
    rcases m.cn p k with k | k
    · exact n k
    · rw [hx] at k; cases k
theorem Ab.stp (a : Ab K g0 h0 c0 G H C sl σ) (m : Mv G H C G1 H1 C1) : Stp σ G H C sl G1 H1 C1 sl :=
  ⟨m.gg, fun p o h1 h2 h3 h4 => ⟨m.hh p o h1 h3, (m.ag p o h1).trans h2, fun k => (m.cn p k).elim h3 (fun k => by rw [h1] at k; cases k), h4⟩, fun _ h => h, m.dm⟩
/-- a new object, known -/
theorem Ab.known {o : HO} (a : Ab K g0 h0 c0 G H C sl σ) (h : H p = none) : Ab K g0 h0 c0 (upd G p o) (upd H p o) C sl σ ∧ Stp σ G H C sl (upd G p o) (upd H p o) C sl := by
  obtain ⟨w, m⟩ := a.wi.known (o := o) h
  exact ⟨a.go w m, a.stp m⟩
/-- a new object, its maker's own -/
theorem Ab.fresh {o : HO} {w : Ow} (a : Ab K g0 h0 c0 G H C sl σ) (h : H p = none) (q : OwO K G w o) : Ab K g0 h0 c0 G (upd H p o) C sl σ ∧ Stp σ G H C sl G (upd H p o) C sl ∧ Rv K h0 G (upd H p o) C sl σ (.ref p) (.new w) := by
  obtain ⟨wi, m⟩ := a.wi.fresh (o := o) h
  exact ⟨a.go wi m, a.stp m, p, rfl, ⟨o, upd_same, q⟩, a.wi.gn h, a.wi.ne h, a.hn h, a.nown h⟩
/-! ### what a result shows -/
def look (sl : Sls) : R → D
  | .dat d => d
  | .new o => o.toD
  | .slt i => match sl[i]? with
    | some (.ow o) => o.toD
    | some (.va d) => d
    | _ => .non
/-- v shows d, here and now -/
inductive Ru (K : PySem.W.Frag) (G H : Hp) : V → D → Prop
  | rp {v : V} {d : D} : Rp K G v d → Ru K G H v d
  | ow {p : Addr} {o : Ow} : OwAt K G H p o → Ru K G H (.ref p) o.toD
theorem Rv.ru (a : Ab K g0 h0 c0 G H C sl σ) (h : Rv K h0 G H C sl σ v r) : Ru K G H v (look sl r) := by
  cases r with
  | dat d => exact .rp h
  | new o =>
    obtain ⟨p, rfl, q, _⟩ := h
    exact .ow q
  | slt i =>
    obtain ⟨e, s⟩ := h
    show Ru K G H v (match sl[i]? with
    | some (.ow o) => o.toD
    | some (.va d) => d
    | _ => .non)
    cases hs : sl[i]? with
    | none => rw [hs] at s; cases s
    | some x =>
      cases x with
      | un => rw [hs] at s; cases s
      | va d =>
        obtain ⟨w, e', q⟩ := a.va i d hs
        rw [e] at e'
        cases e'
        exact .rp q
      | ow o =>
        obtain ⟨w, e', q, _⟩ := a.ow i o hs
        rw [e] at e'
        cases e'
        exact .ow q
theorem Ru.lst {ds : List D} (e : Ex G H) (h : Ru K G H v (.lst ds)) : ∃ a vs, v = .ref a ∧ H a = some (.lst vs) ∧ RpA K G vs ds := by
  generalize hd : D.lst ds = d at h
  cases h with
  | rp h =>
    subst hd
    cases h with
    | lst h1 h2 => exact ⟨_, _, rfl, e _ _ h1, h2⟩
  | @ow p o h =>
    obtain ⟨x, hx, q⟩ := h
    cases q with
    | lst q => cases hd; exact ⟨_, _, rfl, hx, q⟩
    | dic q => cases hd
    | dct q => cases hd
theorem Ru.tup {ds : List D} (h : Ru K G H v (.tup ds)) : ∃ a vs, v = .ref a ∧ SqT K G a vs ∧ RpA K G vs ds := by
  generalize hd : D.tup ds = d at h
  cases h with
  | rp h =>
    subst hd
    cases h with
    | tup h1 h2 => exact ⟨_, _, rfl, h1, h2⟩
  | @ow p o h => cases o <;> cases hd
theorem Ru.dic {ds : List (Key × D)} (e : Ex G H) (h : Ru K G H v (.dic ds)) : ∃ a vs, v = .ref a ∧ H a = some (.dK vs) ∧ RpD K G vs ds := by
  generalize hd : D.dic ds = d at h
  cases h with
  | rp h =>
    subst hd
    cases h with
    | dic h1 h2 => exact ⟨_, _, rfl, e _ _ h1, h2⟩
  | @ow p o h =>
    obtain ⟨x, hx, q⟩ := h
    cases q with
    | lst q => cases hd
    | dic q => cases hd; exact ⟨_, _, rfl, hx, q⟩
    | dct q => cases hd
theorem Ru.dct {ds : List (List Key × D)} (e : Ex G H) (h : Ru K G H v (.dct ds)) : ∃ a vs, v = .ref a ∧ H a = some (.dT vs) ∧ RpT K G vs ds := by
  generalize hd : D.dct ds = d at h
  cases h with
  | rp h =>
    subst hd
    cases h with
    | dct h1 h2 => exact ⟨_, _, rfl, e _ _ h1, h2⟩
  | @ow p o h =>
    obtain ⟨x, hx, q⟩ := h
    cases q with
    | lst q => cases hd
    | dic q => cases hd
    | dct q => cases hd; exact ⟨_, _, rfl, hx, q⟩
theorem Ru.flat {d : D} (h : Ru K G H v d) (n : ∀ o : Ow, d ≠ o.toD) : Rp K G v d := by
  cases h with
  | rp h => exact h
  | ow h => exact absurd rfl (n _)
theorem Ru.int {i : Int} (h : Ru K G H v (.int i)) : v = .int i := by
  have := h.flat (fun o => by cases o <;> intro z <;> cases z)
  cases this; rfl
theorem Ru.str {i : Str} (h : Ru K G H v (.str i)) : v = .str i := by
  have := h.flat (fun o => by cases o <;> intro z <;> cases z)
  cases this; rfl
theorem Ru.bl {i : Bool} (h : Ru K G H v (.bl i)) : v = .bl i := by
  have := h.flat (fun o => by cases o <;> intro z <;> cases z)
  cases this; rfl
theorem Ru.non (h : Ru K G H v .non) : v = .non := by
  have := h.flat (fun o => by cases o <;> intro z <;> cases z)
  cases this; rfl
theorem Ru.dq {d : D} {q : PyData} (e : Ex G H) (h : Ru K G H v d) (hp : toP d = some q) : Dq K H v q := by
  cases h with
  | rp h => exact (dq_toP hp h).mono (same_ex e)
  | @ow p o h =>
    obtain ⟨x, hx, w⟩ := h
    cases w with
    | lst w =>
      simp only [toP, Option.map_eq_some_iff] at hp
      obtain ⟨ps, hp, rfl⟩ := hp
      exact .lst hx ((dqa_toP hp w).mono (same_ex e))
    | dic w =>
      simp only [toP, Option.map_eq_some_iff] at hp
      obtain ⟨ps, hp, rfl⟩ := hp
      exact .dic hx ((dqd_toP hp w).mono (same_ex e))
    | dct w => simp only [toP] at hp; cases hp
/-! ### a result is kept: what is new is known from now on -/
def fz (r : R) (sl : Sls) (k : D → Sls → Prop) : Prop := match r with
  | .dat d => k d sl
  | .new o => k o.toD sl
  | .slt i => match sl[i]? with
    | some (.ow o) => k o.toD (sl.set i (.va o.toD))
    | some (.va d) => k d sl
    | _ => False
theorem set_inv {sl : Sls} {i j : Nat} {x y : Sl} (h : (sl.set i x)[j]? = some y) : (j = i ∧ y = x) ∨ (j ≠ i ∧ sl[j]? = some y) := by
  rw [List.getElem?_set] at h
  by_cases z : i = j
  · rw [if_pos z] at h
    split at h
    · exact .inl ⟨z.symm, (Option.some.inj h).symm⟩
    · cases h
  · rw [if_neg z] at h
    exact .inr ⟨fun q => z q.symm, h⟩
theorem isSet_set {i j : Nat} {x : Sl} (hx : x ≠ .un) (h : isSet sl[j]?) : isSet (sl.set i x)[j]? := by
  rw [List.getElem?_set]
  split
  · split
    · cases x with
      | un => exact absurd rfl hx
      | va d => trivial
      | ow o => trivial
    · rename_i h1 h2
      subst h1
      rw [List.getElem?_eq_none (by omega)] at h
      cases h
  · exact h
theorem OwnP.unset {i : Nat} {d : D} (h : OwnP (sl.set i (.va d)) σ p) : OwnP sl σ p := by
  obtain ⟨j, o, h1, h2⟩ := h
  rcases set_inv h1 with ⟨_, z⟩ | ⟨_, z⟩
  · cases z
  · exact ⟨j, o, z, h2⟩
theorem Ab.keep (a : Ab K g0 h0 c0 G H C sl σ) (h : Rv K h0 G H C sl σ v r) {k : D → Sls → Prop} (q : fz r sl k) :
    ∃ d G' sl', Ab K g0 h0 c0 G' H C sl' σ ∧ Ex G G' ∧ (∀ i : Nat, isSet sl[i]? → isSet sl'[i]?) ∧ Rp K G' v d ∧ (∀ p : Addr, G p = none → ¬ OwnP sl σ p → (∀ o, r = .new o → v ≠ .ref p) → G' p = none ∧ ¬ OwnP sl' σ p) ∧ k d sl' := by
  cases r with
  | dat d => exact ⟨d, G, sl, a, Ex.refl G, fun _ z => z, h, fun p h1 h2 _ => ⟨h1, h2⟩, q⟩
  | new o =>
    obtain ⟨p, rfl, ⟨x, hx, w⟩, g, n, z, ow⟩ := h
    have e : Ex G (upd G p x) := Ex.new g
    refine ⟨o.toD, upd G p x, sl, ⟨a.wi.frz hx g n, ?_, a.len, fun i d h => ?_, fun i o' h => ?_, a.dj⟩, e, fun _ z => z, (w.mono e).rp upd_same, fun y h1 h2 h3 => ⟨by rw [upd_ne (fun z => h3 o rfl (by rw [z]))]; exact h1, h2⟩, q⟩
    · refine ⟨a.mv.gg.trans e, a.mv.hh, a.mv.dm, fun y u hy => ?_, a.mv.cn⟩
      rw [upd_ne (ne_of_none hy z)]
      exact a.mv.ag y u hy
    · obtain ⟨v, e1, q⟩ := a.va i d h
      exact ⟨v, e1, q.mono e⟩
    · obtain ⟨y, e1, ⟨u, hu, q⟩, g', n', z'⟩ := a.ow i o' h
      have ne : y ≠ p := fun z => ow ⟨i, o', h, by rw [← z]; exact e1⟩
      exact ⟨y, e1, ⟨u, hu, q.mono e⟩, by rw [upd_ne ne]; exact g', n', z'⟩
  | slt i =>
    obtain ⟨ev, s⟩ := h
    have q' : (match sl[i]? with
    | some (.ow o) => k o.toD (sl.set i (.va o.toD))
    | some (.va d) => k d sl
    | _ => False) := q
    cases hs : sl[i]? with
    | none => rw [hs] at s; cases s
    | some x =>
      cases x with
      | un => rw [hs] at s; cases s
      | va d =>
        rw [hs] at q'
        obtain ⟨w, e', qd⟩ := a.va i d hs
        rw [ev] at e'
        cases e'
        exact ⟨d, G, sl, a, Ex.refl G, fun _ z => z, qd, fun p h1 h2 _ => ⟨h1, h2⟩, q'⟩
      | ow o =>
        rw [hs] at q'
        obtain ⟨p, e', ⟨x, hx, w⟩, g, n, z⟩ := a.ow i o hs
        rw [ev] at e'
        cases e'
        have e : Ex G (upd G p x) := Ex.new g
        have hil : i < sl.length := (List.getElem?_eq_some_iff.mp hs).1
        have rq : Rp K (upd G p x) (.ref p) o.toD := (w.mono e).rp upd_same
        refine ⟨o.toD, upd G p x, sl.set i (.va o.toD), ⟨a.wi.frz hx g n, ?_, by rw [List.length_set]; exact a.len, fun j d h => ?_, fun j o' h => ?_, fun j1 j2 y o1 o2 h1 h2 => ?_⟩, e, fun j z => isSet_set (by intro z; cases z) z, rq, fun y h1 h2 _ => ⟨by rw [upd_ne (fun z => h2 ⟨i, o, hs, by rw [z]; exact ev⟩)]; exact h1, fun z => h2 z.unset⟩, q'⟩
        · refine ⟨a.mv.gg.trans e, a.mv.hh, a.mv.dm, fun y u hy => ?_, a.mv.cn⟩
          rw [upd_ne (ne_of_none hy z)]
          exact a.mv.ag y u hy
        · rcases set_inv h with ⟨rfl, z⟩ | ⟨_, h⟩
          · cases z
            exact ⟨_, ev, rq⟩
          · obtain ⟨v, e1, q⟩ := a.va j d h
            exact ⟨v, e1, q.mono e⟩
        · rcases set_inv h with ⟨_, z⟩ | ⟨hij, h⟩
          · cases z
          · obtain ⟨y, e1, ⟨u, hu, q⟩, g', n', z'⟩ := a.ow j o' h
            have ne : y ≠ p := fun z => hij (a.dj j i p o' o h hs (by rw [← z]; exact e1) ev)
            exact ⟨y, e1, ⟨u, hu, q.mono e⟩, by rw [upd_ne ne]; exact g', n', z'⟩
        · have f : ∀ {j : Nat} {o' : Ow}, (sl.set i (.va o.toD))[j]? = some (.ow o') → sl[j]? = some (.ow o') := fun {j o'} h => by
            rcases set_inv h with ⟨_, z⟩ | ⟨_, h⟩
            · cases z
            · exact h
          exact a.dj j1 j2 y o1 o2 (f h1) (f h2)
/-- .. and what was held before stays so -/
theorem Ab.keepS {G3 H3 : Hp} {C3 : Cs} {sl3 : Sls} (a : Ab K g0 h0 c0 G H C sl σ) (h : Rv K h0 G H C sl σ v r) (s : Stp σ G3 H3 C3 sl3 G H C sl) (nw : Nw H3 v r) {k : D → Sls → Prop} (q : fz r sl k) :
    ∃ d G' sl', Ab K g0 h0 c0 G' H C sl' σ ∧ Stp σ G3 H3 C3 sl3 G' H C sl' ∧ Rp K G' v d ∧ k d sl' := by
  obtain ⟨d, G', sl', a', e, ks, rd, kq, q'⟩ := a.keep h q
  refine ⟨d, G', sl', a', ⟨s.gg.trans e, fun p o h1 h2 h3 h4 => ?_, fun i z => ks i (s.ks i z), s.dm⟩, rd, q'⟩
  obtain ⟨q1, q2, q3, q4⟩ := s.kp p o h1 h2 h3 h4
  obtain ⟨w1, w2⟩ := kq p q2 q4 fun o' er ev => by
    subst er ev
    obtain ⟨p', e1, e2⟩ := nw
    cases e1
    rw [h1] at e2
    cases e2
  exact ⟨q1, w1, q3, w2⟩
end
end Dl

set_option Elab.async false
set_option maxRecDepth 100000
set_option linter.all false
set_option maxHeartbeats 2000000
/-! KitDb: readings over data: expressions, tests, arguments, statements. -/
namespace Dl
open PySem PySem.Spec PyProof.Rows L2 Evl Kx
abbrev TD := Sls → Cs → (R → Sls → Cs → Prop) → Prop
abbrev TTD := Sls → Cs → (Bool → Sls → Cs → Prop) → Prop
abbrev TAD := Sls → Cs → (List D → Sls → Cs → Prop) → Prop
structure DEnds where
  nx : Sls → Cs → Prop
  rt : D → Cs → Prop
  bk : Sls → Cs → Prop := fun _ _ => False
  ct : Sls → Cs → Prop := fun _ _ => False
abbrev TSD := DEnds → Sls → Cs → Prop
/-- a def's entry -/
structure En where
  K : PySem.W.Frag
  g : Hp
  h : Hp
  c : Cs
abbrev En.Ab (E : En) (G H : Hp) (C : Cs) (sl : Sls) (σ : L2.St) : Prop := Dl.Ab E.K E.g E.h E.c G H C sl σ
abbrev En.Rv (E : En) (G H : Hp) (C : Cs) (sl : Sls) (σ : L2.St) (v : V) (r : R) : Prop := Dl.Rv E.K E.h G H C sl σ v r
def teD (E : En) (td : TD) : TE := fun σ H Q => ∃ (G : Hp) (sl : Sls) (C : Cs) (Qd : R → Sls → Cs → Prop), E.Ab G H C sl σ ∧ td sl C Qd ∧
  ∀ v r G' H' sl' C', E.Ab G' H' C' sl' σ → Stp σ G H C sl G' H' C' sl' → E.Rv G' H' C' sl' σ v r → Nw H v r → Qd r sl' C' → Q v H'
def ttD (E : En) (td : TTD) : TT := fun σ H Q => ∃ (G : Hp) (sl : Sls) (C : Cs) (Qd : Bool → Sls → Cs → Prop), E.Ab G H C sl σ ∧ td sl C Qd ∧
  ∀ b G' H' sl' C', E.Ab G' H' C' sl' σ → Stp σ G H C sl G' H' C' sl' → Qd b sl' C' → Q b H'
def taD (E : En) (td : TAD) : TA := fun σ H Q => ∃ (G : Hp) (sl : Sls) (C : Cs) (Qd : List D → Sls → Cs → Prop), E.Ab G H C sl σ ∧ td sl C Qd ∧
  ∀ vs ds G' H' sl' C', E.Ab G' H' C' sl' σ → Stp σ G H C sl G' H' C' sl' → RpA E.K G' vs ds → Qd ds sl' C' → Q vs H'
def tsD (E : En) (ts : TSD) : TS := fun Z σ H => ∃ (G : Hp) (sl : Sls) (C : Cs) (DD : DEnds), E.Ab G H C sl σ ∧ ts DD sl C ∧
  (∀ G' H' sl' C' σ', E.Ab G' H' C' sl' σ' → Ex G G' → DD.nx sl' C' → Z.nx σ' H') ∧
  (∀ v d G' H' C', WI E.K G' H' C' → Mv E.g E.h E.c G' H' C' → Rp E.K G' v d → DD.rt d C' → Z.rt v H') ∧
  (∀ G' H' sl' C' σ', E.Ab G' H' C' sl' σ' → Ex G G' → DD.bk sl' C' → Z.bk σ' H') ∧
  (∀ G' H' sl' C' σ', E.Ab G' H' C' sl' σ' → Ex G G' → DD.ct sl' C' → Z.ct σ' H')
section
variable {X : Cx} {E : En} {e a b c : Expr} {td ta tb tc : TD} {pos : Pos}
theorem pe_weak {t t' : TE} (h : PE X e t) (m : ∀ σ H Q, t' σ H Q → t σ H Q) : PE X e t' := ⟨fun pins s σ H Q I q => h.run pins s σ H Q I (m σ H Q q)⟩
theorem pt_weak {t t' : TT} (h : PT X e t) (m : ∀ σ H Q, t' σ H Q → t σ H Q) : PT X e t' := ⟨fun pins s σ H Q I q => h.run pins s σ H Q I (m σ H Q q)⟩
theorem pw_weak {t t' : TT} (h : PW X e t) (m : ∀ σ H Q, t' σ H Q → t σ H Q) : PW X e t' := ⟨fun w pins s σ H Q I q => h.run w pins s σ H Q I (m σ H Q q)⟩
theorem pa_weak {es : List Expr} {t t' : TA} (h : PA X es t) (m : ∀ σ H Q, t' σ H Q → t σ H Q) : PA X es t' := ⟨fun p pins s σ H Q I q => h.run p pins s σ H Q I (m σ H Q q)⟩
theorem ps_weak {st : Stmt} {t t' : TS} (h : PS X st t) (m : ∀ Z σ H, t' Z σ H → t Z σ H) : PS X st t' := ⟨fun pins s σ H Z I q => h.run pins s σ H Z I (m Z σ H q)⟩
theorem pss_weak {st : List Stmt} {t t' : TS} (h : PSs X st t) (m : ∀ Z σ H, t' Z σ H → t Z σ H) : PSs X st t' := ⟨fun pins s σ H Z I q => h.run pins s σ H Z I (m Z σ H q)⟩

/-! ### names, constants -/
def dVar (i : Nat) : TD := fun sl C Q => match sl[i]? with
  | some (.va d) => Q (.dat d) sl C
  | some (.ow _) => Q (.slt i) sl C
  | _ => False
theorem m_var {i : Nat} {σ : L2.St} {H : Hp} {Q : VK} (h : teD E (dVar i) σ H Q) : tVar i σ H Q := by
  obtain ⟨G, sl, C, Qd, a, t, k⟩ := h
  unfold dVar at t
  cases hs : sl[i]? with
  | none => rw [hs] at t; cases t
  | some x =>
    rw [hs] at t
    cases x with
    | un => cases t
    | va d =>
      obtain ⟨v, e, q⟩ := a.va i d hs
      exact ⟨v, e, k v (.dat d) G H sl C a Stp.refl q trivial t⟩
    | ow o =>
      obtain ⟨p, e, _⟩ := a.ow i o hs
      exact ⟨_, e, k _ (.slt i) G H sl C a Stp.refl ⟨e, by rw [hs]; trivial⟩ trivial t⟩
theorem dv (i : Nat) {x : Str} {pos : Pos} (hN : X.N[i]? = some x := by rfl) (hv : Vis X.env.scope x := by first | exact Or.inl rfl | exact Or.inr (Or.inl rfl) | exact Or.inr (Or.inr rfl)) (hd : (x == ("__debug__" : Str)) = false := by decide)
    (hcd : (x == ("__classdict__" : Str)) = false := by decide) : PE X (.Name x pos) (teD E (dVar i)) := pe_weak (pe_var hN hv hd hcd) fun _ _ _ => m_var
def dC (d : D) : TD := fun sl C Q => Q (.dat d) sl C
theorem m_c {v : V} {d : D} (r : ∀ G, Rp E.K G v d) {σ : L2.St} {H : Hp} {Q : VK} (h : teD E (dC d) σ H Q) : tC v σ H Q := by
  obtain ⟨G, sl, C, Qd, a, t, k⟩ := h
  exact k v (.dat d) G H sl C a Stp.refl (r G) trivial t
theorem de_int {i : Int} {j : Nat} : PE X (.Constant (.int i) j pos) (teD E (dC (.int i))) := pe_weak pe_int fun _ _ _ => m_c fun _ => .int i
theorem de_bl {i : Bool} {j : Nat} : PE X (.Constant (.bool i) j pos) (teD E (dC (.bl i))) := pe_weak pe_bl fun _ _ _ => m_c fun _ => .bl i
theorem de_non {j : Nat} : PE X (.Constant .none j pos) (teD E (dC .non)) := pe_weak pe_non fun _ _ _ => m_c fun _ => .non
theorem de_str {i : Str} {j : Nat} : PE X (.Constant (.str i) j pos) (teD E (dC (.str i))) := pe_weak pe_str fun _ _ _ => m_c fun _ => .str i
/-- a constant of the module -/
theorem de_glob {x : Str} {v : V} {u : Value} {d : D} (hg : Gl X x) (hm : X.mg x = some u) (rv : RelV v u) (r : ∀ G, Rp E.K G v d) (hd : (x == ("__debug__" : Str)) = false := by decide) : PE X (.Name x pos) (teD E (dC d)) :=
  pe_weak (pe_glob hg hm rv hd) fun _ _ _ => m_c r

/-! ### two operands -/
/-- how a rule over values is met by data: f tells what comes out -/
def OpM (E : En) (r : R2) (f : D → D → Option R) : Prop := ∀ (σ : L2.St) (G H : Hp) (C : Cs) (sl : Sls) (x y : V) (d e : D) (z : R) (Q : VK), E.Ab G H C sl σ → Ru E.K G H x d → Ru E.K G H y e → f d e = some z →
  (∀ v G' H', E.Ab G' H' C sl σ → Stp σ G H C sl G' H' C sl → E.Rv G' H' C sl σ v z → Nw H v z → Q v H') → r x y H Q
def dOp (f : D → D → Option R) (ta tb : TD) : TD := fun sl C Q => ta sl C fun x sl1 C1 => tb sl1 C1 fun y sl2 C2 => ∃ z, f (look sl2 x) (look sl2 y) = some z ∧ Q z sl2 C2
theorem m_op {r : R2} {f : D → D → Option R} (o : OpM E r f) {σ : L2.St} {H : Hp} {Q : VK} (h : teD E (dOp f ta tb) σ H Q) : tOp r (teD E ta) (teD E tb) σ H Q := by
  obtain ⟨G, sl, C, Qd, ab, t, k⟩ := h
  refine ⟨G, sl, C, _, ab, t, fun x rx G1 H1 sl1 C1 a1 s1 v1 _ t1 => ⟨G1, sl1, C1, _, a1, t1, fun y ry G2 H2 sl2 C2 a2 s2 v2 _ t2 => ?_⟩⟩
  obtain ⟨z, ez, q⟩ := t2
  exact o σ G2 H2 C2 sl2 x y _ _ z Q a2 ((v1.step s2).ru a2) (v2.ru a2) ez fun v G' H' a3 s3 v3 n3 => k v z G' H' sl2 C2 a3 ((s1.trans s2).trans s3) v3 (n3.back (s1.trans s2)) q
theorem de_op {op : Operator} {r : R2} {f : D → D → Option R} (o : OpR X (binaryOp op) r) (m : OpM E r f) (ha : PE X a (teD E ta)) (hb : PE X b (teD E tb)) : PE X (.BinOp a op b pos) (teD E (dOp f ta tb)) := pe_weak (pe_op o ha hb) fun _ _ _ => m_op m
theorem de_cmp {op : CmpOp} {r : R2} {f : D → D → Option R} (o : OpR X (compareOp op) r) (m : OpM E r f) (ha : PE X a (teD E ta)) (hb : PE X b (teD E tb)) (hm : behindInMarks op b = false) : PE X (.Compare a [op] [b] pos) (teD E (dOp f ta tb)) := pe_weak (pe_cmpR o ha hb hm) fun _ _ _ => m_op m
/-- a value as a test -/
def dTest (t : TD) : TTD := fun sl C Q => t sl C fun r sl1 C1 => ∃ k, look sl1 r = .bl k ∧ Q k sl1 C1
theorem m_test {σ : L2.St} {H : Hp} {Q : Bool → Hp → Prop} (h : ttD E (dTest td) σ H Q) : tTest (teD E td) σ H Q := by
  obtain ⟨G, sl, C, Qd, ab, t, k⟩ := h
  refine ⟨G, sl, C, _, ab, t, fun x rx G1 H1 sl1 C1 a1 s1 v1 _ t1 => ?_⟩
  obtain ⟨b, e, q⟩ := t1
  have u := v1.ru a1
  rw [e] at u
  exact ⟨b, u.bl, k b G1 H1 sl1 C1 a1 s1 q⟩
theorem tTest_weak {t t' : TE} {σ : L2.St} {H : Hp} {Q : Bool → Hp → Prop} (m : ∀ σ H Q, t' σ H Q → t σ H Q) (h : tTest t' σ H Q) : tTest t σ H Q := m _ _ _ h
theorem dt_cmp {op : CmpOp} {r : R2} {f : D → D → Option R} (o : OpR X (compareOp op) r) (m : OpM E r f) (ha : PE X a (teD E ta)) (hb : PE X b (teD E tb)) (hm : behindInMarks op b = false) : PT X (.Compare a [op] [b] pos) (ttD E (dTest (dOp f ta tb))) :=
  pt_weak (pt_cmpR o ha hb hm) fun _ _ _ h => tTest_weak (fun _ _ _ => m_op m) (m_test h)
theorem dt_val (h : PE X e (teD E td)) (he : ∀ whole, isTrue e X.env whole = (do let v ← whole; standAt e.pos; holding [v] (truthy v)) := by intro _; rfl) : PT X e (ttD E (dTest td)) := pt_weak (pt_val h he) fun _ _ _ h => m_test h
/-! ### tests put together -/
def dAnd (t u : TTD) : TTD := fun sl C Q => t sl C fun c sl1 C1 => if c = true then u sl1 C1 Q else Q false sl1 C1
def dOr (t u : TTD) : TTD := fun sl C Q => t sl C fun c sl1 C1 => if c = true then Q true sl1 C1 else u sl1 C1 Q
def dNot (t : TTD) : TTD := fun sl C Q => t sl C fun c sl1 C1 => Q (!c) sl1 C1
variable {t u : TTD} {rest : List Expr}
theorem dw_and1 (h : PT X a (ttD E t)) : PW X (.BoolOp .And [a] pos) (ttD E t) := pw_and1 h
theorem dw_or1 (h : PT X a (ttD E t)) : PW X (.BoolOp .Or [a] pos) (ttD E t) := pw_or1 h
theorem dw_and (h : PT X a (ttD E t)) (hb : PW X (.BoolOp .And (b :: rest) pos) (ttD E u)) : PW X (.BoolOp .And (a :: b :: rest) pos) (ttD E (dAnd t u)) := pw_weak (pw_and h hb) fun σ H Q h => by
  obtain ⟨G, sl, C, Qd, ab, t, k⟩ := h
  refine ⟨G, sl, C, _, ab, t, fun c G1 H1 sl1 C1 a1 s1 t1 => ?_⟩
  cases c with
  | true => exact ⟨G1, sl1, C1, Qd, a1, t1, fun b G2 H2 sl2 C2 a2 s2 q => k b G2 H2 sl2 C2 a2 (s1.trans s2) q⟩
  | false => exact k false G1 H1 sl1 C1 a1 s1 t1
theorem dw_or (h : PT X a (ttD E t)) (hb : PW X (.BoolOp .Or (b :: rest) pos) (ttD E u)) : PW X (.BoolOp .Or (a :: b :: rest) pos) (ttD E (dOr t u)) := pw_weak (pw_or h hb) fun σ H Q h => by
  obtain ⟨G, sl, C, Qd, ab, t, k⟩ := h
  refine ⟨G, sl, C, _, ab, t, fun c G1 H1 sl1 C1 a1 s1 t1 => ?_⟩
  cases c with
  | false => exact ⟨G1, sl1, C1, Qd, a1, t1, fun b G2 H2 sl2 C2 a2 s2 q => k b G2 H2 sl2 C2 a2 (s1.trans s2) q⟩
  | true => exact k true G1 H1 sl1 C1 a1 s1 t1
theorem dt_not (h : PT X a (ttD E t)) : PT X (.UnaryOp .Not a pos) (ttD E (dNot t)) := pt_weak (pt_not h) fun σ H Q h => by
  obtain ⟨G, sl, C, Qd, ab, t, k⟩ := h
  exact ⟨G, sl, C, _, ab, t, fun c G1 H1 sl1 C1 a1 s1 t1 => k (!c) G1 H1 sl1 C1 a1 s1 t1⟩
/-! .. as values -/
def dAndV (ta tb : TD) : TD := fun sl C Q => ta sl C fun x sl1 C1 => ∃ c, look sl1 x = .bl c ∧ if c = true then tb sl1 C1 Q else Q (.dat (.bl false)) sl1 C1
def dOrV (ta tb : TD) : TD := fun sl C Q => ta sl C fun x sl1 C1 => ∃ c, look sl1 x = .bl c ∧ if c = true then Q (.dat (.bl true)) sl1 C1 else tb sl1 C1 Q
def dNotV (ta : TD) : TD := fun sl C Q => ta sl C fun x sl1 C1 => ∃ c, look sl1 x = .bl c ∧ Q (.dat (.bl (!c))) sl1 C1
theorem de_one {op : BoolOp} (h : PE X a (teD E ta)) : PE X (.BoolOp op [a] pos) (teD E ta) := pe_one h
theorem de_and (ha : PE X a (teD E ta)) (hb : PE X (.BoolOp .And (b :: rest) pos) (teD E tb)) : PE X (.BoolOp .And (a :: b :: rest) pos) (teD E (dAndV ta tb)) := pe_weak (pe_and ha hb) fun σ H Q h => by
  obtain ⟨G, sl, C, Qd, ab, t, k⟩ := h
  refine ⟨G, sl, C, _, ab, t, fun x r G1 H1 sl1 C1 a1 s1 v1 _ t1 => ?_⟩
  obtain ⟨c, e, q⟩ := t1
  have u := v1.ru a1
  rw [e] at u
  refine ⟨c, u.bl, ?_⟩
  cases c with
  | true => exact ⟨G1, sl1, C1, Qd, a1, q, fun v r G2 H2 sl2 C2 a2 s2 v2 n2 q => k v r G2 H2 sl2 C2 a2 (s1.trans s2) v2 (n2.back s1) q⟩
  | false => exact k _ (.dat (.bl false)) G1 H1 sl1 C1 a1 s1 (Rp.bl false) trivial q
theorem de_or (ha : PE X a (teD E ta)) (hb : PE X (.BoolOp .Or (b :: rest) pos) (teD E tb)) : PE X (.BoolOp .Or (a :: b :: rest) pos) (teD E (dOrV ta tb)) := pe_weak (pe_or ha hb) fun σ H Q h => by
  obtain ⟨G, sl, C, Qd, ab, t, k⟩ := h
  refine ⟨G, sl, C, _, ab, t, fun x r G1 H1 sl1 C1 a1 s1 v1 _ t1 => ?_⟩
  obtain ⟨c, e, q⟩ := t1
  have u := v1.ru a1
  rw [e] at u
  refine ⟨c, u.bl, ?_⟩
  cases c with
  | false => exact ⟨G1, sl1, C1, Qd, a1, q, fun v r G2 H2 sl2 C2 a2 s2 v2 n2 q => k v r G2 H2 sl2 C2 a2 (s1.trans s2) v2 (n2.back s1) q⟩
  | true => exact k _ (.dat (.bl true)) G1 H1 sl1 C1 a1 s1 (Rp.bl true) trivial q
theorem de_not (ha : PE X a (teD E ta)) : PE X (.UnaryOp .Not a pos) (teD E (dNotV ta)) := pe_weak (pe_not ha) fun σ H Q h => by
  obtain ⟨G, sl, C, Qd, ab, t, k⟩ := h
  refine ⟨G, sl, C, _, ab, t, fun x r G1 H1 sl1 C1 a1 s1 v1 _ t1 => ?_⟩
  obtain ⟨c, e, q⟩ := t1
  have u := v1.ru a1
  rw [e] at u
  exact ⟨c, u.bl, k _ (.dat (.bl (!c))) G1 H1 sl1 C1 a1 s1 (Rp.bl (!c)) trivial q⟩
def dIf (t : TTD) (ta tb : TD) : TD := fun sl C Q => t sl C fun c sl1 C1 => if c = true then ta sl1 C1 Q else tb sl1 C1 Q
theorem de_if {c : Expr} (hc : PT X c (ttD E t)) (ha : PE X a (teD E ta)) (hb : PE X b (teD E tb)) : PE X (.IfExp c a b pos) (teD E (dIf t ta tb)) := pe_weak (pe_ifExp hc ha hb) fun σ H Q h => by
  obtain ⟨G, sl, C, Qd, ab, t, k⟩ := h
  refine ⟨G, sl, C, _, ab, t, fun c G1 H1 sl1 C1 a1 s1 t1 => ?_⟩
  cases c with
  | true => exact ⟨G1, sl1, C1, Qd, a1, t1, fun v r G2 H2 sl2 C2 a2 s2 v2 n2 q => k v r G2 H2 sl2 C2 a2 (s1.trans s2) v2 (n2.back s1) q⟩
  | false => exact ⟨G1, sl1, C1, Qd, a1, t1, fun v r G2 H2 sl2 C2 a2 s2 v2 n2 q => k v r G2 H2 sl2 C2 a2 (s1.trans s2) v2 (n2.back s1) q⟩
/-! ### results kept, arguments -/
def dNil : TAD := fun sl C Q => Q [] sl C
def dCons (ta : TD) (tr : TAD) : TAD := fun sl C Q => ta sl C fun r sl1 C1 => fz r sl1 fun d sl2 => tr sl2 C1 fun ds sl3 C3 => Q (d :: ds) sl3 C3
theorem da_nil : PA X [] (taD E dNil) := pa_weak pa_nil fun σ H Q h => by
  obtain ⟨G, sl, C, Qd, ab, t, k⟩ := h
  exact k [] [] G H sl C ab Stp.refl .nil t
theorem da_cons {es : List Expr} {tr : TAD} (ha : PE X e (teD E td)) (hr : PA X es (taD E tr)) (hs : starEach (e :: es) X.env = (false, eval e X.env) :: starEach es X.env := by rfl) : PA X (e :: es) (taD E (dCons td tr)) := pa_weak (pa_cons ha hr hs) fun σ H Q h => by
  obtain ⟨G, sl, C, Qd, ab, t, k⟩ := h
  refine ⟨G, sl, C, _, ab, t, fun v r G1 H1 sl1 C1 a1 s1 v1 n1 t1 => ?_⟩
  obtain ⟨d, G2, sl2, a2, s2, rd, t2⟩ := Ab.keepS a1 v1 s1 n1 t1
  exact ⟨G2, sl2, C1, _, a2, t2, fun vs ds G3 H3 sl3 C3 a3 s3 rs q => k (v :: vs) (d :: ds) G3 H3 sl3 C3 a3 (s2.trans s3) (.cons (rd.mono s3.gg) rs) q⟩
/-! ### displays -/
def dTup (t : TAD) : TD := fun sl C Q => t sl C fun ds sl1 C1 => ds.length ≤ 100000 ∧ Q (.dat (.tup ds)) sl1 C1
theorem de_tup {es : List Expr} {tr : TAD} {x1 : Nat} (h : PA X es (taD E tr)) : PE X (.Tuple es x1 pos) (teD E (dTup tr)) := pe_weak (pe_tup h) fun σ H Q h => by
  obtain ⟨G, sl, C, Qd, ab, t, k⟩ := h
  refine ⟨G, sl, C, _, ab, t, fun vs ds G1 H1 sl1 C1 a1 s1 rs t1 => ⟨sz_of (by rw [rs.len]; exact t1.1), fun p hp => ?_⟩⟩
  obtain ⟨a2, s2⟩ := Ab.known (o := .tup vs) a1 hp
  exact k (.ref p) (.dat (.tup ds)) _ _ sl1 C1 a2 (s1.trans s2) (Rp.tup (.inl (.inl upd_same)) (rs.mono s2.gg)) trivial t1.2
def dLst (t : TAD) : TD := fun sl C Q => t sl C fun ds sl1 C1 => ds.length ≤ 100000 ∧ Q (.new (.lst ds)) sl1 C1
theorem de_lst {es : List Expr} {tr : TAD} (h : PA X es (taD E tr)) : PE X (.List es pos) (teD E (dLst tr)) := pe_weak (pe_lst h) fun σ H Q h => by
  obtain ⟨G, sl, C, Qd, ab, t, k⟩ := h
  refine ⟨G, sl, C, _, ab, t, fun vs ds G1 H1 sl1 C1 a1 s1 rs t1 => ⟨sz_of (by rw [rs.len]; exact t1.1), fun p hp => ?_⟩⟩
  obtain ⟨a2, s2, v2⟩ := Ab.fresh (o := .lst vs) a1 hp (.lst rs)
  exact k (.ref p) (.new (.lst ds)) _ _ sl1 C1 a2 (s1.trans s2) v2 ⟨p, rfl, s1.hn hp⟩ t1.2
def dDic : TD := fun sl C Q => Q (.new (.dic [])) sl C
theorem de_dic : PE X (.Dict [] [] pos) (teD E dDic) := pe_weak pe_dnewK fun σ H Q h p hp => by
  obtain ⟨G, sl, C, Qd, ab, t, k⟩ := h
  obtain ⟨a2, s2, v2⟩ := Ab.fresh (o := .dK []) ab hp (.dic .nil)
  exact k (.ref p) (.new (.dic [])) _ _ sl C a2 s2 v2 ⟨p, rfl, hp⟩ t
def dDct : TD := fun sl C Q => Q (.new (.dct [])) sl C
/-! ### statements -/
def sNext : TSD := fun Z sl C => Z.nx sl C
def sSeq (t u : TSD) : TSD := fun Z sl C => t { Z with nx := u Z } sl C
variable {st : Stmt} {rs : List Stmt} {s1 s2 : TSD}
theorem ds_nil : PSs X [] (tsD E sNext) := pss_weak pss_nil fun Z σ H h => by
  obtain ⟨G, sl, C, DD, ab, t, k1, k2, k3, k4⟩ := h
  exact k1 _ _ _ _ _ ab (Ex.refl G) t
theorem ds_cons (h1 : PS X st (tsD E s1)) (h2 : PSs X rs (tsD E s2)) : PSs X (st :: rs) (tsD E (sSeq s1 s2)) := pss_weak (pss_cons h1 h2) fun Z σ H h => by
  obtain ⟨G, sl, C, DD, ab, t, k1, k2, k3, k4⟩ := h
  exact ⟨G, sl, C, { DD with nx := s2 DD }, ab, t, fun G1 H1 sl1 C1 σ1 a1 e1 t1 => ⟨G1, sl1, C1, DD, a1, t1, fun G' H' sl' C' σ' a e => k1 G' H' sl' C' σ' a (e1.trans e), k2, fun G' H' sl' C' σ' a e => k3 G' H' sl' C' σ' a (e1.trans e), fun G' H' sl' C' σ' a e => k4 G' H' sl' C' σ' a (e1.trans e)⟩, k2, k3, k4⟩
theorem ds_one (h1 : PS X st (tsD E s1)) : PSs X [st] (tsD E s1) := pss_one h1
def sExpr (t : TD) : TSD := fun Z sl C => t sl C fun _ sl1 C1 => Z.nx sl1 C1
theorem ds_expr (he : PE X e (teD E td)) (hs : swapsWith e none pos.line X.env = pure false := by rfl) : PS X (.Expr e pos) (tsD E (sExpr td)) := ps_weak (ps_expr he hs) fun Z σ H h => by
  obtain ⟨G, sl, C, DD, ab, t, k1, k2, k3, k4⟩ := h
  exact ⟨G, sl, C, _, ab, t, fun v r G1 H1 sl1 C1 a1 s1 v1 n1 q => k1 G1 H1 sl1 C1 σ a1 s1.gg q⟩
def sRet (t : TD) : TSD := fun Z sl C => t sl C fun r sl1 C1 => fz r sl1 fun d _ => Z.rt d C1
theorem ds_ret (he : PE X e (teD E td)) : PS X (.Return (some e) pos) (tsD E (sRet td)) := ps_weak (ps_ret he) fun Z σ H h => by
  obtain ⟨G, sl, C, DD, ab, t, k1, k2, k3, k4⟩ := h
  refine ⟨G, sl, C, _, ab, t, fun v r G1 H1 sl1 C1 a1 s1 v1 n1 q => ?_⟩
  obtain ⟨d, G2, sl2, a2, s2, rd, t2⟩ := Ab.keepS a1 v1 s1 n1 q
  exact k2 v d G2 H1 C1 a2.wi a2.mv rd t2
def sRetN : TSD := fun Z _ C => Z.rt .non C
theorem ds_retN : PS X (.Return none pos) (tsD E sRetN) := ps_weak ps_retN fun Z σ H h => by
  obtain ⟨G, sl, C, DD, ab, t, k1, k2, k3, k4⟩ := h
  exact k2 .non .non G H C ab.wi ab.mv .non t
def sBreak : TSD := fun Z sl C => Z.bk sl C
def sCont : TSD := fun Z sl C => Z.ct sl C
theorem ds_break : PS X (.Break pos) (tsD E sBreak) := ps_weak ps_break fun Z σ H h => by
  obtain ⟨G, sl, C, DD, ab, t, k1, k2, k3, k4⟩ := h
  exact k3 _ _ _ _ _ ab (Ex.refl G) t
theorem ds_cont : PS X (.Continue pos) (tsD E sCont) := ps_weak ps_continue fun Z σ H h => by
  obtain ⟨G, sl, C, DD, ab, t, k1, k2, k3, k4⟩ := h
  exact k4 _ _ _ _ _ ab (Ex.refl G) t
def sIf (c : TTD) (s1 s2 : TSD) : TSD := fun Z sl C => c sl C fun b sl1 C1 => if b = true then s1 Z sl1 C1 else s2 Z sl1 C1
theorem ds_if {c : Expr} {p q : List Stmt} {tc : TTD} (hc : PT X c (ttD E tc)) (h1 : PSs X p (tsD E s1)) (h2 : PSs X q (tsD E s2)) : PS X (.If c p q pos) (tsD E (sIf tc s1 s2)) := ps_weak (ps_if hc h1 h2) fun Z σ H h => by
  obtain ⟨G, sl, C, DD, ab, t, k1, k2, k3, k4⟩ := h
  refine ⟨G, sl, C, _, ab, t, fun b G1 H1 sl1 C1 a1 s1 t1 => ?_⟩
  cases b with
  | true => exact ⟨G1, sl1, C1, DD, a1, t1, fun G' H' sl' C' σ' a e => k1 G' H' sl' C' σ' a (s1.gg.trans e), k2, fun G' H' sl' C' σ' a e => k3 G' H' sl' C' σ' a (s1.gg.trans e), fun G' H' sl' C' σ' a e => k4 G' H' sl' C' σ' a (s1.gg.trans e)⟩
  | false => exact ⟨G1, sl1, C1, DD, a1, t1, fun G' H' sl' C' σ' a e => k1 G' H' sl' C' σ' a (s1.gg.trans e), k2, fun G' H' sl' C' σ' a e => k3 G' H' sl' C' σ' a (s1.gg.trans e), fun G' H' sl' C' σ' a e => k4 G' H' sl' C' σ' a (s1.gg.trans e)⟩
theorem ds_never : PSs X rs (tsD E fun _ _ _ => False) := pss_weak pss_never fun Z σ H h => by
  obtain ⟨G, sl, C, DD, ab, t, _⟩ := h
  exact t
/-! ### targets -/
/-- a slot is set -/
def stSl (i : Nat) (r : R) (sl : Sls) (k : Sls → Prop) : Prop := match r with
  | .new o => k (sl.set i (.ow o))
  | r => fz r sl fun d sl1 => k (sl1.set i (.va d))
theorem Ab.setVa {G H : Hp} {C : Cs} {sl : Sls} {σ : L2.St} {v : V} {d : D} {i : Nat} (a : E.Ab G H C sl σ) (h : Rp E.K G v d) (hi : i < σ.length) : E.Ab G H C (sl.set i (.va d)) (σ.set i (some v)) := by
  have hl := a.len
  have f : ∀ {j : Nat} {o : Ow}, (sl.set i (.va d))[j]? = some (.ow o) → j ≠ i ∧ sl[j]? = some (.ow o) := fun {j o} h => by
    rcases set_inv h with ⟨_, z⟩ | z
    · cases z
    · exact z
  have g : ∀ {j : Nat} {p : Addr}, j ≠ i → (σ.set i (some v))[j]? = some (some (.ref p)) → σ[j]? = some (some (.ref p)) := fun {j p} n h => by
    rw [List.getElem?_set_ne (Ne.symm n)] at h
    exact h
  refine ⟨a.wi, a.mv, by rw [List.length_set, List.length_set]; exact hl, fun j d' h' => ?_, fun j o h' => ?_, fun j1 j2 p o1 o2 h1 h2 e1 e2 => ?_⟩
  · rcases set_inv h' with ⟨rfl, z⟩ | ⟨n, z⟩
    · cases z
      exact ⟨v, by rw [List.getElem?_set_self hi], h⟩
    · obtain ⟨w, e, q⟩ := a.va j d' z
      exact ⟨w, by rw [List.getElem?_set_ne (Ne.symm n)]; exact e, q⟩
  · obtain ⟨n, z⟩ := f h'
    obtain ⟨p, e, q⟩ := a.ow j o z
    exact ⟨p, by rw [List.getElem?_set_ne (Ne.symm n)]; exact e, q⟩
  · obtain ⟨n1, z1⟩ := f h1
    obtain ⟨n2, z2⟩ := f h2
    exact a.dj j1 j2 p o1 o2 z1 z2 (g n1 e1) (g n2 e2)
theorem Ab.setOw {G H : Hp} {C : Cs} {sl : Sls} {σ : L2.St} {v : V} {o : Ow} {i : Nat} (a : E.Ab G H C sl σ) (h : E.Rv G H C sl σ v (.new o)) (hi : i < σ.length) : E.Ab G H C (sl.set i (.ow o)) (σ.set i (some v)) := by
  have hl := a.len
  obtain ⟨p, rfl, oa, g, n, z, no⟩ := h
  have k : ∀ {j : Nat} {q : Addr}, j ≠ i → (σ.set i (some (.ref p)))[j]? = some (some (.ref q)) → σ[j]? = some (some (.ref q)) := fun {j q} n h => by
    rw [List.getElem?_set_ne (Ne.symm n)] at h
    exact h
  refine ⟨a.wi, a.mv, by rw [List.length_set, List.length_set]; exact hl, fun j d' h' => ?_, fun j o' h' => ?_, fun j1 j2 q o1 o2 h1 h2 e1 e2 => ?_⟩
  · rcases set_inv h' with ⟨rfl, z⟩ | ⟨n, z⟩
    · cases z
    · obtain ⟨w, e, q⟩ := a.va j d' z
      exact ⟨w, by rw [List.getElem?_set_ne (Ne.symm n)]; exact e, q⟩
  · rcases set_inv h' with ⟨rfl, z'⟩ | ⟨n', z'⟩
    · cases z'
      exact ⟨p, by rw [List.getElem?_set_self hi], oa, g, n, z⟩
    · obtain ⟨q, e, r⟩ := a.ow j o' z'
      exact ⟨q, by rw [List.getElem?_set_ne (Ne.symm n')]; exact e, r⟩
  · rcases set_inv h1 with ⟨rfl, z1⟩ | ⟨n1, z1⟩ <;> rcases set_inv h2 with ⟨rfl, z2⟩ | ⟨n2, z2⟩
    · rfl
    · rw [List.getElem?_set_self hi] at e1
      cases e1
      exact absurd ⟨j2, o2, z2, k n2 e2⟩ no
    · rw [List.getElem?_set_self hi] at e2
      cases e2
      exact absurd ⟨j1, o1, z1, k n1 e1⟩ no
    · exact a.dj j1 j2 q o1 o2 z1 z2 (k n1 e1) (k n2 e2)
theorem Ab.store {G H : Hp} {C : Cs} {sl : Sls} {σ : L2.St} {v : V} {r : R} {i : Nat} {k : Sls → Prop} (a : E.Ab G H C sl σ) (h : E.Rv G H C sl σ v r) (hi : i < σ.length) (q : stSl i r sl k) : ∃ G' sl', E.Ab G' H C sl' (σ.set i (some v)) ∧ Ex G G' ∧ k sl' := by
  cases r with
  | new o => exact ⟨G, _, Ab.setOw a h hi, Ex.refl G, q⟩
  | dat d =>
    obtain ⟨d', G', sl', a', e, _, rd, _, q'⟩ := Ab.keep a h (k := fun d sl1 => k (sl1.set i (.va d))) q
    exact ⟨G', _, Ab.setVa a' rd hi, e, q'⟩
  | slt j =>
    obtain ⟨d', G', sl', a', e, _, rd, _, q'⟩ := Ab.keep a h (k := fun d sl1 => k (sl1.set i (.va d))) q
    exact ⟨G', _, Ab.setVa a' rd hi, e, q'⟩
/-- x = e -/
def sSet (i : Nat) (t : TD) : TSD := fun Z sl C => t sl C fun r sl1 C1 => i < sl1.length ∧ stSl i r sl1 fun sl2 => Z.nx sl2 C1
theorem m_set {i : Nat} {Z : Ends} {σ : L2.St} {H : Hp} (h : tsD E (sSet i td) Z σ H) : tAsg (teD E td) (gName i) Z σ H := by
  obtain ⟨G, sl, C, DD, ab, t, k1, k2, k3, k4⟩ := h
  refine ⟨G, sl, C, _, ab, t, fun v r G1 H1 sl1 C1 a1 s1 v1 n1 q => ?_⟩
  obtain ⟨hi, q⟩ := q
  obtain ⟨G2, sl2, a2, e2, q2⟩ := Ab.store a1 v1 (by rw [← a1.len]; exact hi) q
  exact k1 G2 H1 sl2 C1 _ a2 (s1.gg.trans e2) q2
theorem ds_set {i : Nat} {x : Str} {pos' : Pos} (hN : X.N.Nodup) (hi : X.N[i]? = some x) (hx : Loc X.env.scope x) (he : PE X e (teD E td)) (hs : swapsWith e (some (.Name x pos')) pos.line X.env = pure false := by rfl) (hf : X.fn x = true ∨ X.env.scope.names.lookup x = some .local := by first | exact .inl rfl | exact .inr rfl | assumption) :
    PS X (.Assign [.Name x pos'] e pos) (tsD E (sSet i td)) := ps_weak (ps_set hN hi hx he hs hf) fun _ _ _ => m_set
end
end Dl

set_option Elab.async false
set_option maxRecDepth 100000
set_option linter.all false
set_option maxHeartbeats 2000000
/-! KitDc: targets of names, loops, comprehensions, calls. -/
namespace Dl
open PySem PySem.Spec PyProof.Rows L2 Evl Kx
inductive Tg where
  | one (i : Nat) | many (js : List Nat)
def gLst : List Nat → TGs
  | [] => gNil
  | j :: r => gCons (gName j) (gLst r)
def gT (K : PySem.W.Frag) : Tg → TG
  | .one i => gName i
  | .many js => gTup K js.length (gLst js)
def setL : List Nat → List D → Sls → Option Sls
  | [], [], sl => some sl
  | j :: r, d :: ds, sl => if j < sl.length then setL r ds (sl.set j (.va d)) else none
  | _, _, _ => none
def setT : Tg → D → Sls → Option Sls
  | .one i, d, sl => if i < sl.length then some (sl.set i (.va d)) else none
  | .many js, .tup ds, sl => setL js ds sl
  | .many _, _, _ => none
def Tg.slots : Tg → List Nat
  | .one i => [i]
  | .many js => js
theorem wipe_mem {σ : L2.St} {j : Nat} {x : Option V} : ∀ {ws : List Nat}, j ∈ ws → wipe (σ.set j x) ws = wipe σ ws
  | w :: ws, h => by
    unfold wipe
    by_cases z : j = w
    · subst z
      by_cases m : j ∈ ws
      · rw [wipe_mem m]
      · rw [wipe_not m, List.set_set]
    · rw [wipe_mem ((List.mem_cons.mp h).resolve_left z)]
where
  wipe_not {σ : L2.St} {j : Nat} {x : Option V} : ∀ {ws : List Nat}, j ∉ ws → wipe (σ.set j x) ws = (wipe σ ws).set j x
    | [], _ => rfl
    | w :: ws, h => by
      unfold wipe
      rw [wipe_not fun z => h (List.mem_cons_of_mem _ z)]
      exact List.set_comm _ _ (fun z => h (by rw [z]; exact List.mem_cons_self))
theorem wipe_wipe {σ : L2.St} : ∀ {ws vs : List Nat}, (∀ w ∈ vs, w ∈ ws) → wipe (wipe σ vs) ws = wipe σ ws
  | ws, [], _ => rfl
  | ws, v :: vs, h => by
    show wipe ((wipe σ vs).set v none) ws = _
    rw [wipe_mem (h v List.mem_cons_self), wipe_wipe fun w hw => h w (List.mem_cons_of_mem _ hw)]
section
variable {X : Cx} {E : En} {e a b c : Expr} {td ta tb tc : TD} {pos : Pos} {G H : Hp} {C : Cs} {sl : Sls} {σ : L2.St}
theorem m_lst {ws : List Nat} : ∀ {js : List Nat} {ds : List D} {vs : List V} {sl sl' : Sls} {σ : L2.St} {Q : L2.St → Hp → Prop}, E.Ab G H C sl σ → RpA E.K G vs ds → setL js ds sl = some sl' → (∀ j ∈ js, j ∈ ws) →
    (∀ σ', E.Ab G H C sl' σ' → wipe σ' ws = wipe σ ws → Q σ' H) → vs.length = js.length ∧ gLst js vs σ H Q
  | [], [], vs, sl, sl', σ, Q, ab, r, h, _, k => by
    cases r
    simp only [setL, Option.some.injEq] at h
    subst h
    exact ⟨rfl, rfl, k σ ab rfl⟩
  | j :: js, d :: ds, vs, sl, sl', σ, Q, ab, r, h, hw, k => by
    cases r with
    | @cons v vs _ _ r1 r2 =>
    simp only [setL] at h
    split at h
    · rename_i hj
      have hj' : j < σ.length := by rw [← ab.len]; exact hj
      have a2 := Ab.setVa ab r1 hj'
      obtain ⟨q1, q2⟩ := m_lst (ws := ws) (Q := Q) a2 r2 h (fun x hx => hw x (List.mem_cons_of_mem _ hx)) fun σ' a3 w3 => k σ' a3 (w3.trans (wipe_mem (hw j List.mem_cons_self)))
      exact ⟨by rw [List.length_cons, List.length_cons, q1], v, vs, rfl, q2⟩
    · cases h
  | [], _ :: _, _, _, _, _, _, _, _, h, _, _ => by simp only [setL] at h; cases h
  | _ :: _, [], _, _, _, _, _, _, _, h, _, _ => by simp only [setL] at h; cases h
theorem m_tg {tg : Tg} {d : D} {v : V} {sl' : Sls} {Q : L2.St → Hp → Prop} {ws : List Nat} (ab : E.Ab G H C sl σ) (r : Rp E.K G v d) (h : setT tg d sl = some sl') (hw : ∀ j ∈ tg.slots, j ∈ ws) (k : ∀ σ', E.Ab G H C sl' σ' → wipe σ' ws = wipe σ ws → Q σ' H) : gT E.K tg v σ H Q := by
  cases tg with
  | one i =>
    simp only [setT] at h
    split at h
    · rename_i hi
      cases h
      exact k _ (Ab.setVa ab r (by rw [← ab.len]; exact hi)) (wipe_mem (hw i List.mem_cons_self))
    · cases h
  | many js =>
    cases d with
    | tup ds =>
      simp only [setT] at h
      cases r with
      | @tup x xs _ h1 h2 =>
        obtain ⟨q1, q2⟩ := m_lst ab h2 h hw k
        exact ⟨x, xs, rfl, sqt_ex (same_ex ab.wi.gh) h1, q1, q2⟩
    | _ => simp only [setT] at h; cases h
/-! ### loops -/
def forD (tg : Tg) (body : TSD) : List D → TSD
  | [], Z, sl, C => Z.nx sl C
  | d :: r, Z, sl, C => ∃ sl1, setT tg d sl = some sl1 ∧ body { Z with nx := fun sl2 C2 => forD tg body r Z sl2 C2, ct := fun sl2 C2 => forD tg body r Z sl2 C2, bk := Z.nx } sl1 C
def sForL (t : TD) (tg : Tg) (body : TSD) : TSD := fun Z sl C => t sl C fun r sl1 C1 => fz r sl1 fun d sl2 => ∃ ds, d = .lst ds ∧ forD tg body ds Z sl2 C1
def sForT (t : TD) (tg : Tg) (body : TSD) : TSD := fun Z sl C => t sl C fun r sl1 C1 => fz r sl1 fun d sl2 => ∃ ds, d = .tup ds ∧ forD tg body ds Z sl2 C1
theorem forD_turn {tg : Tg} {body : TSD} {DD : DEnds} {Z : Ends} {G1 : Hp} {x : V} {ds : List D} {i : Nat} {d : D} (hd : ds[i]? = some d) (ab : E.Ab G H C sl σ) (e1 : Ex G1 G) (rx : Rp E.K G x d) (q : forD tg body (ds.drop i) DD sl C)
    (k1 : ∀ G' H' sl' C' σ', E.Ab G' H' C' sl' σ' → Ex G1 G' → DD.nx sl' C' → Z.nx σ' H') (k2 : ∀ v d G' H' C', WI E.K G' H' C' → Mv E.g E.h E.c G' H' C' → Rp E.K G' v d → DD.rt d C' → Z.rt v H') :
    gT E.K tg x σ H fun σ2 H2 => tsD E body { Z with nx := fun σ' H' => ∃ G' sl' C', E.Ab G' H' C' sl' σ' ∧ Ex G1 G' ∧ forD tg body (ds.drop (i + 1)) DD sl' C', ct := fun σ' H' => ∃ G' sl' C', E.Ab G' H' C' sl' σ' ∧ Ex G1 G' ∧ forD tg body (ds.drop (i + 1)) DD sl' C', bk := Z.nx } σ2 H2 := by
  have hil := (List.getElem?_eq_some_iff.mp hd).1
  have ed : ds.drop i = d :: ds.drop (i + 1) := by
    rw [List.drop_eq_getElem_cons hil]
    rw [List.getElem?_eq_getElem hil] at hd
    rw [Option.some.inj hd]
  rw [ed] at q
  obtain ⟨sl1, hs, q⟩ := q
  exact m_tg (ws := tg.slots) ab rx hs (fun _ h => h) fun σ' a' _ => ⟨G, sl1, C, _, a', q, fun G' H' sl' C' σ'' a e t => ⟨G', sl', C', a, e1.trans e, t⟩, k2, fun G' H' sl' C' σ'' a e t => k1 G' H' sl' C' σ'' a (e1.trans e) t, fun G' H' sl' C' σ'' a e t => ⟨G', sl', C', a, e1.trans e, t⟩⟩
theorem m_forL {tg : Tg} {body : TSD} {Z : Ends} (h : tsD E (sForL td tg body) Z σ H) : tFor (iList E.K (teD E td)) (gT E.K tg) (tsD E body) Z σ H := by
  obtain ⟨G, sl, C, DD, ab, t, k1, k2, k3, k4⟩ := h
  refine ⟨G, sl, C, _, ab, t, fun v r G1 H1 sl1 C1 a1 s1 v1 n1 q => ?_⟩
  obtain ⟨d, G2, sl2, a2, e2, _, rd, _, ds, rfl, q⟩ := Ab.keep a1 v1 q
  cases rd with
  | @lst a xs _ ga rs =>
  refine ⟨a, rfl, ⟨xs, SqL.of (a2.wi.gh _ _ ga)⟩, ?_⟩
  refine for_list (K := E.K) (a := a) (xs := xs) (fun i σ' H' => ∃ G' sl' C', E.Ab G' H' C' sl' σ' ∧ Ex G2 G' ∧ forD tg body (ds.drop i) DD sl' C') ⟨G2, sl2, C1, a2, Ex.refl G2, q⟩ (fun i σ' H' _ ⟨G', sl', C', a', e', _⟩ => SqL.of (a'.wi.gh _ _ (e' _ _ ga))) ?_ ?_
  · rintro i x σ' H' hi ⟨G', sl', C', a', e', q'⟩
    obtain ⟨d, hd, rx⟩ := rs.get hi
    exact forD_turn hd a' e' (rx.mono e') q' (fun G' H' sl' C' σ' a e t => k1 G' H' sl' C' σ' a ((s1.gg.trans e2).trans e) t) k2
  · rintro σ' H' ⟨G', sl', C', a', e', q'⟩
    rw [rs.len, List.drop_length] at q'
    exact k1 G' H' sl' C' σ' a' ((s1.gg.trans e2).trans e') q'
theorem m_forT {tg : Tg} {body : TSD} {Z : Ends} (h : tsD E (sForT td tg body) Z σ H) : tFor (iTup E.K (teD E td)) (gT E.K tg) (tsD E body) Z σ H := by
  obtain ⟨G, sl, C, DD, ab, t, k1, k2, k3, k4⟩ := h
  refine ⟨G, sl, C, _, ab, t, fun v r G1 H1 sl1 C1 a1 s1 v1 n1 q => ?_⟩
  obtain ⟨d, G2, sl2, a2, e2, _, rd, _, ds, rfl, q⟩ := Ab.keep a1 v1 q
  cases rd with
  | @tup a xs _ ga rs =>
  refine ⟨a, rfl, ⟨xs, sqt_ex (same_ex a2.wi.gh) ga⟩, ?_⟩
  refine for_tup (K := E.K) (a := a) (xs := xs) (fun i σ' H' => ∃ G' sl' C', E.Ab G' H' C' sl' σ' ∧ Ex G2 G' ∧ forD tg body (ds.drop i) DD sl' C') ⟨G2, sl2, C1, a2, Ex.refl G2, q⟩ (fun i σ' H' _ ⟨G', sl', C', a', e', _⟩ => sqt_ex (same_ex (e'.trans a'.wi.gh)) ga) ?_ ?_
  · rintro i x σ' H' hi ⟨G', sl', C', a', e', q'⟩
    obtain ⟨d, hd, rx⟩ := rs.get hi
    exact forD_turn hd a' e' (rx.mono e') q' (fun G' H' sl' C' σ' a e t => k1 G' H' sl' C' σ' a ((s1.gg.trans e2).trans e) t) k2
  · rintro σ' H' ⟨G', sl', C', a', e', q'⟩
    rw [rs.len, List.drop_length] at q'
    exact k1 G' H' sl' C' σ' a' ((s1.gg.trans e2).trans e') q'
/-- the ints from lo on -/
def rngD (lo : Int) : Nat → List D
  | 0 => []
  | n + 1 => .int lo :: rngD (lo + 1) n
theorem rngD_len (lo : Int) : ∀ n, (rngD lo n).length = n
  | 0 => rfl
  | n + 1 => congrArg Nat.succ (rngD_len (lo + 1) n)
theorem rngD_get : ∀ {n : Nat} {lo : Int} {i : Nat}, i < n → (rngD lo n)[i]? = some (.int (lo + i))
  | n + 1, lo, 0, _ => by simp [rngD]
  | n + 1, lo, i + 1, h => by
    simp only [rngD, List.getElem?_cons_succ]
    rw [rngD_get (by omega)]
    congr 2
    omega
def sForR (t : TAD) (tg : Tg) (body : TSD) : TSD := fun Z sl C => t sl C fun ds sl1 C1 => ∃ j : Int, ds = [.int j] ∧ -(2 ^ 62) ≤ j ∧ j < 2 ^ 62 ∧ forD tg body (rngD 0 j.toNat) Z sl1 C1
def sForR2 (t : TAD) (tg : Tg) (body : TSD) : TSD := fun Z sl C => t sl C fun ds sl1 C1 => ∃ i j : Int, ds = [.int i, .int j] ∧ (-(2 ^ 62) ≤ i ∧ i < 2 ^ 62 ∧ -(2 ^ 62) ≤ j ∧ j < 2 ^ 62) ∧ forD tg body (rngD i (j - i).toNat) Z sl1 C1
theorem m_forR {ta : TAD} {tg : Tg} {body : TSD} {Z : Ends} (h : tsD E (sForR ta tg body) Z σ H) : tFor (iRng1 (taD E ta)) (gT E.K tg) (tsD E body) Z σ H := by
  obtain ⟨G, sl, C, DD, ab, t, k1, k2, k3, k4⟩ := h
  refine ⟨G, sl, C, _, ab, t, fun vs ds G1 H1 sl1 C1 a1 s1 rs q => ?_⟩
  obtain ⟨j, rfl, h1, h2, q⟩ := q
  cases rs with
  | cons r rs =>
  cases rs
  cases r
  refine ⟨j, rfl, h1, h2, ?_⟩
  refine for_range (lo := 0) (n := j.toNat) (fun i σ' H' => ∃ G' sl' C', E.Ab G' H' C' sl' σ' ∧ Ex G1 G' ∧ forD tg body ((rngD 0 j.toNat).drop i) DD sl' C') ⟨G1, sl1, C1, a1, Ex.refl G1, q⟩ ?_ ?_
  · rintro i σ' H' hi ⟨G', sl', C', a', e', q'⟩
    exact forD_turn (rngD_get hi) a' e' (.int _) q' (fun G' H' sl' C' σ' a e t => k1 G' H' sl' C' σ' a (s1.gg.trans e) t) k2
  · rintro σ' H' ⟨G', sl', C', a', e', q'⟩
    rw [List.drop_of_length_le (by rw [rngD_len]; omega)] at q'
    exact k1 G' H' sl' C' σ' a' (s1.gg.trans e') q'
theorem m_forR2 {ta : TAD} {tg : Tg} {body : TSD} {Z : Ends} (h : tsD E (sForR2 ta tg body) Z σ H) : tFor (iRng2 (taD E ta)) (gT E.K tg) (tsD E body) Z σ H := by
  obtain ⟨G, sl, C, DD, ab, t, k1, k2, k3, k4⟩ := h
  refine ⟨G, sl, C, _, ab, t, fun vs ds G1 H1 sl1 C1 a1 s1 rs q => ?_⟩
  obtain ⟨i, j, rfl, hb, q⟩ := q
  cases rs with
  | cons r rs =>
  cases rs with
  | cons r' rs =>
  cases rs
  cases r
  cases r'
  refine ⟨i, j, rfl, hb, ?_⟩
  refine for_range (lo := i) (n := (j - i).toNat) (fun n σ' H' => ∃ G' sl' C', E.Ab G' H' C' sl' σ' ∧ Ex G1 G' ∧ forD tg body ((rngD i (j - i).toNat).drop n) DD sl' C') ⟨G1, sl1, C1, a1, Ex.refl G1, q⟩ ?_ ?_
  · rintro n σ' H' hi ⟨G', sl', C', a', e', q'⟩
    exact forD_turn (rngD_get hi) a' e' (.int _) q' (fun G' H' sl' C' σ' a e t => k1 G' H' sl' C' σ' a (s1.gg.trans e) t) k2
  · rintro σ' H' ⟨G', sl', C', a', e', q'⟩
    rw [List.drop_of_length_le (by rw [rngD_len]; omega)] at q'
    exact k1 G' H' sl' C' σ' a' (s1.gg.trans e') q'
/-! while -/
def whD (c : TTD) (body : TSD) : Nat → TSD
  | 0 => fun _ _ _ => False
  | n + 1 => fun Z sl C => c sl C fun b sl1 C1 => if b = true then body { Z with nx := fun sl2 C2 => whD c body n Z sl2 C2, ct := fun sl2 C2 => whD c body n Z sl2 C2, bk := Z.nx } sl1 C1 else Z.nx sl1 C1
def sWh (c : TTD) (body : TSD) : TSD := fun Z sl C => ∃ n, whD c body n Z sl C
theorem m_wh {tc : TTD} {body : TSD} {Z : Ends} (h : tsD E (sWh tc body) Z σ H) : tWhile (ttD E tc) (tsD E body) Z σ H := by
  obtain ⟨G, sl, C, DD, ab, ⟨n, t⟩, k1, k2, k3, k4⟩ := h
  refine ⟨fun m σ' H' => ∃ G' sl' C', E.Ab G' H' C' sl' σ' ∧ Ex G G' ∧ whD tc body m DD sl' C', ⟨n, G, sl, C, ab, Ex.refl G, t⟩, ?_⟩
  rintro m σ1 H1 ⟨G1, sl1, C1, a1, e1, q⟩
  cases m with
  | zero => exact q.elim
  | succ m =>
    refine ⟨G1, sl1, C1, _, a1, q, fun b G2 H2 sl2 C2 a2 s2 q2 => ?_⟩
    cases b with
    | false => exact k1 G2 H2 sl2 C2 σ1 a2 (e1.trans s2.gg) q2
    | true =>
      refine ⟨fun σ' H' => ∃ G' sl' C', E.Ab G' H' C' sl' σ' ∧ Ex G G' ∧ whD tc body m DD sl' C', fun σ' H' h => ⟨m, Nat.lt_succ_self m, h⟩, ?_⟩
      exact ⟨G2, sl2, C2, _, a2, q2, fun G' H' sl' C' σ' a e t => ⟨G', sl', C', a, (e1.trans s2.gg).trans e, t⟩, k2, fun G' H' sl' C' σ' a e t => k1 G' H' sl' C' σ' a ((e1.trans s2.gg).trans e) t, fun G' H' sl' C' σ' a e t => ⟨G', sl', C', a, (e1.trans s2.gg).trans e, t⟩⟩
theorem ds_while {c : Expr} {p : List Stmt} {tc : TTD} {s1 : TSD} (hp : PassesOwn (model X.prog X.w) X.A X.env X.xe) (hc : PT X c (ttD E tc)) (hb : PSs X p (tsD E s1)) : PS X (.While c p [] pos) (tsD E (sWh tc s1)) := ps_weak (ps_while hp hc hb) fun _ _ _ => m_wh
end
end Dl

set_option Elab.async false
set_option maxRecDepth 100000
set_option linter.all false
set_option maxHeartbeats 2000000
/-! KitDd: comprehensions, calls, a def's contract. -/
namespace Dl
open PySem PySem.Spec PyProof.Rows L2 Evl Kx
def unS : List Nat → Sls → Sls
  | [], sl => sl
  | w :: ws, sl => (unS ws sl).set w .un
theorem unS_len : ∀ (ws : List Nat) (sl : Sls), (unS ws sl).length = sl.length
  | [], _ => rfl
  | w :: ws, sl => by unfold unS; rw [List.length_set, unS_len]
theorem unS_some {i : Nat} {x : Sl} : ∀ {ws : List Nat} {sl : Sls}, (unS ws sl)[i]? = some x → x ≠ .un → sl[i]? = some x ∧ i ∉ ws
  | [], _, h, _ => ⟨h, by simp⟩
  | w :: ws, sl, h, n => by
    unfold unS at h
    rcases set_inv h with ⟨_, z⟩ | ⟨hi, z⟩
    · exact absurd z n
    · obtain ⟨q1, q2⟩ := unS_some z n
      exact ⟨q1, by simp only [List.mem_cons, not_or]; exact ⟨hi, q2⟩⟩
theorem unS_not {i : Nat} : ∀ {ws : List Nat} {sl : Sls}, i ∉ ws → (unS ws sl)[i]? = sl[i]?
  | [], _, _ => rfl
  | w :: ws, sl, h => by
    unfold unS
    rw [List.getElem?_set_ne fun z => h (by rw [z]; exact List.mem_cons_self), unS_not fun z => h (List.mem_cons_of_mem _ z)]
/-- the slots of a block's names as they were before it -/
def reS : List Nat → Sls → Sls → Sls
  | [], _, sl => sl
  | w :: ws, s0, sl => (reS ws s0 sl).set w (s0.getD w .un)
theorem reS_len : ∀ (ws : List Nat) (s0 sl : Sls), (reS ws s0 sl).length = sl.length
  | [], _, _ => rfl
  | w :: ws, s0, sl => by unfold reS; rw [List.length_set, reS_len]
theorem reS_inv {i : Nat} {x : Sl} : ∀ {ws : List Nat} {s0 sl : Sls}, (reS ws s0 sl)[i]? = some x → (i ∈ ws ∧ x = s0.getD i .un) ∨ (i ∉ ws ∧ sl[i]? = some x)
  | [], _, _, h => .inr ⟨by simp, h⟩
  | w :: ws, s0, sl, h => by
    unfold reS at h
    rcases set_inv h with ⟨rfl, z⟩ | ⟨hi, z⟩
    · exact .inl ⟨List.mem_cons_self, z⟩
    · rcases reS_inv z with ⟨m, q⟩ | ⟨m, q⟩
      · exact .inl ⟨List.mem_cons_of_mem _ m, q⟩
      · exact .inr ⟨by simp only [List.mem_cons, not_or]; exact ⟨hi, m⟩, q⟩
theorem wipe_not2 {σ : L2.St} {i : Nat} : ∀ {ws : List Nat}, i ∉ ws → (wipe σ ws)[i]? = σ[i]?
  | [], _ => rfl
  | w :: ws, h => by
    unfold wipe
    rw [List.getElem?_set_ne fun z => h (by rw [z]; exact List.mem_cons_self), wipe_not2 fun z => h (List.mem_cons_of_mem _ z)]
def noOw (ws : List Nat) (sl : Sls) : Prop := ∀ w ∈ ws, ∀ o, sl[w]? ≠ some (.ow o)
section
variable {X : Cx} {E : En} {e a b c : Expr} {td ta tb tc te : TD} {tt : TTD} {pos : Pos} {G H G2 H2 : Hp} {C C2 : Cs} {sl sl2 : Sls} {σ : L2.St} {ws : List Nat}
theorem Ab.wipe (a : E.Ab G H C sl σ) : E.Ab G H C (unS ws sl) (L2.wipe σ ws) := by
  refine ⟨a.wi, a.mv, by rw [unS_len, wipe_length]; exact a.len, fun i d h => ?_, fun i o h => ?_, fun i j p o o' h h' e e' => ?_⟩
  · obtain ⟨q, n⟩ := unS_some h (by intro z; cases z)
    obtain ⟨v, e, r⟩ := a.va i d q
    exact ⟨v, by rw [wipe_not2 n]; exact e, r⟩
  · obtain ⟨q, n⟩ := unS_some h (by intro z; cases z)
    obtain ⟨p, e, r⟩ := a.ow i o q
    exact ⟨p, by rw [wipe_not2 n]; exact e, r⟩
  · obtain ⟨q, n⟩ := unS_some h (by intro z; cases z)
    obtain ⟨q', n'⟩ := unS_some h' (by intro z; cases z)
    rw [wipe_not2 n] at e
    rw [wipe_not2 n'] at e'
    exact a.dj i j p o o' q q' e e'
theorem OwnP.unw {p : Addr} (h : OwnP (unS ws sl) (L2.wipe σ ws) p) : OwnP sl σ p := by
  obtain ⟨i, o, h1, h2⟩ := h
  obtain ⟨q, n⟩ := unS_some h1 (by intro z; cases z)
  exact ⟨i, o, q, by rw [wipe_not2 n] at h2; exact h2⟩
theorem OwnP.re {p : Addr} {s0 : Sls} (no : noOw ws s0) (h : OwnP (reS ws s0 sl) σ p) : OwnP sl (L2.wipe σ ws) p := by
  obtain ⟨i, o, h1, h2⟩ := h
  rcases reS_inv h1 with ⟨m, q⟩ | ⟨m, q⟩
  · refine absurd ?_ (no i m o)
    rw [List.getD_eq_getElem?_getD] at q
    cases z : s0[i]? with
    | none => rw [z] at q; cases q
    | some x => rw [z] at q; simp only [Option.getD_some] at q; rw [q]
  · exact ⟨i, o, q, by rw [wipe_not2 m]; exact h2⟩
/-- behind a block -/
theorem Ab.unwipe (a0 : E.Ab G H C sl σ) (no : noOw ws sl) (a : E.Ab G2 H2 C2 sl2 (L2.wipe σ ws)) (e : Ex G G2) : E.Ab G2 H2 C2 (reS ws sl sl2) σ := by
  have own : ∀ {i : Nat} {o : Ow}, (reS ws sl sl2)[i]? = some (.ow o) → i ∉ ws ∧ sl2[i]? = some (.ow o) := fun {i o} h => by
    rcases reS_inv h with ⟨m, q⟩ | q
    · refine absurd ?_ (no i m o)
      rw [List.getD_eq_getElem?_getD] at q
      cases z : sl[i]? with
      | none => rw [z] at q; cases q
      | some x => rw [z] at q; simp only [Option.getD_some] at q; rw [q]
    · exact q
  refine ⟨a.wi, a.mv, by rw [reS_len, a.len, wipe_length], fun i d h => ?_, fun i o h => ?_, fun i j p o o' h h' e1 e2 => ?_⟩
  · rcases reS_inv h with ⟨m, q⟩ | ⟨m, q⟩
    · have : sl[i]? = some (.va d) := by
        rw [List.getD_eq_getElem?_getD] at q
        cases z : sl[i]? with
        | none => rw [z] at q; cases q
        | some x => rw [z] at q; simp only [Option.getD_some] at q; rw [q]
      obtain ⟨v, ev, r⟩ := a0.va i d this
      exact ⟨v, ev, r.mono e⟩
    · obtain ⟨v, ev, r⟩ := a.va i d q
      exact ⟨v, by rw [wipe_not2 m] at ev; exact ev, r⟩
  · obtain ⟨m, q⟩ := own h
    obtain ⟨p, ev, r⟩ := a.ow i o q
    exact ⟨p, by rw [wipe_not2 m] at ev; exact ev, r⟩
  · obtain ⟨m, q⟩ := own h
    obtain ⟨m', q'⟩ := own h'
    exact a.dj i j p o o' q q' (by rw [wipe_not2 m]; exact e1) (by rw [wipe_not2 m']; exact e2)
theorem Stp.unwipe {G0 H0 : Hp} {C0 : Cs} (no : noOw ws sl) (hl : sl2.length = sl.length) (s : Stp (L2.wipe σ ws) G0 H0 C0 (unS ws sl) G2 H2 C2 sl2) : Stp σ G0 H0 C0 sl G2 H2 C2 (reS ws sl sl2) := by
  refine ⟨s.gg, fun p o h1 h2 h3 h4 => ?_, fun i h => ?_, s.dm⟩
  · obtain ⟨q1, q2, q3, q4⟩ := s.kp p o h1 h2 h3 fun z => h4 z.unw
    exact ⟨q1, q2, q3, fun z => q4 (z.re no)⟩
  · cases z : (reS ws sl sl2)[i]? with
    | none =>
      rw [List.getElem?_eq_none_iff, reS_len, hl] at z
      rw [List.getElem?_eq_none z] at h
      cases h
    | some x =>
      rcases reS_inv z with ⟨m, q⟩ | ⟨m, q⟩
      · rw [List.getD_eq_getElem?_getD] at q
        cases y : sl[i]? with
        | none => rw [y] at h; cases h
        | some w =>
          rw [y] at q h
          simp only [Option.getD_some] at q
          rw [q]
          exact h
      · have := s.ks i (by rw [unS_not m]; exact h)
        rw [q] at this
        exact this
/-! ### comprehensions -/
def lcD (tg : Tg) (tt : TTD) (te : TD) (ws : List Nat) : List D → List D → Sls → Cs → (List D → Sls → Cs → Prop) → Prop
  | [], acc, sl, C, Q => Q acc sl C
  | d :: r, acc, sl, C, Q => ∃ sl1, setT tg d sl = some sl1 ∧ tt sl1 C fun b sl2 C2 => if b = true then te sl2 C2 fun x sl3 C3 => fz x sl3 fun e sl4 => lcD tg tt te ws r (acc ++ [e]) (unS ws sl4) C3 Q else lcD tg tt te ws r acc (unS ws sl2) C2 Q
/-- where a comprehension's list stands -/
structure LcAt (E : En) (σ : L2.St) (ws : List Nat) (G0 H0 : Hp) (C0 : Cs) (s0 : Sls) (Dl : Addr) (G H : Hp) (C : Cs) (sl : Sls) (acc : List D) : Prop where
  ab : E.Ab G H C sl (L2.wipe σ ws)
  st : Stp (L2.wipe σ ws) G0 H0 C0 s0 G H C sl
  l : ∃ vs, H Dl = some (.lst vs) ∧ RpA E.K G vs acc
  g : G Dl = none
  n : Dl ∉ keys C
  o : ¬ OwnP sl (L2.wipe σ ws) Dl
theorem unS_un {σ' : L2.St} {G1 H1 : Hp} {C1 : Cs} (a : E.Ab G1 H1 C1 sl σ') (h : L2.wipe σ' ws = L2.wipe σ ws) : E.Ab G1 H1 C1 (unS ws sl) (L2.wipe σ ws) := by
  have := Ab.wipe (ws := ws) a
  rw [h] at this
  exact this
theorem lc_turn {tg : Tg} {G0 H0 G1 : Hp} {C0 : Cs} {s0 : Sls} {Dl : Addr} {acc : List D} {ds : List D} {i : Nat} {d : D} {x : V} {Qd : List D → Sls → Cs → Prop} (hd : ds[i]? = some d) (p : LcAt E σ ws G0 H0 C0 s0 Dl G H C sl acc) (hac : acc.length ≤ i) (hn : i < 95000) (e1 : Ex G1 G)
    (rx : Rp E.K G x d) (hw : ∀ j ∈ tg.slots, j ∈ ws) (hs0 : s0 = unS ws s0) (hD0 : H0 Dl = none) (hDE : E.h Dl = none) (q : lcD tg tt te ws (ds.drop i) acc sl C Qd) :
    gT E.K tg x (L2.wipe σ ws) H fun σ2 H2 => L2.wipe σ2 ws = L2.wipe σ ws ∧ ttD E tt σ2 H2 fun b H3 => if b = true then teD E te σ2 H3 fun y H4 => ∃ vs, H4 Dl = some (.lst vs) ∧ vs.length < sizeLine ∧ ∃ G' sl' C' acc', LcAt E σ ws G0 H0 C0 s0 Dl G' (upd H4 Dl (.lst (vs ++ [y]))) C' sl' acc' ∧ acc'.length ≤ i + 1 ∧ Ex G1 G' ∧ lcD tg tt te ws (ds.drop (i + 1)) acc' sl' C' Qd
      else ∃ G' sl' C' acc', LcAt E σ ws G0 H0 C0 s0 Dl G' H3 C' sl' acc' ∧ acc'.length ≤ i + 1 ∧ Ex G1 G' ∧ lcD tg tt te ws (ds.drop (i + 1)) acc' sl' C' Qd := by
  have hil := (List.getElem?_eq_some_iff.mp hd).1
  have ed : ds.drop i = d :: ds.drop (i + 1) := by
    rw [List.drop_eq_getElem_cons hil]
    rw [List.getElem?_eq_getElem hil] at hd
    rw [Option.some.inj hd]
  rw [ed] at q
  obtain ⟨sl1, hs, q⟩ := q
  refine m_tg (ws := ws) p.ab rx hs hw fun σ2 a2 w2 => ?_
  have w2' : L2.wipe σ2 ws = L2.wipe σ ws := w2.trans (wipe_wipe fun _ h => h)
  obtain ⟨vs0, hl0, rl0⟩ := p.l
  -- the list stands apart behind a step
  have stay : ∀ {G3 H3 : Hp} {C3 : Cs} {sl3 : Sls}, Stp σ2 G H C sl1 G3 H3 C3 sl3 → ¬ OwnP sl1 σ2 Dl → H3 Dl = some (.lst vs0) ∧ G3 Dl = none ∧ Dl ∉ keys C3 ∧ ¬ OwnP sl3 σ2 Dl := fun s no => s.kp Dl _ hl0 p.g p.n no
  have no1 : ¬ OwnP sl1 σ2 Dl := fun z => by
    -- only names' data have been set
    refine p.o ?_
    have key : ∀ {js : List Nat} {ds : List D} {sl sl' : Sls}, setL js ds sl = some sl' → ∀ {j : Nat} {o : Ow}, sl'[j]? = some (.ow o) → sl[j]? = some (.ow o) ∧ j ∉ js := by
      intro js
      induction js with
      | nil =>
        intro ds sl sl' h j o hj
        cases ds with
        | nil => simp only [setL, Option.some.injEq] at h; subst h; exact ⟨hj, by simp⟩
        | cons => simp only [setL] at h; cases h
      | cons j0 js ih =>
        intro ds sl sl' h j o hj
        cases ds with
        | nil => simp only [setL] at h; cases h
        | cons d0 ds =>
          simp only [setL] at h
          split at h
          · obtain ⟨q1, q2⟩ := ih h hj
            rcases set_inv q1 with ⟨_, z⟩ | ⟨n, z⟩
            · cases z
            · exact ⟨z, by simp only [List.mem_cons, not_or]; exact ⟨n, q2⟩⟩
          · cases h
    obtain ⟨j, o, h1, h2⟩ := z
    have hjo : sl[j]? = some (.ow o) := by
      cases tg with
      | one k =>
        simp only [setT] at hs
        split at hs
        · cases hs
          rcases set_inv h1 with ⟨_, z⟩ | ⟨_, z⟩
          · cases z
          · exact z
        · cases hs
      | many js =>
        cases d with
        | tup ds' => simp only [setT] at hs; exact (key hs h1).1
        | _ => simp only [setT] at hs; cases hs
    obtain ⟨p', e', _⟩ := p.ab.ow j o hjo
    obtain ⟨p2, e2, _⟩ := a2.ow j o h1
    have jn : j ∉ ws := fun m => by
      have := (wipe_some e').2
      exact this m
    have : (L2.wipe σ2 ws)[j]? = σ2[j]? := wipe_not2 jn
    rw [w2'] at this
    exact ⟨j, o, hjo, by rw [this]; exact h2⟩
  have back : ∀ {G3 H3 : Hp} {C3 : Cs} {sl3 : Sls}, E.Ab G3 H3 C3 sl3 σ2 → Stp σ2 G H C sl1 G3 H3 C3 sl3 → Stp (L2.wipe σ ws) G0 H0 C0 s0 G3 H3 C3 (unS ws sl3) := fun {G3 H3 C3 sl3} a3 s3 => by
    refine ⟨p.st.gg.trans s3.gg, fun r o h1 h2 h3 h4 => ?_, fun i h => ?_, fun x o h => (p.st.dm x o h).elim fun o' h' => s3.dm x o' h'⟩
    · obtain ⟨q1, q2, q3, q4⟩ := p.st.kp r o h1 h2 h3 h4
      have no : ¬ OwnP sl1 σ2 r := fun z => by
        obtain ⟨j, o2, z1, z2⟩ := z
        obtain ⟨r2, f1, f2, f3, f4, f5⟩ := a2.ow j o2 z1
        have key2 : sl[j]? = some (.ow o2) := by
          cases tg with
          | one k =>
            simp only [setT] at hs
            split at hs
            · cases hs
              rcases set_inv z1 with ⟨_, z⟩ | ⟨_, z⟩
              · cases z
              · exact z
            · cases hs
          | many js =>
            cases d with
            | tup ds' =>
              simp only [setT] at hs
              have : ∀ {js : List Nat} {ds : List D} {sl sl' : Sls}, setL js ds sl = some sl' → sl'[j]? = some (.ow o2) → sl[j]? = some (.ow o2) := by
                intro js
                induction js with
                | nil =>
                  intro ds sl sl' h hj
                  cases ds with
                  | nil => simp only [setL, Option.some.injEq] at h; subst h; exact hj
                  | cons => simp only [setL] at h; cases h
                | cons j0 js ih =>
                  intro ds sl sl' h hj
                  cases ds with
                  | nil => simp only [setL] at h; cases h
                  | cons d0 ds =>
                    simp only [setL] at h
                    split at h
                    · rcases set_inv (ih h hj) with ⟨_, z⟩ | ⟨_, z⟩
                      · cases z
                      · exact z
                    · cases h
              exact this hs z1
            | _ => simp only [setT] at hs; cases hs
        refine q4 ⟨j, o2, key2, ?_⟩
        obtain ⟨r3, g1, _⟩ := p.ab.ow j o2 key2
        have jn := (wipe_some g1).2
        have : (L2.wipe σ2 ws)[j]? = σ2[j]? := wipe_not2 jn
        rw [w2'] at this
        rw [this]
        exact z2
      obtain ⟨t1, t2, t3, t4⟩ := s3.kp r o q1 q2 q3 no
      refine ⟨t1, t2, t3, fun z => t4 ?_⟩
      rw [← w2'] at z
      exact z.unw
    · have hi0 : i ∉ ws := fun m => by
        rw [hs0] at h
        cases z : (unS ws s0)[i]? with
        | none => rw [z] at h; cases h
        | some y =>
          by_cases yu : y = .un
          · rw [z, yu] at h; cases h
          · exact (unS_some z yu).2 m
      have h1 := p.st.ks i h
      have h2 : isSet sl1[i]? := by
        have hlk : ∀ {js : List Nat} {ds : List D} {sl sl' : Sls}, setL js ds sl = some sl' → isSet sl[i]? → isSet sl'[i]? := by
          intro js
          induction js with
          | nil =>
            intro ds sl sl' h hj
            cases ds with
            | nil => simp only [setL, Option.some.injEq] at h; subst h; exact hj
            | cons => simp only [setL] at h; cases h
          | cons j0 js ih =>
            intro ds sl sl' h hj
            cases ds with
            | nil => simp only [setL] at h; cases h
            | cons d0 ds =>
              simp only [setL] at h
              split at h
              · exact ih h (isSet_set (by intro z; cases z) hj)
              · cases h
        cases tg with
        | one k =>
          simp only [setT] at hs
          split at hs
          · cases hs
            exact isSet_set (by intro z; cases z) h1
          · cases hs
        | many js =>
          cases d with
          | tup ds' => simp only [setT] at hs; exact hlk hs h1
          | _ => simp only [setT] at hs; cases hs
      rw [unS_not hi0]
      exact s3.ks i h2
  refine ⟨w2', G, sl1, C, _, a2, q, fun b G3 H3 sl3 C3 a3 s3 q3 => ?_⟩
  cases b with
  | false =>
    obtain ⟨t1, t2, t3, t4⟩ := stay s3 no1
    refine ⟨G3, unS ws sl3, C3, acc, ⟨unS_un a3 w2', back a3 s3, ⟨vs0, t1, rl0.mono s3.gg⟩, t2, t3, fun z => t4 ?_⟩, by omega, e1.trans s3.gg, q3⟩
    rw [← w2'] at z
    exact z.unw
  | true =>
    refine ⟨G3, sl3, C3, _, a3, q3, fun y r G4 H4 sl4 C4 a4 s4 v4 n4 q4 => ?_⟩
    obtain ⟨d', G5, sl5, a5, s5, rd, q5⟩ := Ab.keepS a4 v4 (s3.trans s4) (n4.back s3) q4
    obtain ⟨t1, t2, t3, t4⟩ := stay s5 no1
    refine ⟨vs0, t1, sz_lt (by have := rl0.len; omega), G5, unS ws sl5, C4, acc ++ [d'], ⟨?_, ?_, ⟨vs0 ++ [y], upd_same, (rl0.mono s5.gg).app (.cons rd .nil)⟩, t2, t3, fun z => t4 ?_⟩, by rw [List.length_append]; simp only [List.length_cons, List.length_nil]; omega, e1.trans s5.gg, q5⟩
    · have u := unS_un (ws := ws) a5 w2'
      have no5 : ¬ OwnP (unS ws sl5) (L2.wipe σ ws) Dl := fun z => t4 (by rw [← w2'] at z; exact z.unw)
      refine ⟨u.wi.wr t2 t3, ⟨u.mv.gg, fun x o h1 h2 => by rw [upd_ne (ne_of_none h1 hDE)]; exact u.mv.hh x o h1 h2, fun x o h1 => ?_, u.mv.ag, u.mv.cn⟩, u.len, u.va, fun j o h => ?_, u.dj⟩
      · obtain ⟨o', h'⟩ := u.mv.dm x o h1
        exact ⟨o', by rw [upd_ne (ne_of_none h1 hDE)]; exact h'⟩
      · obtain ⟨p', f1, ⟨ho, f2, f3⟩, f4⟩ := u.ow j o h
        have ne : p' ≠ Dl := fun z => no5 ⟨j, o, h, by rw [← z]; exact f1⟩
        exact ⟨p', f1, ⟨ho, by rw [upd_ne ne]; exact f2, f3⟩, f4⟩
    · have s6 := back a5 s5
      refine ⟨s6.gg, fun r o h1 h2 h3 h4 => ?_, s6.ks, fun x o h => ?_⟩
      · obtain ⟨f1, f2⟩ := s6.kp r o h1 h2 h3 h4
        exact ⟨by rw [upd_ne (ne_of_none h1 hD0)]; exact f1, f2⟩
      · obtain ⟨o', h'⟩ := s6.dm x o h
        exact ⟨o', by rw [upd_ne (ne_of_none h hD0)]; exact h'⟩
    · rw [← w2'] at z
      exact z.unw
end
end Dl

set_option Elab.async false
set_option maxRecDepth 100000
set_option linter.all false
set_option maxHeartbeats 2000000
/-! KitDe: comprehensions over lists, tuples, ranges; calls; a def's contract. -/
namespace Dl
open PySem PySem.Spec PyProof.Rows L2 Evl Kx
def dLcL (t : TD) (tg : Tg) (tt : TTD) (te : TD) (ws : List Nat) : TD := fun sl C Q => t sl C fun r sl1 C1 => fz r sl1 fun d sl2 => ∃ ds, d = .lst ds ∧ ds.length ≤ 90000 ∧ noOw ws sl2 ∧ lcD tg tt te ws ds [] (unS ws sl2) C1 fun es sl3 C3 => Q (.new (.lst es)) (reS ws sl2 sl3) C3
def dLcT (t : TD) (tg : Tg) (tt : TTD) (te : TD) (ws : List Nat) : TD := fun sl C Q => t sl C fun r sl1 C1 => fz r sl1 fun d sl2 => ∃ ds, d = .tup ds ∧ ds.length ≤ 90000 ∧ noOw ws sl2 ∧ lcD tg tt te ws ds [] (unS ws sl2) C1 fun es sl3 C3 => Q (.new (.lst es)) (reS ws sl2 sl3) C3
def dLcR (t : TAD) (tg : Tg) (tt : TTD) (te : TD) (ws : List Nat) : TD := fun sl C Q => t sl C fun ds sl2 C1 => ∃ j : Int, ds = [.int j] ∧ -(2 ^ 62) ≤ j ∧ j ≤ 40000 ∧ noOw ws sl2 ∧ lcD tg tt te ws (rngD 0 j.toNat) [] (unS ws sl2) C1 fun es sl3 C3 => Q (.new (.lst es)) (reS ws sl2 sl3) C3
def dYes : TTD := fun sl C Q => Q true sl C
section
variable {X : Cx} {E : En} {e a b c : Expr} {td ta tb tc te : TD} {tt : TTD} {pos : Pos} {G H G2 H2 : Hp} {C C2 : Cs} {sl sl2 : Sls} {σ : L2.St} {ws : List Nat} {tg : Tg}
theorem dts_nil : PTs X [] (ttD E dYes) := ⟨fun pins s σ H Q I h => pts_nil.run pins s σ H Q I (by
  obtain ⟨G, sl, C, Qd, ab, t, k⟩ := h
  exact k true G H sl C ab Stp.refl t)⟩
theorem lc_start {Dl : Addr} (ab : E.Ab G H C sl σ) (hD : H Dl = none) : LcAt E σ ws G H C (unS ws sl) Dl G (upd H Dl (.lst [])) C (unS ws sl) [] := by
  obtain ⟨a2, s2, p, e, q1, q2, q3, q4, q5⟩ := Ab.fresh (o := .lst []) (w := .lst []) (Ab.wipe (ws := ws) ab) hD (.lst .nil)
  cases e
  exact ⟨a2, s2, ⟨[], upd_same, .nil⟩, q2, q3, q5⟩
theorem lc_stop {G0 : Hp} {H0 : Hp} {C0 : Cs} {sl0 : Sls} {Dl : Addr} {acc : List D} (ab : E.Ab G0 H0 C0 sl0 σ) (no : noOw ws sl0) (hD : H0 Dl = none) (p : LcAt E σ ws G0 H0 C0 (unS ws sl0) Dl G H C sl acc) :
    E.Ab G H C (reS ws sl0 sl) σ ∧ Stp σ G0 H0 C0 sl0 G H C (reS ws sl0 sl) ∧ E.Rv G H C (reS ws sl0 sl) σ (.ref Dl) (.new (.lst acc)) := by
  obtain ⟨vs, h1, h2⟩ := p.l
  have hl : sl.length = sl0.length := by
    have h1 := p.ab.len
    have h2 := ab.len
    rw [wipe_length] at h1
    omega
  exact ⟨Ab.unwipe ab no p.ab p.st.gg, Stp.unwipe no hl p.st, Dl, rfl, ⟨.lst vs, h1, .lst h2⟩, p.g, p.n, ab.hn hD, fun z => p.o (z.re no)⟩
theorem unS_idem : unS ws (unS ws sl) = unS ws sl := by
  refine List.ext_getElem? fun i => ?_
  by_cases m : i ∈ ws
  · cases z : (unS ws (unS ws sl))[i]? with
    | none =>
      rw [List.getElem?_eq_none_iff, unS_len] at z
      rw [List.getElem?_eq_none z]
    | some x =>
      have hx : x = .un := Classical.byContradiction fun n => (unS_some z n).2 m
      cases y : (unS ws sl)[i]? with
      | none =>
        rw [List.getElem?_eq_none_iff] at y
        rw [List.getElem?_eq_none (by rw [unS_len]; exact y)] at z
        cases z
      | some w =>
        have hy : w = .un := Classical.byContradiction fun n => (unS_some y n).2 m
        rw [hx, hy]
  · rw [unS_not m]
theorem m_lcL {Q : VK} (hw : ∀ j ∈ tg.slots, j ∈ ws) (h : teD E (dLcL td tg tt te ws) σ H Q) : tLc (iList E.K (teD E td)) (gT E.K tg) (ttD E tt) (teD E te) ws σ H Q := by
  obtain ⟨G, sl, C, Qd, ab, t, k⟩ := h
  refine ⟨G, sl, C, _, ab, t, fun v r G1 H1 sl1 C1 a1 s1 v1 n1 q => ?_⟩
  obtain ⟨d, G2, sl2, a2, s2, rd, ds, rfl, hl, no, q⟩ := Ab.keepS a1 v1 s1 n1 q
  cases rd with
  | @lst a xs _ ga rs =>
  refine ⟨a, rfl, ⟨xs, SqL.of (a2.wi.gh _ _ ga)⟩, fun D hD => ?_⟩
  refine lc_list (K := E.K) (a := a) (xs := xs) (fun i H' => ∃ G' sl' C' acc, LcAt E σ ws G2 H1 C1 (unS ws sl2) D G' H' C' sl' acc ∧ acc.length ≤ i ∧ Ex G2 G' ∧ lcD tg tt te ws (ds.drop i) acc sl' C' (fun es sl3 C3 => Qd (.new (.lst es)) (reS ws sl2 sl3) C3)) ⟨G2, _, C1, [], lc_start a2 hD, Nat.le_refl _, Ex.refl G2, q⟩
    (fun i H' _ ⟨G', sl', C', acc, p, _, e', _⟩ => SqL.of (p.ab.wi.gh _ _ (e' _ _ ga))) ?_ ?_
  · rintro i x H' hi ⟨G', sl', C', acc, p, hac, e', q'⟩
    obtain ⟨d, hd, rx⟩ := rs.get hi
    have hil := (List.getElem?_eq_some_iff.mp hd).1
    exact lc_turn hd p hac (by omega) e' (rx.mono e') hw unS_idem.symm hD (a2.hn hD) q'
  · rintro H' ⟨G', sl', C', acc, p, hac, e', q'⟩
    rw [rs.len, List.drop_length] at q'
    obtain ⟨f1, f2, f3⟩ := lc_stop a2 no hD p
    exact k _ _ _ _ _ _ f1 (s2.trans f2) f3 ⟨D, rfl, s2.hn hD⟩ q'
theorem m_lcT {Q : VK} (hw : ∀ j ∈ tg.slots, j ∈ ws) (h : teD E (dLcT td tg tt te ws) σ H Q) : tLc (iTup E.K (teD E td)) (gT E.K tg) (ttD E tt) (teD E te) ws σ H Q := by
  obtain ⟨G, sl, C, Qd, ab, t, k⟩ := h
  refine ⟨G, sl, C, _, ab, t, fun v r G1 H1 sl1 C1 a1 s1 v1 n1 q => ?_⟩
  obtain ⟨d, G2, sl2, a2, s2, rd, ds, rfl, hl, no, q⟩ := Ab.keepS a1 v1 s1 n1 q
  cases rd with
  | @tup a xs _ ga rs =>
  refine ⟨a, rfl, ⟨xs, sqt_ex (same_ex a2.wi.gh) ga⟩, fun D hD => ?_⟩
  refine lc_tup (K := E.K) (a := a) (xs := xs) (fun i H' => ∃ G' sl' C' acc, LcAt E σ ws G2 H1 C1 (unS ws sl2) D G' H' C' sl' acc ∧ acc.length ≤ i ∧ Ex G2 G' ∧ lcD tg tt te ws (ds.drop i) acc sl' C' (fun es sl3 C3 => Qd (.new (.lst es)) (reS ws sl2 sl3) C3)) ⟨G2, _, C1, [], lc_start a2 hD, Nat.le_refl _, Ex.refl G2, q⟩
    (fun i H' _ ⟨G', sl', C', acc, p, _, e', _⟩ => sqt_ex (same_ex (e'.trans p.ab.wi.gh)) ga) ?_ ?_
  · rintro i x H' hi ⟨G', sl', C', acc, p, hac, e', q'⟩
    obtain ⟨d, hd, rx⟩ := rs.get hi
    have hil := (List.getElem?_eq_some_iff.mp hd).1
    exact lc_turn hd p hac (by omega) e' (rx.mono e') hw unS_idem.symm hD (a2.hn hD) q'
  · rintro H' ⟨G', sl', C', acc, p, hac, e', q'⟩
    rw [rs.len, List.drop_length] at q'
    obtain ⟨f1, f2, f3⟩ := lc_stop a2 no hD p
    exact k _ _ _ _ _ _ f1 (s2.trans f2) f3 ⟨D, rfl, s2.hn hD⟩ q'
theorem m_lcR {ta : TAD} {Q : VK} (hw : ∀ j ∈ tg.slots, j ∈ ws) (h : teD E (dLcR ta tg tt te ws) σ H Q) : tLc (iRng1 (taD E ta)) (gT E.K tg) (ttD E tt) (teD E te) ws σ H Q := by
  obtain ⟨G, sl, C, Qd, ab, t, k⟩ := h
  refine ⟨G, sl, C, _, ab, t, fun vs ds G1 H1 sl1 C1 a1 s1 rs q => ?_⟩
  obtain ⟨j, rfl, hj1, hj2, no, q⟩ := q
  cases rs with
  | cons r rs =>
  cases rs
  cases r
  refine ⟨j, rfl, hj1, by omega, fun D hD => ?_⟩
  refine lc_range (lo := 0) (n := j.toNat) (fun i H' => ∃ G' sl' C' acc, LcAt E σ ws G1 H1 C1 (unS ws sl1) D G' H' C' sl' acc ∧ acc.length ≤ i ∧ Ex G1 G' ∧ lcD tg tt te ws ((rngD 0 j.toNat).drop i) acc sl' C' (fun es sl3 C3 => Qd (.new (.lst es)) (reS ws sl1 sl3) C3)) ⟨G1, _, C1, [], lc_start a1 hD, Nat.le_refl _, Ex.refl G1, q⟩ ?_ ?_
  · rintro i H' hi ⟨G', sl', C', acc, p, hac, e', q'⟩
    exact lc_turn (rngD_get hi) p hac (by omega) e' (.int _) hw unS_idem.symm hD (a1.hn hD) q'
  · rintro H' ⟨G', sl', C', acc, p, hac, e', q'⟩
    rw [List.drop_of_length_le (by rw [rngD_len]; omega)] at q'
    obtain ⟨f1, f2, f3⟩ := lc_stop a1 no hD p
    exact k _ _ _ _ _ _ f1 (s1.trans f2) f3 ⟨D, rfl, s1.hn hD⟩ q'
end
/-! ### a def's contract -/
abbrev Spec := List D → Cs → (D → Cs → Prop) → Prop
structure spD (K : PySem.W.Frag) (n : Nat) (sp : Spec) (vs : List V) (H : Hp) (Q : VK) (E_ : XK) : Prop where
  mk' ::
  out : ∃ (G : Hp) (C : Cs) (ds : List D) (Qd : D → Cs → Prop), WI K G H C ∧ RpA K G vs ds ∧ ds.length = n ∧ sp ds C Qd ∧ ∀ v d G' H' C', WI K G' H' C' → Mv G H C G' H' C' → Rp K G' v d → Qd d C' → Q v H'
def startD (N : List Str) (ds : List D) : Sls := ds.map .va ++ List.replicate (N.length - ds.length) .un
section
variable {K : PySem.W.Frag} {G H : Hp} {C : Cs}
theorem rpa_va : ∀ {vs : List V} {ds : List D} {i : Nat} {d : D}, RpA K G vs ds → (ds.map Sl.va)[i]? = some (.va d) → ∃ v, (vs.map some)[i]? = some (some v) ∧ Rp K G v d
  | _, _, 0, d, .cons a _, h => by
    simp only [List.map_cons, List.getElem?_cons_zero, Option.some.injEq, Sl.va.injEq] at h
    subst h
    exact ⟨_, rfl, a⟩
  | _, _, i + 1, d, .cons _ b, h => by
    simp only [List.map_cons, List.getElem?_cons_succ] at h ⊢
    exact rpa_va b h
theorem ab_start {N : List Str} {vs : List V} {ds : List D} (w : WI K G H C) (r : RpA K G vs ds) (hl : ds.length ≤ N.length) : Ab K G H C G H C (startD N ds) (L2.start N vs) := by
  have hlen := r.len
  have un : ∀ {i : Nat} {x : Sl}, (startD N ds)[i]? = some x → (ds.map Sl.va)[i]? = some x ∨ x = .un := fun {i x} h => by
    unfold startD at h
    by_cases z : i < (ds.map Sl.va).length
    · rw [List.getElem?_append_left z] at h
      exact .inl h
    · rw [List.getElem?_append_right (by omega)] at h
      exact .inr (List.eq_of_mem_replicate (List.mem_of_getElem? h))
  refine ⟨w, Mv.refl, ?_, fun i d h => ?_, fun i o h => ?_, fun i j p o o' h => ?_⟩
  · unfold startD L2.start
    rw [List.length_append, List.length_append, List.length_map, List.length_map, List.length_replicate, List.length_replicate, hlen]
  · rcases un h with h | h
    · obtain ⟨v, e, q⟩ := rpa_va r h
      refine ⟨v, ?_, q⟩
      unfold L2.start
      have z : i < (vs.map some).length := (List.getElem?_eq_some_iff.mp e).1
      rw [List.getElem?_append_left z]
      exact e
    · cases h
  · rcases un h with h | h
    · have := List.mem_of_getElem? h
      obtain ⟨d, _, z⟩ := List.mem_map.mp this
      cases z
    · cases h
  · rcases un h with h | h
    · have := List.mem_of_getElem? h
      obtain ⟨d, _, z⟩ := List.mem_map.mp this
      cases z
    · cases h
end
/-- a def by its reading over data -/
theorem gnD {P : Program} {w : World} {K : PySem.W.Frag} {mg : Str → Option Value} {base : Heap} {x qual : Str} {st : Stmt} {f : Addr} {fd : FuncData} {N ps : List Str} {k n : Nat} {sp : Spec}
    (F : Fun K x qual st f fd) (S : FnScope N ps (defScope st)) (hn : n = ps.length) (hN : n ≤ N.length)
    (hbody : ∀ (cdv : Value) (A : Around) (outer : List Env) (s : Shared) (H : Hp) (Ex : XK) (E : En), E.K = K → A.guards = some [] → Room k (A.deeper (envOfC qual (defScope st) s.heap.objs.size f cdv)) →
      ∃ ts : TSD, PSs (cxOf CX0 P w K mg base N qual (defScope st) f cdv A outer s H Ex).nox (defBody st) (tsD E ts) ∧
        ∀ ds C Qd, ds.length = n → sp ds C Qd → ts { nx := fun _ C' => Qd .non C', rt := Qd } (startD N ds) C) :
    GnOk P w K mg base CX0 (k + 1) f fd ps (spD K n sp) := by
  refine gn_ok F S (fun vs H Q E h => ?_) (fun cdv A outer s H vs Q Ex hg hr h => ?_)
  · obtain ⟨G, C, ds, Qd, _, r, hl, _⟩ := h
    rw [r.len, hl, hn]
  · obtain ⟨G, C, ds, Qd, wi, r, hl, q, kk⟩ := h
    obtain ⟨ts, h1, h2⟩ := hbody cdv A outer s H Ex ⟨K, G, H, C⟩ rfl hg hr
    refine ⟨_, h1, G, startD N ds, C, _, ab_start wi r (by omega), h2 ds C Qd hl q, fun G' H' sl' C' σ' a _ q => kk .non .non G' H' C' a.wi a.mv .non q, fun v d G' H' C' w m r q => kk v d G' H' C' w m r q, fun _ _ _ _ _ _ _ z => z.elim, fun _ _ _ _ _ _ _ z => z.elim⟩
section
variable {X : Cx} {E : En} {e : Expr} {es : List Expr} {pos p : Pos} {tr : TAD} {sp : Spec} {k n : Nat} {f : Addr} {fd : FuncData} {ps : List Str} {x : Str} {dvs : List V} {dds : List D} {ds : List Value} {CX : CXT} {E0 : XK}
def dCall (n : Nat) (sp : Spec) (dds : List D) (tr : TAD) : TD := fun sl C Q => tr sl C fun ds sl1 C1 => (ds ++ dds).length = n ∧ sp (ds ++ dds) C1 fun d C2 => Q (.dat d) sl1 C2
theorem m_call {σ : L2.St} {H : Hp} {Q : VK} (hd : ∀ G, RpA E.K G dvs dds) (h : teD E (dCall n sp dds tr) σ H Q) : tCall (spD E.K n sp) dvs E0 (taD E tr) σ H Q := by
  obtain ⟨G, sl, C, Qd, ab, t, k⟩ := h
  refine ⟨G, sl, C, _, ab, t, fun vs ds G1 H1 sl1 C1 a1 s1 rs q => ?_⟩
  exact ⟨G1, C1, ds ++ dds, _, a1.wi, rs.app (hd G1), q.1, q.2, fun v d G' H' C' w m rd qd => k v (.dat d) G' H' sl1 C' (a1.go w m) (s1.trans (a1.stp m)) rd trivial qd⟩
theorem de_call (F : GnOk X.prog X.w X.K X.mg X.base CX k f fd ps (spD E.K n sp)) (hgu : X.A.guards = some []) (hr : Room k X.A) (hg : Gl X x) (hm : X.mg x = some (.ref f)) (hk : PySem.W.keepIn X.K (.ref f) = true) (hb : Binds X.K fd ps ds)
    (hd : Vals dvs ds) (hdd : ∀ G, RpA E.K G dvs dds) (hx : Passes CX X E0) (ha : PA X (e :: es) (taD E tr)) (hdb : (x == ("__debug__" : Str)) = false := by decide)
    (he : starEach (e :: es) X.env = (false, eval e X.env) :: starEach es X.env := by rfl) (hpl : (backTo pos (starEach es X.env)).any (·.1) = false := by rfl) : PE X (.Call (.Name x p) (e :: es) [] pos) (teD E (dCall n sp dds tr)) :=
  pe_weak (pe_callG F hgu hr hg hm hk hb hd hx ha hdb he hpl) fun _ _ _ => m_call hdd
theorem de_call0 (F : GnOk X.prog X.w X.K X.mg X.base CX k f fd ps (spD E.K n sp)) (hgu : X.A.guards = some []) (hr : Room k X.A) (hg : Gl X x) (hm : X.mg x = some (.ref f)) (hk : PySem.W.keepIn X.K (.ref f) = true) (hb : Binds X.K fd ps ds)
    (hd : Vals dvs ds) (hdd : ∀ G, RpA E.K G dvs dds) (hx : Passes CX X E0) (hdb : (x == ("__debug__" : Str)) = false := by decide) : PE X (.Call (.Name x p) [] [] pos) (teD E (dCall n sp dds dNil)) :=
  pe_weak (pe_callG0 F hgu hr hg hm hk hb hd hx hdb) fun σ H Q h => by
    have := m_call (E0 := E0) hdd h
    obtain ⟨G, sl, C, Qd, ab, t, k⟩ := h
    have q := t
    exact ⟨G, C, [] ++ dds, _, ab.wi, RpA.app .nil (hdd G), q.1, q.2, fun v d G' H' C' w m rd qd => k v (.dat d) G' H' sl C' (ab.go w m) (ab.stp m) rd trivial qd⟩
end
end Dl

set_option Elab.async false
set_option maxRecDepth 100000
set_option linter.all false
set_option maxHeartbeats 2000000
/-! KitR: a text in a list of any data. -/
namespace Kx
open PySem PySem.Spec PyProof.Rows L2 Evl SeqAt AutoSeq1 MeetsSeq
theorem any_cnt {α : Type} {p : α → Bool} {l : List α} : l.any p = decide (0 < l.countP p) := by
  rw [Bool.eq_iff_iff, decide_eq_true_eq, List.countP_pos_iff, List.any_eq_true]
/-- text in xs, xs any data -/
def rInD (K : PySem.W.Frag) : R2 := fun x y H Q => ∃ (z : Str) (p : Addr) (vs : List V) (ds : List PyData), x = .str z ∧ y = .ref p ∧ SqL K H p vs ∧ DqA K H vs ds ∧ Q (.bl (ds.any fun d => eqS d z)) H
theorem op_inTd {X : Cx} (hu : X.A.units + 1 < cLine) : OpR X (compareOp .In) (rInD X.K) := by
  intro pins s σ H x y v u Q I rx ry h
  obtain ⟨z, p, vs, ds, rfl, rfl, hs, hd, q⟩ := h
  cases ry
  obtain ⟨t, rfl⟩ := rx
  obtain ⟨its, rv, hl, _⟩ := I.list hs
  obtain ⟨as, hr⟩ := DqA.rd I hd rv
  obtain ⟨e, h1, h2⟩ := cnt_reads (A := X.A.in1) (z := z) (t := t) hu hr
  refine in_listAt e hl.isList (fun y hy => h1 y (by simpa using hy)) ⟨.bl _, H, I, rfl, ?_⟩
  rw [List.any_toArray, any_cnt, h2, ← any_cnt]
  exact q
theorem op_inTdK {X : Cx} {K : PySem.W.Frag} (hu : X.A.units + 1 < cLine) (h : X.K = K := by rfl) : OpR X (compareOp .In) (rInD K) := h ▸ op_inTd hu
end Kx

set_option Elab.async false
set_option maxRecDepth 100000
set_option linter.all false
set_option maxHeartbeats 2000000
/-! KitDf: operators, subscripts, built-ins and methods over data. -/
namespace Dl
open PySem PySem.Spec PyProof.Rows L2 Evl Kx
section
variable {X : Cx} {E : En} {G H : Hp} {C : Cs} {sl : Sls} {σ : L2.St}
/-! ### how results come out -/
abbrev Cont (E : En) (σ : L2.St) (G H : Hp) (C : Cs) (sl : Sls) (z : R) (Q : VK) : Prop := ∀ v G' H', E.Ab G' H' C sl σ → Stp σ G H C sl G' H' C sl → E.Rv G' H' C sl σ v z → Nw H v z → Q v H'
theorem out_flat {v : V} {d : D} {Q : VK} (a : E.Ab G H C sl σ) (k : Cont E σ G H C sl (.dat d) Q) (r : Rp E.K G v d) : Q v H := k v G H a Stp.refl r trivial
theorem out_tup {vs : List V} {ds : List D} {Q : VK} (a : E.Ab G H C sl σ) (k : Cont E σ G H C sl (.dat (.tup ds)) Q) (r : RpA E.K G vs ds) : ∀ p, H p = none → Q (.ref p) (upd H p (.tup vs)) := fun p hp => by
  obtain ⟨a2, s2⟩ := Ab.known (o := .tup vs) a hp
  exact k (.ref p) _ _ a2 s2 (Rp.tup (.inl (.inl upd_same)) (r.mono s2.gg)) trivial
theorem out_new {o : HO} {w : Ow} {Q : VK} (a : E.Ab G H C sl σ) (k : Cont E σ G H C sl (.new w) Q) (r : OwO E.K G w o) : ∀ p, H p = none → Q (.ref p) (upd H p o) := fun p hp => by
  obtain ⟨a2, s2, v2⟩ := Ab.fresh a hp r
  exact k (.ref p) _ _ a2 s2 v2 ⟨p, rfl, hp⟩
/-! ### + - * -/
def addD : D → D → Option R
  | .int i, .int j => some (.dat (.int (i + j)))
  | .str a, .str b => if a.length + b.length ≤ 1000000 then some (.dat (.str (a ++ b))) else none
  | .lst a, .lst b => if a.length + b.length ≤ 100000 then some (.new (.lst (a ++ b))) else none
  | .tup a, .tup b => if a.length + b.length ≤ 100000 then some (.dat (.tup (a ++ b))) else none
  | _, _ => none
theorem sz_line {n : Nat} (h : n ≤ 1000000) : n ≤ sizeLine := Nat.le_trans h (by decide)
theorem o_add {K : PySem.W.Frag} (h : X.K = K := by rfl) : OpR X (binaryOp .Add) (fun x y H Q => (rI0 (fun i j => V.int (i + j))) x y H Q ∨ (∃ i j, x = .str i ∧ y = .str j ∧ i.length + j.length ≤ sizeLine ∧ Q (.str (i ++ j)) H) ∨ rCat x y H Q ∨ rCatA K x y H Q) := by
  subst h
  exact op_add.or (op_add_str.or (op_cat.or op_catA))
theorem m_add : OpM E (fun x y H Q => (rI0 (fun i j => V.int (i + j))) x y H Q ∨ (∃ i j, x = .str i ∧ y = .str j ∧ i.length + j.length ≤ sizeLine ∧ Q (.str (i ++ j)) H) ∨ rCat x y H Q ∨ rCatA E.K x y H Q) addD := by
  intro σ G H C sl x y d e z Q a hx hy hz k
  unfold addD at hz
  split at hz
  · cases hz
    exact .inl ⟨_, _, hx.int, hy.int, out_flat a k (.int _)⟩
  · split at hz
    · rename_i hl
      cases hz
      exact .inr (.inl ⟨_, _, hx.str, hy.str, sz_line hl, out_flat a k (.str _)⟩)
    · cases hz
  · split at hz
    · rename_i hl
      cases hz
      obtain ⟨p, vs, rfl, h1, r1⟩ := hx.lst a.wi.gh
      obtain ⟨q, us, rfl, h2, r2⟩ := hy.lst a.wi.gh
      exact .inr (.inr (.inl ⟨_, _, _, _, rfl, rfl, h1, h2, sz_of (by rw [r1.len, r2.len]; exact hl), out_new a k (.lst (r1.app r2))⟩))
    · cases hz
  · split at hz
    · rename_i hl
      cases hz
      obtain ⟨p, vs, rfl, h1, r1⟩ := hx.tup
      obtain ⟨q, us, rfl, h2, r2⟩ := hy.tup
      refine .inr (.inr (.inr ⟨p, q, vs, us, rfl, rfl, sqt_ex (same_ex a.wi.gh) h1, sqt_ex (same_ex a.wi.gh) h2, sz_of (by rw [r1.len, r2.len]; exact hl), fun e => ?_, fun _ e => ?_, fun _ _ => out_tup a k (r1.app r2)⟩))
      · subst e
        cases r1
        exact out_flat a k (.tup h2 r2)
      · subst e
        cases r2
        rw [List.append_nil] at k
        exact out_flat a k (.tup h1 r1)
    · cases hz
  · cases hz
def subD : D → D → Option R
  | .int i, .int j => some (.dat (.int (i - j)))
  | _, _ => none
theorem m_sub : OpM E (rI0 fun i j => .int (i - j)) subD := by
  intro σ G H C sl x y d e z Q a hx hy hz k
  unfold subD at hz
  split at hz
  · cases hz
    exact ⟨_, _, hx.int, hy.int, out_flat a k (.int _)⟩
  · cases hz
def mulD : D → D → Option R
  | .int i, .int j => if -(2 ^ 64) < i ∧ i < 2 ^ 64 then some (.dat (.int (i * j))) else none
  | .lst a, .int j => if -(2 ^ 62) ≤ j ∧ j ≤ 100000 ∧ a.length * j.toNat ≤ 100000 then some (.new (.lst (List.replicate j.toNat a).flatten)) else none
  | _, _ => none
theorem o_mul : OpR X (binaryOp .Mult) (fun x y H Q => (rI CMul fun i j => .int (i * j)) x y H Q ∨ rRep x y H Q) := op_mul.or op_rep
theorem m_mul : OpM E (fun x y H Q => (rI CMul fun i j => .int (i * j)) x y H Q ∨ rRep x y H Q) mulD := by
  intro σ G H C sl x y d e z Q a hx hy hz k
  unfold mulD at hz
  split at hz
  · split at hz
    · rename_i hl
      cases hz
      exact .inl ⟨_, _, hx.int, hy.int, .inl hl, out_flat a k (.int _)⟩
    · cases hz
  · split at hz
    · rename_i hl
      cases hz
      obtain ⟨p, vs, rfl, h1, r1⟩ := hx.lst a.wi.gh
      refine .inr ⟨_, _, _, rfl, hy.int, h1, by omega, by omega, sz_of (by rw [r1.len]; exact hl.2.2), out_new a k (.lst r1.rep)⟩
    · cases hz
  · cases hz
/-! ### order of ints -/
def cmpI (p : Int → Int → Bool) : D → D → Option R
  | .int i, .int j => some (.dat (.bl (p i j)))
  | _, _ => none
theorem m_cmpI {p : Int → Int → Bool} : OpM E (rI0 fun i j => .bl (p i j)) (cmpI p) := by
  intro σ G H C sl x y d e z Q a hx hy hz k
  unfold cmpI at hz
  split at hz
  · cases hz
    exact ⟨_, _, hx.int, hy.int, out_flat a k (.bl _)⟩
  · cases hz
/-! ### == != is in -/
theorem decV_int {i j : Int} : decide (V.int i = V.int j) = decide (i = j) := decide_eq_decide.mpr ⟨V.int.inj, congrArg _⟩
theorem decV_bl {i j : Bool} : decide (V.bl i = V.bl j) = decide (i = j) := decide_eq_decide.mpr ⟨V.bl.inj, congrArg _⟩
theorem decV_str {i j : Str} : decide (V.str i = V.str j) = decide (i = j) := decide_eq_decide.mpr ⟨V.str.inj, congrArg _⟩
def eqDD (d e : D) : Option Bool := match d, e with
  | .int i, .int j => some (decide (i = j))
  | .bl i, .bl j => some (decide (i = j))
  | .str i, .str j => some (decide (i = j))
  | d, .str z => (toP d).map fun p => eqS p z
  | d, e => match toP d, toP e with
    | some p, some q => if (SeqAt.shaped p && SeqAt.shaped q && !p.hasDict && !q.hasDict) = true then some (PyData.eqv p q) else none
    | _, _ => none
theorem o_eq {K : PySem.W.Frag} {A : Around} (hu : A.units + 64 < cLine) (hA : X.A = A := by rfl) (h : X.K = K := by rfl) : OpR X (compareOp .Eq) (fun x y H Q => rEq x y H Q ∨ rEqS K x y H Q ∨ rEqD K x y H Q) := by
  subst h hA
  exact op_eq.or ((op_eqS (by omega)).or (op_eqD hu))
theorem m_eq : OpM E (fun x y H Q => rEq x y H Q ∨ rEqS E.K x y H Q ∨ rEqD E.K x y H Q) (fun d e => (eqDD d e).map fun b => .dat (.bl b)) := by
  intro σ G H C sl x y d e z Q a hx hy hz k
  simp only [Option.map_eq_some_iff] at hz
  obtain ⟨b, hz, rfl⟩ := hz
  unfold eqDD at hz
  split at hz
  · cases hz
    rw [hx.int, hy.int]
    refine .inl ⟨rfl, out_flat a k ?_⟩
    rw [decV_int]
    exact .bl _
  · cases hz
    rw [hx.bl, hy.bl]
    refine .inl ⟨rfl, out_flat a k ?_⟩
    rw [decV_bl]
    exact .bl _
  · cases hz
    rw [hx.str, hy.str]
    refine .inl ⟨rfl, out_flat a k ?_⟩
    rw [decV_str]
    exact .bl _
  · simp only [Option.map_eq_some_iff] at hz
    obtain ⟨p, hp, rfl⟩ := hz
    exact .inr (.inl ⟨p, _, hx.dq a.wi.gh hp, hy.str, out_flat a k (.bl _)⟩)
  · split at hz
    · rename_i p q hp hq
      split at hz
      · rename_i hs
        cases hz
        simp only [Bool.and_eq_true, Bool.not_eq_true'] at hs
        obtain ⟨⟨⟨s1, s2⟩, s3⟩, s4⟩ := hs
        exact .inr (.inr ⟨p, q, dp_of (hx.dq a.wi.gh hp) s3, dp_of (hy.dq a.wi.gh hq) s4, s1, s2, out_flat a k (.bl _)⟩)
      · cases hz
    · cases hz
theorem o_ne {K : PySem.W.Frag} {A : Around} (hu : A.units + 64 < cLine) (hA : X.A = A := by rfl) (h : X.K = K := by rfl) : OpR X (compareOp .NotEq) (fun x y H Q => rNe x y H Q ∨ rNeD K x y H Q) := by
  subst h hA
  exact op_ne.or (op_neD hu)
def neDD (d e : D) : Option Bool := match d, e with
  | .int i, .int j => some (!decide (i = j))
  | .bl i, .bl j => some (!decide (i = j))
  | .str i, .str j => some (!decide (i = j))
  | d, e => match toP d, toP e with
    | some p, some q => if (SeqAt.shaped p && SeqAt.shaped q && !p.hasDict && !q.hasDict) = true then some (!PyData.eqv p q) else none
    | _, _ => none
theorem m_ne : OpM E (fun x y H Q => rNe x y H Q ∨ rNeD E.K x y H Q) (fun d e => (neDD d e).map fun b => .dat (.bl b)) := by
  intro σ G H C sl x y d e z Q a hx hy hz k
  simp only [Option.map_eq_some_iff] at hz
  obtain ⟨b, hz, rfl⟩ := hz
  unfold neDD at hz
  split at hz
  · cases hz
    rw [hx.int, hy.int]
    refine .inl ⟨rfl, out_flat a k ?_⟩
    rw [decV_int]
    exact .bl _
  · cases hz
    rw [hx.bl, hy.bl]
    refine .inl ⟨rfl, out_flat a k ?_⟩
    rw [decV_bl]
    exact .bl _
  · cases hz
    rw [hx.str, hy.str]
    refine .inl ⟨rfl, out_flat a k ?_⟩
    rw [decV_str]
    exact .bl _
  · split at hz
    · rename_i p q hp hq
      split at hz
      · rename_i hs
        cases hz
        simp only [Bool.and_eq_true, Bool.not_eq_true'] at hs
        obtain ⟨⟨⟨s1, s2⟩, s3⟩, s4⟩ := hs
        exact .inr ⟨p, q, dp_of (hx.dq a.wi.gh hp) s3, dp_of (hy.dq a.wi.gh hq) s4, s1, s2, out_flat a k (.bl _)⟩
      · cases hz
    · cases hz
def isNon : D → Bool
  | .non => true
  | _ => false
theorem ru_non {v : V} {d : D} (h : Ru E.K G H v d) : decide (v = .non) = isNon d := by
  cases h with
  | rp h => cases h <;> rfl
  | @ow p o h => cases o <;> rfl
/-- x is None -/
def isN : D → D → Option R
  | d, .non => some (.dat (.bl (isNon d)))
  | _, _ => none
def notN : D → D → Option R
  | d, .non => some (.dat (.bl (!isNon d)))
  | _, _ => none
theorem m_isN : OpM E (fun x y H Q => y = .non ∧ Q (.bl (decide (x = .non))) H) isN := by
  intro σ G H C sl x y d e z Q a hx hy hz k
  unfold isN at hz
  split at hz
  · cases hz
    exact ⟨hy.non, by rw [ru_non hx]; exact out_flat a k (.bl _)⟩
  · cases hz
theorem m_notN : OpM E (fun x y H Q => y = .non ∧ Q (.bl (!decide (x = .non))) H) notN := by
  intro σ G H C sl x y d e z Q a hx hy hz k
  unfold notN at hz
  split at hz
  · cases hz
    exact ⟨hy.non, by rw [ru_non hx]; exact out_flat a k (.bl _)⟩
  · cases hz
/-- the texts of a list of texts -/
def strsOf : List D → Option (List Str)
  | [] => some []
  | .str z :: r => (strsOf r).map (z :: ·)
  | _ :: _ => none
theorem strsOf_rp {K : PySem.W.Frag} {G : Hp} : ∀ {ds : List D} {ws : List Str} {vs : List V}, strsOf ds = some ws → RpA K G vs ds → vs = ws.map V.str
  | [], ws, vs, h, r => by
    cases r
    simp only [strsOf, Option.some.injEq] at h
    subst h
    rfl
  | .str z :: ds, ws, vs, h, r => by
    cases r with
    | cons r1 r2 =>
      simp only [strsOf, Option.map_eq_some_iff] at h
      obtain ⟨us, h1, rfl⟩ := h
      cases r1
      rw [strsOf_rp h1 r2]
      rfl
theorem strsOf_map : ∀ ws : List Str, strsOf (ws.map .str) = some ws
  | [] => rfl
  | w :: ws => by simp only [List.map_cons, strsOf, strsOf_map ws, Option.map_some]
/-- x in a list or tuple of texts; a sign in a text -/
def inDD (d e : D) : Option Bool := match e with
  | .lst ws => match strsOf ws, toP d with
    | some us, some p => some (us.any (eqS p))
    | _, _ => none
  | .str z => match d with
    | .str y => match y.cps.toList with
      | [c] => some (decide (c ∈ z.cps.toList))
      | _ => none
    | _ => none
  | .tup ws => match strsOf ws with
    | some us => match d with
      | .str z => some (inV (.str z) (us.map V.str))
      | _ => none
    | none => none
  | _ => none
theorem flat_strs : ∀ us : List Str, (us.map V.str).all flatV = true
  | [] => rfl
  | u :: us => by rw [List.map_cons, List.all_cons, flat_strs us]; rfl
theorem o_in {K : PySem.W.Frag} {A : Around} (hu : A.units + 64 < cLine) (hA : X.A = A := by rfl) (h : X.K = K := by rfl) : OpR X (compareOp .In) (fun x y H Q => rInS K false x y H Q ∨ (∃ (c : Nat) (z : Str), x = .str ⟨#[c]⟩ ∧ y = .str z ∧ Q (.bl (decide (c ∈ z.cps.toList))) H) ∨ rIn K false x y H Q) := by
  subst h hA
  exact (op_inTs (by omega)).or (op_in_sign.or op_in_seq)
theorem o_notIn {K : PySem.W.Frag} {A : Around} (hu : A.units + 64 < cLine) (hA : X.A = A := by rfl) (h : X.K = K := by rfl) : OpR X (compareOp .NotIn) (fun x y H Q => rInS K true x y H Q ∨ (∃ (c : Nat) (z : Str), x = .str ⟨#[c]⟩ ∧ y = .str z ∧ Q (.bl (!decide (c ∈ z.cps.toList))) H) ∨ rIn K true x y H Q) := by
  subst h hA
  exact (op_notInTs (by omega)).or (op_notIn_sign.or op_notIn_seq)
theorem one_sign {y : Str} {c : Nat} (h : y.cps.toList = [c]) : y = ⟨#[c]⟩ := by
  obtain ⟨a⟩ := y
  have : a = #[c] := by
    have e : a.toList = [c] := h
    rw [← Array.toArray_toList (xs := a), e]
  rw [this]
theorem m_in : OpM E (fun x y H Q => rInS E.K false x y H Q ∨ (∃ (c : Nat) (z : Str), x = .str ⟨#[c]⟩ ∧ y = .str z ∧ Q (.bl (decide (c ∈ z.cps.toList))) H) ∨ rIn E.K false x y H Q) (fun d e => (inDD d e).map fun b => .dat (.bl b)) := by
  intro σ G H C sl x y d e z Q a hx hy hz k
  simp only [Option.map_eq_some_iff] at hz
  obtain ⟨b, hz, rfl⟩ := hz
  unfold inDD at hz
  split at hz
  · split at hz
    · rename_i us p hu hp
      cases hz
      obtain ⟨q, vs, rfl, h2, r2⟩ := hy.lst a.wi.gh
      rw [strsOf_rp hu r2] at h2
      exact .inl ⟨p, us, q, hx.dq a.wi.gh hp, rfl, SqL.of h2, out_flat a k (.bl _)⟩
    · cases hz
  · split at hz
    · split at hz
      · rename_i c hc
        cases hz
        refine .inr (.inl ⟨c, _, ?_, hy.str, out_flat a k (.bl _)⟩)
        rw [hx.str, one_sign hc]
      · cases hz
    · cases hz
  · split at hz
    · rename_i us hu
      split at hz
      · cases hz
        obtain ⟨q, vs, rfl, h2, r2⟩ := hy.tup
        rw [strsOf_rp hu r2] at h2
        refine .inr (.inr ⟨q, _, rfl, .inr (sqt_ex (same_ex a.wi.gh) h2), ?_, flat_strs us, ?_⟩)
        · rw [hx.str]; rfl
        · rw [hx.str]
          exact out_flat a k (.bl _)
      · cases hz
    · cases hz
  · cases hz
theorem m_notIn : OpM E (fun x y H Q => rInS E.K true x y H Q ∨ (∃ (c : Nat) (z : Str), x = .str ⟨#[c]⟩ ∧ y = .str z ∧ Q (.bl (!decide (c ∈ z.cps.toList))) H) ∨ rIn E.K true x y H Q) (fun d e => (inDD d e).map fun b => .dat (.bl (!b))) := by
  intro σ G H C sl x y d e z Q a hx hy hz k
  simp only [Option.map_eq_some_iff] at hz
  obtain ⟨b, hz, rfl⟩ := hz
  unfold inDD at hz
  split at hz
  · split at hz
    · rename_i us p hu hp
      cases hz
      obtain ⟨q, vs, rfl, h2, r2⟩ := hy.lst a.wi.gh
      rw [strsOf_rp hu r2] at h2
      exact .inl ⟨p, us, q, hx.dq a.wi.gh hp, rfl, SqL.of h2, out_flat a k (.bl _)⟩
    · cases hz
  · split at hz
    · split at hz
      · rename_i c hc
        cases hz
        refine .inr (.inl ⟨c, _, ?_, hy.str, out_flat a k (.bl _)⟩)
        rw [hx.str, one_sign hc]
      · cases hz
    · cases hz
  · split at hz
    · rename_i us hu
      split at hz
      · cases hz
        obtain ⟨q, vs, rfl, h2, r2⟩ := hy.tup
        rw [strsOf_rp hu r2] at h2
        refine .inr (.inr ⟨q, _, rfl, .inr (sqt_ex (same_ex a.wi.gh) h2), ?_, flat_strs us, ?_⟩)
        · rw [hx.str]; rfl
        · rw [hx.str]
          exact out_flat a k (.bl _)
      · cases hz
    · cases hz
  · cases hz
/-! ### subscripts -/
def ixD : D → D → Option R
  | .lst ds, .int i => (atI ds i).map .dat
  | .tup ds, .int i => (atI ds i).map .dat
  | .str z, .int i => if z.length ≤ 1000000 then (atI z.cps.toList i).map fun c => .dat (.str ⟨#[c]⟩) else none
  | _, _ => none
theorem atI_rp {K : PySem.W.Frag} {G : Hp} {vs : List V} {ds : List D} {i : Int} {d : D} (r : RpA K G vs ds) (h : atI ds i = some d) : ∃ v, atI vs i = some v ∧ Rp K G v d := by
  unfold atI at h ⊢
  rw [r.len]
  cases e : ixN ds.length i with
  | none => rw [e] at h; cases h
  | some j =>
    rw [e] at h
    exact r.nth h
theorem IxR.or' {r r' : R2} (h : IxR X r) (h' : IxR X r') : IxR X (fun x y H Q => r x y H Q ∨ r' x y H Q) := by
  intro value slice pins s σ H x y v u Q I rx ry q hs
  rcases q with q | q
  · exact h value slice pins s σ H x y v u Q I rx ry q hs
  · exact h' value slice pins s σ H x y v u Q I rx ry q hs
theorem o_ix {K : PySem.W.Frag} (h : X.K = K := by rfl) : IxR X (fun x y H Q => rIxL K x y H Q ∨ rIxT K x y H Q ∨ rIxS x y H Q) := by
  subst h
  exact IxR.or' ix_list (IxR.or' ix_tup ix_str)
theorem m_ix : OpM E (fun x y H Q => rIxL E.K x y H Q ∨ rIxT E.K x y H Q ∨ rIxS x y H Q) ixD := by
  intro σ G H C sl x y d e z Q a hx hy hz k
  unfold ixD at hz
  split at hz
  · simp only [Option.map_eq_some_iff] at hz
    obtain ⟨d, hz, rfl⟩ := hz
    generalize hl : D.lst _ = dl at hx
    have hx2 := hx
    rw [← hl] at hx
    obtain ⟨p, vs, rfl, h1, r1⟩ := hx.lst a.wi.gh
    obtain ⟨v, e1, r2⟩ := atI_rp r1 hz
    exact .inl ⟨p, vs, _, v, rfl, hy.int, SqL.of h1, e1, out_flat a k r2⟩
  · simp only [Option.map_eq_some_iff] at hz
    obtain ⟨d, hz, rfl⟩ := hz
    obtain ⟨p, vs, rfl, h1, r1⟩ := hx.tup
    obtain ⟨v, e1, r2⟩ := atI_rp r1 hz
    exact .inr (.inl ⟨p, vs, _, v, rfl, hy.int, sqt_ex (same_ex a.wi.gh) h1, e1, out_flat a k r2⟩)
  · split at hz
    · rename_i hl
      simp only [Option.map_eq_some_iff] at hz
      obtain ⟨c, hz, rfl⟩ := hz
      exact .inr (.inr ⟨_, _, c, hx.str, hy.int, sz_line hl, hz, out_flat a k (.str _)⟩)
    · cases hz
  · cases hz
variable {e a b : Expr} {td ta tb tl th : TD} {pos : Pos}
theorem de_ix {K : PySem.W.Frag} (ha : PE X a (teD E ta)) (hb : PE X b (teD E tb)) (hs : PlainIx b) (h : X.K = E.K := by rfl) : PE X (.Subscript a b pos) (teD E (dOp ixD ta tb)) := pe_weak (pe_ix (o_ix h) ha hb hs) fun _ _ _ => m_op m_ix
/-! slices -/
abbrev TOD := Sls → Cs → (Option Int → Sls → Cs → Prop) → Prop
def toD (E : En) (td : TOD) : TO := fun σ H Q => ∃ (G : Hp) (sl : Sls) (C : Cs) (Qd : Option Int → Sls → Cs → Prop), E.Ab G H C sl σ ∧ td sl C Qd ∧
  ∀ o G' H' sl' C', E.Ab G' H' C' sl' σ → Stp σ G H C sl G' H' C' sl' → Qd o sl' C' → Q o H'
def dNo : TOD := fun sl C Q => Q none sl C
def dSo (t : TD) : TOD := fun sl C Q => t sl C fun r sl1 C1 => ∃ i, look sl1 r = .int i ∧ Q (some i) sl1 C1
theorem po_weak {e : Option Expr} {t t' : TO} (h : PO X e t) (m : ∀ σ H Q, t' σ H Q → t σ H Q) : PO X e t' := by
  obtain ⟨run⟩ := h
  exact ⟨fun pins s σ H Q I q => run pins s σ H Q I (m σ H Q q)⟩
theorem do_none : PO X none (toD E dNo) := po_weak po_none fun σ H Q h => by
  obtain ⟨G, sl, C, Qd, ab, t, k⟩ := h
  exact k none G H sl C ab Stp.refl t
theorem do_some (he : PE X e (teD E td)) : PO X (some e) (toD E (dSo td)) := po_weak (po_some he) fun σ H Q h => by
  obtain ⟨G, sl, C, Qd, ab, t, k⟩ := h
  refine ⟨G, sl, C, _, ab, t, fun v r G1 H1 sl1 C1 a1 s1 v1 n1 q => ?_⟩
  obtain ⟨i, e, q⟩ := q
  have u := v1.ru a1
  rw [e] at u
  exact ⟨i, u.int, k (some i) G1 H1 sl1 C1 a1 s1 q⟩
def cutA {α : Type} (xs : List α) (lo hi : Option Int) : List α := (xs.drop (HT.sIx xs.length 0 lo)).take (HT.sIx xs.length xs.length hi - HT.sIx xs.length 0 lo)
def slD (d : D) (lo hi : Option Int) : Option R := match d with
  | .lst ds => some (.new (.lst (cutA ds lo hi)))
  | .tup ds => some (.dat (.tup (cutA ds lo hi)))
  | .str z => if z.length ≤ 1000000 then some (.dat (.str (cutS z lo hi))) else none
  | _ => none
def dSl (t : TD) (tl th : TOD) : TD := fun sl C Q => t sl C fun r sl1 C1 => tl sl1 C1 fun lo sl2 C2 => th sl2 C2 fun hi sl3 C3 => ∃ z, slD (look sl3 r) lo hi = some z ∧ Q z sl3 C3
theorem SlR.or' {r r' : V → Option Int → Option Int → Hp → VK → Prop} (h : SlR X r) (h' : SlR X r') : SlR X (fun x lo hi H Q => r x lo hi H Q ∨ r' x lo hi H Q) := by
  intro pins s σ H x v vl vu lo hi sl Q I rx hs pl pu q
  rcases q with q | q
  · exact h pins s σ H x v vl vu lo hi sl Q I rx hs pl pu q
  · exact h' pins s σ H x v vl vu lo hi sl Q I rx hs pl pu q
theorem o_sl {K : PySem.W.Frag} (h : X.K = K := by rfl) : SlR X (fun x lo hi H Q => rSlL K x lo hi H Q ∨ rSlA K x lo hi H Q ∨ rSlS x lo hi H Q) := by
  subst h
  exact SlR.or' sl_list (SlR.or' sl_tupA sl_str)
theorem cutA_all {α : Type} {xs : List α} {lo hi : Option Int} (h : HT.sIx xs.length 0 lo = 0) (h' : HT.sIx xs.length xs.length hi = xs.length) : cutA xs lo hi = xs := by
  unfold cutA
  rw [h, h']
  simp
theorem cut_rp {K : PySem.W.Frag} {G : Hp} {vs : List V} {ds : List D} {lo hi : Option Int} (r : RpA K G vs ds) : RpA K G (cutV vs lo hi) (cutA ds lo hi) := by
  unfold cutV cutA
  rw [r.len]
  exact RpA.take _ (RpA.drop _ r)
theorem m_sl {tl th : TOD} {Q : VK} (h : teD E (dSl td tl th) σ H Q) : tSl (fun x lo hi H Q => rSlL E.K x lo hi H Q ∨ rSlA E.K x lo hi H Q ∨ rSlS x lo hi H Q) (teD E td) (toD E tl) (toD E th) σ H Q := by
  obtain ⟨G, sl, C, Qd, ab, t, k⟩ := h
  refine ⟨G, sl, C, _, ab, t, fun v r G1 H1 sl1 C1 a1 s1 v1 n1 q => ⟨G1, sl1, C1, _, a1, q, fun lo G2 H2 sl2 C2 a2 s2 q => ⟨G2, sl2, C2, _, a2, q, fun hi G3 H3 sl3 C3 a3 s3 q => ?_⟩⟩⟩
  obtain ⟨z, hz, q⟩ := q
  have v3 := (v1.step s2).step s3
  have hx := v3.ru a3
  have s13 := (s1.trans s2).trans s3
  have kk : Cont E σ G3 H3 C3 sl3 z Q := fun v G' H' a' s' v' n' => k v z G' H' sl3 C3 a' (s13.trans s') v' (n'.back s13) q
  generalize look sl3 r = d at hz hx
  unfold slD at hz
  split at hz
  · cases hz
    obtain ⟨p, vs, rfl, h1, r1⟩ := hx.lst a3.wi.gh
    exact .inl ⟨p, vs, rfl, SqL.of h1, out_new a3 kk (.lst (cut_rp r1))⟩
  · cases hz
    obtain ⟨p, vs, rfl, h1, r1⟩ := hx.tup
    refine .inr (.inl ⟨p, vs, rfl, sqt_ex (same_ex a3.wi.gh) h1, fun e => ?_, fun _ => out_tup a3 kk (cut_rp r1)⟩)
    rw [r1.len] at e
    rw [cutA_all e.1 e.2] at kk
    exact out_flat a3 kk (.tup h1 r1)
  · split at hz
    · rename_i hl
      cases hz
      exact .inr (.inr ⟨_, hx.str, sz_line hl, out_flat a3 kk (.str _)⟩)
    · cases hz
  · cases hz
theorem de_sl {lo hi : Option Expr} {tl th : TOD} {p2 : Pos} (he : PE X e (teD E td)) (hl : PO X lo (toD E tl)) (hu : PO X hi (toD E th)) (h : X.K = E.K := by rfl) : PE X (.Subscript e (.Slice lo hi none p2) pos) (teD E (dSl td tl th)) := pe_weak (pe_slice (o_sl h) he hl hu) fun _ _ _ => m_sl
/-- xs[::-1] -/
def dRev (t : TD) : TD := fun sl C Q => t sl C fun r sl1 C1 => ∃ ds, look sl1 r = .lst ds ∧ Q (.new (.lst ds.reverse)) sl1 C1
theorem de_rev {k : Nat} {p1 p2 p3 : Pos} (he : PE X e (teD E td)) (h : X.K = E.K := by rfl) : PE X (.Subscript e (.Slice none none (some (.UnaryOp .USub (.Constant (.int 1) k p1) p2)) p3) pos) (teD E (dRev td)) := pe_weak (h ▸ pe_revL he) fun σ H Q h => by
  obtain ⟨G, sl, C, Qd, ab, t, k⟩ := h
  refine ⟨G, sl, C, _, ab, t, fun v r G1 H1 sl1 C1 a1 s1 v1 n1 q => ?_⟩
  obtain ⟨ds, e, q⟩ := q
  have hx := v1.ru a1
  rw [e] at hx
  obtain ⟨p, vs, rfl, h1, r1⟩ := hx.lst a1.wi.gh
  exact ⟨p, vs, rfl, SqL.of h1, out_new a1 (fun v G' H' a' s' v' n' => k v _ G' H' sl1 C1 a' (s1.trans s') v' (n'.back s1) q) (.lst r1.rev)⟩
/-! ### built-ins -/
/-- of one thing that is looked at -/
def CbM (E : En) (r : List V → Hp → VK → Prop) (f : D → Option R) : Prop := ∀ (σ : L2.St) (G H : Hp) (C : Cs) (sl : Sls) (x : V) (d : D) (z : R) (Q : VK), E.Ab G H C sl σ → Ru E.K G H x d → f d = some z → Cont E σ G H C sl z Q → r [x] H Q
def dF1 (f : D → Option R) (t : TD) : TD := fun sl C Q => t sl C fun r sl1 C1 => ∃ z, f (look sl1 r) = some z ∧ Q z sl1 C1
theorem m_f1 {r : List V → Hp → VK → Prop} {f : D → Option R} {Q : VK} (m : CbM E r f) (h : teD E (dF1 f td) σ H Q) : tCB r (tCons (teD E td) tNil) σ H Q := by
  obtain ⟨G, sl, C, Qd, ab, t, k⟩ := h
  refine ⟨G, sl, C, _, ab, t, fun v rr G1 H1 sl1 C1 a1 s1 v1 n1 q => ?_⟩
  obtain ⟨z, hz, q⟩ := q
  exact m σ G1 H1 C1 sl1 v _ z Q a1 (v1.ru a1) hz fun v' G' H' a' s' v'' n' => k v' z G' H' sl1 C1 a' (s1.trans s') v'' (n'.back s1) q
theorem de_b1 {id : String} {r : List V → Hp → VK → Prop} {f : D → Option R} {x : Str} {p : Pos} (hc : CallR X (.builtin id) r) (m : CbM E r f) (hg : Gl X x) (hm : X.mg x = none) (hv : bootBuiltins x = some (.builtin id)) (he : PE X e (teD E td))
    (hn : x ≠ "__name__" := by decide) (hdb : (x == ("__debug__" : Str)) = false := by decide) (hs : starEach [e] X.env = (false, eval e X.env) :: starEach [] X.env := by rfl) (hpl : (backTo pos (starEach [] X.env)).any (·.1) = false := by rfl) :
    PE X (.Call (.Name x p) [e] [] pos) (teD E (dF1 f td)) := pe_weak (pe_callB hc hg hm hv (pa_cons he pa_nil hs) hn hdb hs hpl) fun _ _ _ => m_f1 m
theorem de_t1 {T : String} {r : List V → Hp → VK → Prop} {f : D → Option R} {x : Str} {p : Pos} (hc : CallR X (.type T) r) (m : CbM E r f) (hg : Gl X x) (hm : X.mg x = none) (hv : bootBuiltins x = some (.type T)) (he : PE X e (teD E td))
    (hn : x ≠ "__name__" := by decide) (hdb : (x == ("__debug__" : Str)) = false := by decide) (hs : starEach [e] X.env = (false, eval e X.env) :: starEach [] X.env := by rfl) (hpl : (backTo pos (starEach [] X.env)).any (·.1) = false := by rfl) :
    PE X (.Call (.Name x p) [e] [] pos) (teD E (dF1 f td)) := pe_weak (pe_callTy hc hg hm hv (pa_cons he pa_nil hs) hn hdb hs hpl) fun _ _ _ => m_f1 m
def lenD : D → Option R
  | .lst ds => some (.dat (.int ds.length))
  | .tup ds => some (.dat (.int ds.length))
  | .str z => if z.length ≤ 1000000 then some (.dat (.int z.length)) else none
  | _ => none
theorem CallR.or' {f : Value} {r r' : List V → Hp → VK → Prop} (h : CallR X f r) (h' : CallR X f r') : CallR X f (fun xs H Q => r xs H Q ∨ r' xs H Q) := by
  intro pins s σ H xs us Q I rx q
  rcases q with q | q
  · exact h pins s σ H xs us Q I rx q
  · exact h' pins s σ H xs us Q I rx q
def rLenU (K : PySem.W.Frag) : List V → Hp → VK → Prop := fun xs H Q => (∃ p ys, xs = [.ref p] ∧ (SqL K H p ys ∨ SqT K H p ys) ∧ Q (.int ys.length) H) ∨ (∃ z, xs = [.str z] ∧ z.length ≤ sizeLine ∧ Q (.int z.length) H)
theorem o_len {K : PySem.W.Frag} (h : X.K = K := by rfl) : CallR X (.builtin "len") (rLenU K) := by
  subst h
  exact CallR.or' call_len_seq call_len_str
theorem m_len : CbM E (rLenU E.K) lenD := by
  intro σ G H C sl x d z Q a hx hz k
  unfold lenD at hz
  split at hz
  · cases hz
    obtain ⟨p, vs, rfl, h1, r1⟩ := hx.lst a.wi.gh
    refine .inl ⟨p, vs, rfl, .inl (SqL.of h1), ?_⟩
    rw [r1.len]
    exact out_flat a k (.int _)
  · cases hz
    obtain ⟨p, vs, rfl, h1, r1⟩ := hx.tup
    refine .inl ⟨p, vs, rfl, .inr (sqt_ex (same_ex a.wi.gh) h1), ?_⟩
    rw [r1.len]
    exact out_flat a k (.int _)
  · split at hz
    · rename_i hl
      cases hz
      exact .inr ⟨_, by rw [hx.str], sz_line hl, out_flat a k (.int _)⟩
    · cases hz
  · cases hz
def listD : D → Option R
  | .lst ds => some (.new (.lst ds))
  | .tup ds => some (.new (.lst ds))
  | _ => none
theorem m_list : CbM E (rListS E.K) listD := by
  intro σ G H C sl x d z Q a hx hz k
  unfold listD at hz
  split at hz
  · cases hz
    obtain ⟨p, vs, rfl, h1, r1⟩ := hx.lst a.wi.gh
    exact ⟨p, vs, rfl, .inl (SqL.of h1), out_new a k (.lst r1)⟩
  · cases hz
    obtain ⟨p, vs, rfl, h1, r1⟩ := hx.tup
    exact ⟨p, vs, rfl, .inr (sqt_ex (same_ex a.wi.gh) h1), out_new a k (.lst r1)⟩
  · cases hz
def tupleD : D → Option R
  | .lst ds => some (.dat (.tup ds))
  | .tup ds => some (.dat (.tup ds))
  | _ => none
def rTupU (K : PySem.W.Frag) : List V → Hp → VK → Prop := fun xs H Q => ∃ p ys, xs = [.ref p] ∧ ((SqL K H p ys ∧ ∀ l, H l = none → Q (.ref l) (upd H l (.tup ys))) ∨ (SqT K H p ys ∧ Q (.ref p) H))
theorem o_tuple {K : PySem.W.Frag} (h : X.K = K := by rfl) : CallR X (.type "tuple") (rTupU K) := by
  subst h
  exact call_tuple_of
theorem m_tuple : CbM E (rTupU E.K) tupleD := by
  intro σ G H C sl x d z Q a hx hz k
  unfold tupleD at hz
  split at hz
  · cases hz
    obtain ⟨p, vs, rfl, h1, r1⟩ := hx.lst a.wi.gh
    exact ⟨p, vs, rfl, .inl ⟨SqL.of h1, out_tup a k r1⟩⟩
  · cases hz
    obtain ⟨p, vs, rfl, h1, r1⟩ := hx.tup
    exact ⟨p, vs, rfl, .inr ⟨sqt_ex (same_ex a.wi.gh) h1, out_flat a k (.tup h1 r1)⟩⟩
  · cases hz
def intD : D → Option R
  | .int i => some (.dat (.int i))
  | .bl b => some (.dat (.int (if b then 1 else 0)))
  | _ => none
def rIntU : List V → Hp → VK → Prop := fun xs H Q => (∃ i, xs = [.int i] ∧ Q (.int i) H) ∨ ∃ k, xs = [.bl k] ∧ Q (.int (if k then 1 else 0)) H
theorem o_int : CallR X (.type "int") rIntU := call_int1
theorem m_int : CbM E rIntU intD := by
  intro σ G H C sl x d z Q a hx hz k
  unfold intD at hz
  split at hz
  · cases hz
    exact .inl ⟨_, by rw [hx.int], out_flat a k (.int _)⟩
  · cases hz
    exact .inr ⟨_, by rw [hx.bl], out_flat a k (.int _)⟩
  · cases hz
def reprD (d : D) : Option R := match toP d with
  | some p => if p.showable = true ∧ p.depth ≤ 60 ∧ p.shown.length ≤ 16777216 then some (.dat (.str p.shown)) else none
  | none => none
theorem o_repr {K : PySem.W.Frag} {A : Around} (hg : A.guards = some []) (hu : A.units + 64 < cLine) (hA : X.A = A := by rfl) (h : X.K = K := by rfl) : CallR X (.builtin "repr") (rRepr K) := by
  subst h hA
  exact call_repr hg hu
theorem m_repr : CbM E (rRepr E.K) reprD := by
  intro σ G H C sl x d z Q a hx hz k
  unfold reprD at hz
  split at hz
  · rename_i p hp
    split at hz
    · rename_i hc
      cases hz
      exact ⟨x, p, rfl, a.wi.sy.mono (same_ex a.wi.gh), hx.dq a.wi.gh hp, hc.1, hc.2.1, Nat.le_trans hc.2.2 (by decide), out_flat a k (.str _)⟩
    · cases hz
  · cases hz
/-- of things that are kept -/
def CkM (E : En) (r : List V → Hp → VK → Prop) (f : List D → Option R) : Prop := ∀ (σ : L2.St) (G H : Hp) (C : Cs) (sl : Sls) (xs : List V) (ds : List D) (z : R) (Q : VK), E.Ab G H C sl σ → RpA E.K G xs ds → f ds = some z → Cont E σ G H C sl z Q → r xs H Q
def dFk (f : List D → Option R) (t : TAD) : TD := fun sl C Q => t sl C fun ds sl1 C1 => ∃ z, f ds = some z ∧ Q z sl1 C1
theorem m_fk {r : List V → Hp → VK → Prop} {f : List D → Option R} {tr : TAD} {Q : VK} (m : CkM E r f) (h : teD E (dFk f tr) σ H Q) : tCB r (taD E tr) σ H Q := by
  obtain ⟨G, sl, C, Qd, ab, t, k⟩ := h
  refine ⟨G, sl, C, _, ab, t, fun vs ds G1 H1 sl1 C1 a1 s1 rs q => ?_⟩
  obtain ⟨z, hz, q⟩ := q
  exact m σ G1 H1 C1 sl1 vs ds z Q a1 rs hz fun v' G' H' a' s' v'' n' => k v' z G' H' sl1 C1 a' (s1.trans s') v'' (n'.back s1) q
theorem de_bk {id : String} {r : List V → Hp → VK → Prop} {f : List D → Option R} {x : Str} {p : Pos} {es : List Expr} {tr : TAD} (hc : CallR X (.builtin id) r) (m : CkM E r f) (hg : Gl X x) (hm : X.mg x = none) (hv : bootBuiltins x = some (.builtin id)) (ha : PA X (e :: es) (taD E tr))
    (hn : x ≠ "__name__" := by decide) (hdb : (x == ("__debug__" : Str)) = false := by decide) (hs : starEach (e :: es) X.env = (false, eval e X.env) :: starEach es X.env := by rfl) (hpl : (backTo pos (starEach es X.env)).any (·.1) = false := by rfl) :
    PE X (.Call (.Name x p) (e :: es) [] pos) (teD E (dFk f tr)) := pe_weak (pe_callB hc hg hm hv ha hn hdb hs hpl) fun _ _ _ => m_fk m
theorem de_bltn {x : Str} {n : String} (hg : Gl X x) (hm : X.mg x = none) (hv : bootBuiltins x = some (.type n)) (hn : x ≠ "__name__" := by decide) (hd : (x == ("__debug__" : Str)) = false := by decide) : PE X (.Name x pos) (teD E (dC (.ty n))) :=
  pe_weak (pe_bltn (v := .ty n) hg hm hv rfl hn hd) fun _ _ _ => m_c fun _ => .ty n
/-- isinstance(x, a built-in class) -/
def isiD : List D → Option R
  | [d, .ty n] => match toP d with
    | some p => some (.dat (.bl (PySem.W.kitOne [] (.type n) (.type (tyN p)) == some true)))
    | none => none
  | _ => none
def maxD : List D → Option R
  | [.int i, .int j] => some (.dat (.int (if j > i then j else i)))
  | _ => none
theorem m_max : CkM E rMax2 maxD := by
  intro σ G H C sl xs ds z Q a r hz k
  unfold maxD at hz
  split at hz
  · cases hz
    cases r with
    | cons r1 r => cases r with
      | cons r2 r =>
        cases r; cases r1; cases r2
        exact ⟨_, _, rfl, out_flat a k (.int _)⟩
  · cases hz
def minD : List D → Option R
  | [.int i, .int j] => some (.dat (.int (if j < i then j else i)))
  | _ => none
/-! ### methods of a thing that is looked at, its arguments kept -/
def MtD (E : En) (r : V → List V → Hp → VK → Prop) (T : String) (f : D → List D → Option R) : Prop := ∀ (σ : L2.St) (G H : Hp) (C : Cs) (sl : Sls) (x : V) (xs : List V) (d : D) (ds : List D) (z : R) (Q : VK), E.Ab G H C sl σ → Ru E.K G H x d → RpA E.K G xs ds → f d ds = some z → Cont E σ G H C sl z Q → r x xs H Q
def tyD (T : String) (d : D) : Prop := match d with
  | .str _ => T = "str"
  | .int _ => T = "int"
  | .lst _ => T = "list"
  | .dic _ => T = "dict"
  | .dct _ => T = "dict"
  | _ => False
theorem tyD_ok {T : String} {x : V} {d : D} (hx : Ru E.K G H x d) (e : Ex G H) (h : tyD T d) : tyV E.K T x H := by
  cases d with
  | str z => rw [hx.str]; exact h
  | int i => rw [hx.int]; exact h
  | lst ds => obtain ⟨p, vs, rfl, h1, _⟩ := hx.lst e; exact .inl ⟨h, vs, SqL.of h1⟩
  | dic ds => obtain ⟨p, vs, rfl, h1, _⟩ := hx.dic e; exact .inr (.inr (.inl ⟨h, .inl ⟨vs, h1⟩⟩))
  | dct ds => obtain ⟨p, vs, rfl, h1, _⟩ := hx.dct e; exact .inr (.inr (.inl ⟨h, .inr ⟨vs, h1⟩⟩))
  | _ => exact False.elim h
def dMt (T : String) (f : D → List D → Option R) (to : TD) (tr : TAD) : TD := fun sl C Q => to sl C fun r sl1 C1 => tyD T (look sl1 r) ∧ tr sl1 C1 fun ds sl2 C2 => ∃ z, f (look sl2 r) ds = some z ∧ Q z sl2 C2
theorem m_mt {T : String} {r : V → List V → Hp → VK → Prop} {f : D → List D → Option R} {to : TD} {tr : TAD} {Q : VK} (m : MtD E r T f) (h : teD E (dMt T f to tr) σ H Q) : tBM E.K T r (teD E to) (taD E tr) σ H Q := by
  obtain ⟨G, sl, C, Qd, ab, t, k⟩ := h
  refine ⟨G, sl, C, _, ab, t, fun v rr G1 H1 sl1 C1 a1 s1 v1 n1 q => ⟨tyD_ok (v1.ru a1) a1.wi.gh q.1, G1, sl1, C1, _, a1, q.2, fun vs ds G2 H2 sl2 C2 a2 s2 rs q => ?_⟩⟩
  obtain ⟨z, hz, q⟩ := q
  exact m σ G2 H2 C2 sl2 v vs _ ds z Q a2 ((v1.step s2).ru a2) rs hz fun v' G' H' a' s' v'' n' => k v' z G' H' sl2 C2 a' ((s1.trans s2).trans s') v'' (n'.back (s1.trans s2)) q
def dMt0 (T : String) (f : D → List D → Option R) (to : TD) : TD := fun sl C Q => to sl C fun r sl1 C1 => tyD T (look sl1 r) ∧ ∃ z, f (look sl1 r) [] = some z ∧ Q z sl1 C1
theorem m_mt0 {T : String} {r : V → List V → Hp → VK → Prop} {f : D → List D → Option R} {to : TD} {Q : VK} (m : MtD E r T f) (h : teD E (dMt0 T f to) σ H Q) : tBM0 E.K T r (teD E to) σ H Q := by
  obtain ⟨G, sl, C, Qd, ab, t, k⟩ := h
  refine ⟨G, sl, C, _, ab, t, fun v rr G1 H1 sl1 C1 a1 s1 v1 n1 q => ⟨tyD_ok (v1.ru a1) a1.wi.gh q.1, ?_⟩⟩
  obtain ⟨z, hz, q⟩ := q.2
  exact m σ G1 H1 C1 sl1 v [] _ [] z Q a1 (v1.ru a1) .nil hz fun v' G' H' a' s' v'' n' => k v' z G' H' sl1 C1 a' (s1.trans s') v'' (n'.back s1) q
def joinD : D → List D → Option R
  | .str s, [.lst ds] => match strsOf ds with
    | some ws => if (ws.map (·.length)).sum + ws.length * s.length ≤ 1000000 then some (.dat (.str (Str.join s ws))) else none
    | none => none
  | _, _ => none
def rJoin (K : PySem.W.Frag) : V → List V → Hp → VK → Prop := fun x xs H Q => ∃ a p, ∃ ys : List Str, x = .str a ∧ xs = [.ref p] ∧ (SqL K H p (ys.map V.str) ∨ SqT K H p (ys.map V.str)) ∧ (ys.map (·.length)).sum + ys.length * a.length ≤ 16777216 ∧ Q (.str (Txt.join a ys)) H
theorem m_join : MtD E (rJoin E.K) "str" joinD := by
  intro σ G H C sl x xs d ds z Q a hx rs hz k
  unfold joinD at hz
  split at hz
  · split at hz
    · rename_i ws hw
      split at hz
      · rename_i hl
        cases hz
        cases rs with
        | cons r1 rs =>
          cases rs
          cases r1 with
          | lst h1 r2 =>
            rw [strsOf_rp hw r2] at h1
            refine ⟨_, _, ws, hx.str, rfl, .inl (SqL.of (a.wi.gh _ _ h1)), by omega, ?_⟩
            rw [show Txt.join _ ws = Str.join _ ws from TL.join_eq _ ws]
            exact out_flat a k (.str _)
      · cases hz
    · cases hz
  · cases hz
def splitD : D → List D → Option R
  | .str s, [.str y] => if (y.length == 0) = false ∧ s.length ≤ 1000000 then some (.new (.lst ((Txt.split s y).map .str))) else none
  | _, _ => none
def rSplit : V → List V → Hp → VK → Prop := fun x xs H Q => ∃ a b, x = .str a ∧ xs = [.str b] ∧ (b.length == 0) = false ∧ a.length + 2 ≤ sizeLine ∧ rNewStrs (Txt.split a b) H Q
theorem rpa_strs {K : PySem.W.Frag} {G : Hp} : ∀ ws : List Str, RpA K G (ws.map V.str) (ws.map D.str)
  | [] => .nil
  | w :: ws => .cons (.str w) (rpa_strs ws)
theorem m_split : MtD E rSplit "str" splitD := by
  intro σ G H C sl x xs d ds z Q a hx rs hz k
  unfold splitD at hz
  split at hz
  · split at hz
    · rename_i hl
      cases hz
      cases rs with
      | cons r1 rs =>
        cases rs
        cases r1
        exact ⟨_, _, hx.str, rfl, hl.1, Nat.le_trans (Nat.add_le_add_right hl.2 2) (by decide), out_new a k (.lst (rpa_strs _))⟩
    · cases hz
  · cases hz
/-! ### lists of one's own: append, pop -/
theorem Ab.wrOw {i : Nat} {p : Addr} {o o' : Ow} {ho : HO} (a : E.Ab G H C sl σ) (hs : sl[i]? = some (.ow o)) (hp : σ[i]? = some (some (.ref p))) (q : OwO E.K G o' ho) :
    E.Ab G (upd H p ho) C (sl.set i (.ow o')) σ ∧ Stp σ G H C sl G (upd H p ho) C (sl.set i (.ow o')) := by
  obtain ⟨p', e, ⟨h0, hH, q0⟩, g, n, z⟩ := a.ow i o hs
  rw [hp] at e
  cases e
  have hil : i < sl.length := (List.getElem?_eq_some_iff.mp hs).1
  have own : ∀ {j : Nat} {o2 : Ow}, (sl.set i (.ow o'))[j]? = some (.ow o2) → (j = i ∧ o2 = o') ∨ (j ≠ i ∧ sl[j]? = some (.ow o2)) := fun {j o2} h => by
    rcases set_inv h with ⟨h1, h2⟩ | h
    · cases h2; exact .inl ⟨h1, rfl⟩
    · exact .inr h
  refine ⟨⟨a.wi.wr g n, ⟨a.mv.gg, fun x u h1 h2 => by rw [upd_ne (ne_of_none h1 z)]; exact a.mv.hh x u h1 h2, fun x u h1 => ?_, a.mv.ag, a.mv.cn⟩, by rw [List.length_set]; exact a.len, fun j d h => ?_, fun j o2 h => ?_, fun j1 j2 y o1 o2 h1 h2 e1 e2 => ?_⟩, ⟨Ex.refl G, fun y u h1 h2 h3 h4 => ?_, fun j h => isSet_set (by intro z; cases z) h, fun x u h1 => ?_⟩⟩
  · obtain ⟨u', h'⟩ := a.mv.dm x u h1
    exact ⟨u', by rw [upd_ne (ne_of_none h1 z)]; exact h'⟩
  · rcases set_inv h with ⟨_, h2⟩ | ⟨_, h2⟩
    · cases h2
    · exact a.va j d h2
  · rcases own h with ⟨rfl, rfl⟩ | ⟨hj, h⟩
    · exact ⟨p, hp, ⟨ho, upd_same, q⟩, g, n, z⟩
    · obtain ⟨y, e1, ⟨u, hu, qu⟩, r⟩ := a.ow j o2 h
      have ne : y ≠ p := fun w => hj (a.dj j i p o2 o h hs (by rw [← w]; exact e1) hp)
      exact ⟨y, e1, ⟨u, by rw [upd_ne ne]; exact hu, qu⟩, r⟩
  · have f : ∀ {j : Nat} {o2 : Ow}, (sl.set i (.ow o'))[j]? = some (.ow o2) → ∃ o3, sl[j]? = some (.ow o3) := fun {j o2} h => by
      rcases own h with ⟨rfl, _⟩ | ⟨_, h⟩
      · exact ⟨o, hs⟩
      · exact ⟨_, h⟩
    obtain ⟨q1, f1⟩ := f h1
    obtain ⟨q2, f2⟩ := f h2
    exact a.dj j1 j2 y q1 q2 f1 f2 e1 e2
  · have ne : y ≠ p := fun w => h4 ⟨i, o, hs, by rw [w]; exact hp⟩
    refine ⟨by rw [upd_ne ne]; exact h1, h2, h3, fun w => h4 ?_⟩
    obtain ⟨j, o2, w1, w2⟩ := w
    rcases own w1 with ⟨rfl, _⟩ | ⟨_, h⟩
    · exact ⟨_, o, hs, w2⟩
    · exact ⟨j, o2, h, w2⟩
  · by_cases w : x = p
    · exact ⟨ho, by rw [w]; exact upd_same⟩
    · exact ⟨u, by rw [upd_ne w]; exact h1⟩
def dApp (i : Nat) (te : TD) : TD := fun sl C Q => (∃ ds, sl[i]? = some (.ow (.lst ds))) ∧ te sl C fun r sl1 C1 => fz r sl1 fun d sl2 => ∃ ds, sl2[i]? = some (.ow (.lst ds)) ∧ ds.length < 100000 ∧ Q (.dat .non) (sl2.set i (.ow (.lst (ds ++ [d])))) C1
theorem m_app {i : Nat} {te : TD} {Q : VK} (h : teD E (dApp i te) σ H Q) : tBM E.K "list" rAppend (tVar i) (tCons (teD E te) tNil) σ H Q := by
  obtain ⟨G, sl, C, Qd, ab, ⟨⟨ds0, h0⟩, t⟩, k⟩ := h
  obtain ⟨p, ep, ⟨ho, hp, q0⟩, _⟩ := ab.ow i _ h0
  cases q0 with
  | @lst _ vs r0 =>
  refine ⟨.ref p, ep, .inl ⟨rfl, vs, SqL.of hp⟩, G, sl, C, _, ab, t, fun v r G1 H1 sl1 C1 a1 s1 v1 n1 q => ?_⟩
  obtain ⟨d, G2, sl2, a2, s2, rd, ds, hs, hl, q⟩ := Ab.keepS a1 v1 s1 n1 q
  obtain ⟨p', ep', ⟨ho', hp', q1⟩, _⟩ := a2.ow i _ hs
  rw [ep] at ep'
  cases ep'
  cases q1 with
  | @lst _ us r1 =>
  obtain ⟨a3, s3⟩ := Ab.wrOw a2 hs ep (o' := .lst (ds ++ [d])) (ho := .lst (us ++ [v])) (.lst (r1.app (.cons rd .nil)))
  exact ⟨p, us, v, rfl, rfl, hp', sz_lt (by rw [r1.len]; exact hl), k .non (.dat .non) G2 _ _ C1 a3 (s2.trans s3) .non trivial q⟩
theorem de_app {i : Nat} {x : Str} {apos vpos : Pos} {te : TD} (hv : PE X (.Name x vpos) (tVar i)) (he : PE X e (teD E te)) (h : X.K = E.K := by rfl) (hbase : attributeBase (.Name x vpos) "append" X.env (eval (.Name x vpos) X.env) = eval (.Name x vpos) X.env := by rfl)
    (hfew : ((backTo pos (starEach [e] X.env)).all (fun x => !x.1) && (backToKw pos (keywordEach [] X.env)).all (fun x => x.1.isSome) && decide ([e].length + ([] : List Keyword).length + (if ([] : List Keyword).isEmpty then 0 else 1) < 30)) = true := by rfl)
    (hline : (apos.endLine == pos.line) = true := by rfl) (hs : starEach [e] X.env = (false, eval e X.env) :: starEach [] X.env := by rfl) (hplain : (backTo pos (starEach [] X.env)).any (·.1) = false := by rfl) :
    PE X (.Call (.Attribute (.Name x vpos) "append" apos) [e] [] pos) (teD E (dApp i te)) :=
  pe_weak (h ▸ pe_bm PySem.F.plainAttrs_list PySem.F.slot_list_append PySem.F.type_list_append mt_append hv (pa_cons he pa_nil hs) hbase hfew hline hs hplain) fun _ _ _ => m_app
def dPop (i : Nat) : TD := fun sl C Q => ∃ ds d, sl[i]? = some (.ow (.lst (ds ++ [d]))) ∧ Q (.dat d) (sl.set i (.ow (.lst ds))) C
theorem RpA.snoc {K : PySem.W.Frag} : ∀ {ds : List D} {d : D} {vs : List V}, RpA K G vs (ds ++ [d]) → ∃ us u, vs = us ++ [u] ∧ RpA K G us ds ∧ Rp K G u d
  | [], _, _, .cons a .nil => ⟨[], _, rfl, .nil, a⟩
  | x :: xs, d, _, .cons a b => by
    obtain ⟨us, u, rfl, r1, r2⟩ := RpA.snoc (ds := xs) b
    exact ⟨_ :: us, u, rfl, .cons a r1, r2⟩
theorem m_pop {i : Nat} {Q : VK} (h : teD E (dPop i) σ H Q) : tBM0 E.K "list" rPop (tVar i) σ H Q := by
  obtain ⟨G, sl, C, Qd, ab, ⟨ds, d, hs, q⟩, k⟩ := h
  obtain ⟨p, ep, ⟨ho, hp, q0⟩, _⟩ := ab.ow i _ hs
  cases q0 with
  | @lst _ vs r0 =>
  obtain ⟨us, u, rfl, r1, r2⟩ := r0.snoc
  obtain ⟨a3, s3⟩ := Ab.wrOw ab hs ep (o' := .lst ds) (ho := .lst us) (.lst r1)
  refine ⟨.ref p, ep, .inl ⟨rfl, _, SqL.of hp⟩, p, us ++ [u], u, rfl, rfl, hp, by simp, ?_⟩
  rw [List.dropLast_concat]
  exact k u (.dat d) G _ _ C a3 s3 r2 trivial q
theorem de_pop {i : Nat} {x : Str} {apos vpos : Pos} (hv : PE X (.Name x vpos) (tVar i)) (h : X.K = E.K := by rfl) (hbase : attributeBase (.Name x vpos) "pop" X.env (eval (.Name x vpos) X.env) = eval (.Name x vpos) X.env := by rfl) (hline : (apos.endLine == pos.line) = true := by rfl) :
    PE X (.Call (.Attribute (.Name x vpos) "pop" apos) [] [] pos) (teD E (dPop i)) := pe_weak (h ▸ pe_bm0 PySem.F.plainAttrs_list PySem.F.slot_list_pop PySem.F.type_list_pop (fun pins s σ H x xs v us Q I r1 r2 h => mt_pop pins s σ H x xs v us Q I r1 r2 h) hv hbase hline) fun _ _ _ => m_pop
end
end Dl

set_option Elab.async false
set_option maxRecDepth 100000
set_option linter.all false
set_option maxHeartbeats 2000000
/-! KitDg: loops and comprehensions as rules; truth; fields, methods, instances; raising paths that are never reached. -/
namespace Dl
open PySem PySem.Spec PyProof.Rows L2 Evl Kx
section
variable {X : Cx} {E : En} {e a b c tgx iter o value : Expr} {td ta tb tc te : TD} {tt : TTD} {tr : TAD} {pos : Pos} {G H : Hp} {C : Cs} {sl : Sls} {σ : L2.St} {tg : Tg} {s1 : TSD} {body : List Stmt}
/-! ### loops -/
theorem ds_forL (hp : PassesOwn (model X.prog X.w) X.A X.env X.xe) (hc : X.calm = true) (hi : PE X iter (teD E td)) (hg : PG X tgx (gT E.K tg)) (hb : PSs X body (tsD E s1)) (h : X.K = E.K := by rfl) (hs : ∀ x, foldedSetIterable iter X.env x = pure x := by intro _; rfl) :
    PS X (.For tgx iter body [] pos) (tsD E (sForL td tg s1)) := ps_weak (ps_for hp hc (pi_listK hi h) hg hb hs) fun _ _ _ => m_forL
theorem ds_forT (hp : PassesOwn (model X.prog X.w) X.A X.env X.xe) (hc : X.calm = true) (hi : PE X iter (teD E td)) (hg : PG X tgx (gT E.K tg)) (hb : PSs X body (tsD E s1)) (h : X.K = E.K := by rfl) (hs : ∀ x, foldedSetIterable iter X.env x = pure x := by intro _; rfl) :
    PS X (.For tgx iter body [] pos) (tsD E (sForT td tg s1)) := ps_weak (ps_for hp hc (pi_tupK hi h) hg hb hs) fun _ _ _ => m_forT
theorem ds_forR {p p2 : Pos} (hp : PassesOwn (model X.prog X.w) X.A X.env X.xe) (hc : X.calm = true) (hg0 : Gl X "range") (hm : X.mg "range" = none) (hi : PE X a (teD E ta)) (hg : PG X tgx (gT E.K tg)) (hb : PSs X body (tsD E s1))
    (hs1 : starEach [a] X.env = [(false, eval a X.env)] := by rfl) (hs2 : starEach [a] X.env = (false, eval a X.env) :: starEach [] X.env := by rfl) (hs : ∀ x, foldedSetIterable (.Call (.Name "range" p) [a] [] p2) X.env x = pure x := by intro _; rfl) :
    PS X (.For tgx (.Call (.Name "range" p) [a] [] p2) body [] pos) (tsD E (sForR (dCons ta dNil) tg s1)) := ps_weak (ps_for hp hc (pi_range1 hg0 hm (da_cons hi da_nil hs2) hs1) hg hb hs) fun _ _ _ => m_forR
theorem ds_forR2 {p p2 : Pos} (hp : PassesOwn (model X.prog X.w) X.A X.env X.xe) (hc : X.calm = true) (hg0 : Gl X "range") (hm : X.mg "range" = none) (hi : PA X [a, b] (taD E tr)) (hg : PG X tgx (gT E.K tg)) (hb : PSs X body (tsD E s1))
    (hs1 : starEach [a, b] X.env = [(false, eval a X.env), (false, eval b X.env)] := by rfl) (hs2 : starEach [b] X.env = [(false, eval b X.env)] := by rfl) (hs : ∀ x, foldedSetIterable (.Call (.Name "range" p) [a, b] [] p2) X.env x = pure x := by intro _; rfl) :
    PS X (.For tgx (.Call (.Name "range" p) [a, b] [] p2) body [] pos) (tsD E (sForR2 tr tg s1)) := ps_weak (ps_for hp hc (pi_range2 hg0 hm hi hs1 hs2) hg hb hs) fun _ _ _ => m_forR2
/-! ### comprehensions -/
section
variable {elt : Expr} {ifs : List Expr} {scope : Scope} {own : List (Str × Nat)}
theorem de_lcL (hc : X.calm = true) (hN : X.N.Nodup) (hi : PE X iter (teD E td)) (ok : BlkOk X.N X.env.scope scope own)
    (hg : ∀ (s : Shared) (H : Hp) (C : Addr) (cl : List (Str × Addr)) (fp : List Addr), PG (X.blk s H scope (compEnvC scope cl C X.env) fp) tgx (gT E.K tg)) (ht : ∀ (s : Shared) (H : Hp) (C : Addr) (cl : List (Str × Addr)) (fp : List Addr), PTs (X.blk s H scope (compEnvC scope cl C X.env) fp) ifs (ttD E tt))
    (he : ∀ (s : Shared) (H : Hp) (C : Addr) (cl : List (Str × Addr)) (fp : List Addr), PE (X.blk s H scope (compEnvC scope cl C X.env) fp) elt (teD E te)) (hw : ∀ j ∈ tg.slots, j ∈ own.map (·.2)) (h : X.K = E.K := by rfl) (hs : ∀ x, foldedSetIterable iter X.env x = pure x := by intro _; rfl) :
    PE X (.ListComp elt [⟨tgx, iter, ifs, 0⟩] scope pos) (teD E (dLcL td tg tt te (own.map (·.2)))) := pe_weak (pe_lc hc hN (pi_listK hi h) ok hg ht he hs) fun _ _ _ => m_lcL hw
theorem de_lcT (hc : X.calm = true) (hN : X.N.Nodup) (hi : PE X iter (teD E td)) (ok : BlkOk X.N X.env.scope scope own)
    (hg : ∀ (s : Shared) (H : Hp) (C : Addr) (cl : List (Str × Addr)) (fp : List Addr), PG (X.blk s H scope (compEnvC scope cl C X.env) fp) tgx (gT E.K tg)) (ht : ∀ (s : Shared) (H : Hp) (C : Addr) (cl : List (Str × Addr)) (fp : List Addr), PTs (X.blk s H scope (compEnvC scope cl C X.env) fp) ifs (ttD E tt))
    (he : ∀ (s : Shared) (H : Hp) (C : Addr) (cl : List (Str × Addr)) (fp : List Addr), PE (X.blk s H scope (compEnvC scope cl C X.env) fp) elt (teD E te)) (hw : ∀ j ∈ tg.slots, j ∈ own.map (·.2)) (h : X.K = E.K := by rfl) (hs : ∀ x, foldedSetIterable iter X.env x = pure x := by intro _; rfl) :
    PE X (.ListComp elt [⟨tgx, iter, ifs, 0⟩] scope pos) (teD E (dLcT td tg tt te (own.map (·.2)))) := pe_weak (pe_lc hc hN (pi_tupK hi h) ok hg ht he hs) fun _ _ _ => m_lcT hw
theorem de_lcR {p p2 : Pos} (hc : X.calm = true) (hN : X.N.Nodup) (hg0 : Gl X "range") (hm : X.mg "range" = none) (hi : PE X a (teD E ta)) (ok : BlkOk X.N X.env.scope scope own)
    (hg : ∀ (s : Shared) (H : Hp) (C : Addr) (cl : List (Str × Addr)) (fp : List Addr), PG (X.blk s H scope (compEnvC scope cl C X.env) fp) tgx (gT E.K tg)) (ht : ∀ (s : Shared) (H : Hp) (C : Addr) (cl : List (Str × Addr)) (fp : List Addr), PTs (X.blk s H scope (compEnvC scope cl C X.env) fp) ifs (ttD E tt))
    (he : ∀ (s : Shared) (H : Hp) (C : Addr) (cl : List (Str × Addr)) (fp : List Addr), PE (X.blk s H scope (compEnvC scope cl C X.env) fp) elt (teD E te)) (hw : ∀ j ∈ tg.slots, j ∈ own.map (·.2))
    (hs1 : starEach [a] X.env = [(false, eval a X.env)] := by rfl) (hs2 : starEach [a] X.env = (false, eval a X.env) :: starEach [] X.env := by rfl) (hs : ∀ x, foldedSetIterable (.Call (.Name "range" p) [a] [] p2) X.env x = pure x := by intro _; rfl) :
    PE X (.ListComp elt [⟨tgx, .Call (.Name "range" p) [a] [] p2, ifs, 0⟩] scope pos) (teD E (dLcR (dCons ta dNil) tg tt te (own.map (·.2)))) := pe_weak (pe_lc hc hN (pi_range1 hg0 hm (da_cons hi da_nil hs2) hs1) ok hg ht he hs) fun _ _ _ => m_lcR hw
theorem dts_one (h : PT X c (ttD E tt)) : PTs X [c] (ttD E tt) := pts_one h
/-- name = [..] -/
theorem ds_setLcL {i : Nat} {y : Str} {py spos : Pos} (hc : X.calm = true) (hN : X.N.Nodup) (hy : X.N[i]? = some y) (hyl : X.env.scope.names.lookup y = some .local)
    (hsw : swapsWith (.ListComp elt [⟨tgx, iter, ifs, 0⟩] scope pos) (some (.Name y py)) spos.line X.env = pure true) (hi : PE X iter (teD E td)) (ok : BlkOk X.N X.env.scope scope own)
    (hg : ∀ (s : Shared) (H : Hp) (C : Addr) (cl : List (Str × Addr)) (fp : List Addr), PG (X.blk s H scope (compEnvC scope cl C X.env) fp) tgx (gT E.K tg)) (ht : ∀ (s : Shared) (H : Hp) (C : Addr) (cl : List (Str × Addr)) (fp : List Addr), PTs (X.blk s H scope (compEnvC scope cl C X.env) fp) ifs (ttD E tt))
    (he : ∀ (s : Shared) (H : Hp) (C : Addr) (cl : List (Str × Addr)) (fp : List Addr), PE (X.blk s H scope (compEnvC scope cl C X.env) fp) elt (teD E te)) (hw : ∀ j ∈ tg.slots, j ∈ own.map (·.2)) (h : X.K = E.K := by rfl) (hs : ∀ x, foldedSetIterable iter X.env x = pure x := by intro _; rfl) :
    PS X (.Assign [.Name y py] (.ListComp elt [⟨tgx, iter, ifs, 0⟩] scope pos) spos) (tsD E (sSet i (dLcL td tg tt te (own.map (·.2))))) := ps_weak (ps_setLc hc hN hy hyl hsw (pi_listK hi h) ok hg ht he hs) fun Z σ H q => m_lcL hw (m_set q)
end
/-! ### truth -/
def truD : D → Option Bool
  | .non => some false
  | .bl b => some b
  | .int i => some (i != 0)
  | .str z => if z.length ≤ 1000000 then some ((z.length : Int) != 0) else none
  | .lst ds => some (!ds.isEmpty)
  | .tup ds => some (!ds.isEmpty)
  | .dic ds => some (!ds.isEmpty)
  | _ => none

def dTru (t : TD) : TTD := fun sl C Q => t sl C fun r sl1 C1 => ∃ k, truD (look sl1 r) = some k ∧ Q k sl1 C1
theorem m_tru {Q : Bool → Hp → Prop} (h : ttD E (dTru td) σ H Q) : (teD E td) σ H fun x H' => ∃ k, TruV E.K x H' k ∧ Q k H' := by
  obtain ⟨G, sl, C, Qd, ab, t, k⟩ := h
  refine ⟨G, sl, C, _, ab, t, fun v r G1 H1 sl1 C1 a1 s1 v1 n1 q => ?_⟩
  obtain ⟨b, hb, q⟩ := q
  refine ⟨b, ?_, k b G1 H1 sl1 C1 a1 s1 q⟩
  have u := v1.ru a1
  generalize look sl1 r = d at hb u
  cases d with
  | non => cases hb; rw [u.non]; exact rfl
  | bl => cases hb; rw [u.bl]; exact rfl
  | int => cases hb; rw [u.int]; exact rfl
  | str z =>
    simp only [truD] at hb
    split at hb
    · rename_i hl
      cases hb
      rw [u.str]
      exact ⟨sz_line hl, rfl⟩
    · cases hb
  | lst ds =>
    cases hb
    obtain ⟨p, vs, rfl, h1, h2⟩ := u.lst a1.wi.gh
    exact .inl ⟨vs, SqL.of h1, by cases h2 <;> rfl⟩
  | tup ds =>
    cases hb
    obtain ⟨p, vs, rfl, h1, h2⟩ := u.tup
    exact .inr (.inl ⟨vs, sqt_ex (same_ex a1.wi.gh) h1, by cases h2 <;> rfl⟩)
  | dic ds =>
    cases hb
    obtain ⟨p, vs, rfl, h1, h2⟩ := u.dic a1.wi.gh
    exact .inr (.inr ⟨vs, h1, by cases h2 <;> rfl⟩)
  | _ => cases hb
theorem dt_tru (ha : PE X a (teD E ta)) (h : X.K = E.K := by rfl) (he : ∀ whole, isTrue a X.env whole = (do let v ← whole; standAt a.pos; holding [v] (truthy v)) := by intro _; rfl) : PT X a (ttD E (dTru ta)) := pt_weak (pt_truth ha he) fun _ _ _ q => by
  have := m_tru q
  rw [← h] at this
  exact this
/-! ### never reached -/
theorem de_no : PE X e (teD E fun _ _ _ => False) := ⟨fun pins s σ H Q I h => by
  obtain ⟨G, sl, C, Qd, ab, t, k⟩ := h
  exact t.elim⟩
theorem ds_no {st : Stmt} : PS X st (tsD E fun _ _ _ => False) := ⟨fun pins s σ H Q I h => by
  obtain ⟨G, sl, C, Qd, ab, t, k⟩ := h
  exact t.elim⟩
/-! ### cells -/
def putC (C : Cs) (a : Addr) (c : Cell) : Cs := C.map fun x => if x.1 = a then (a, c) else x
def getC (C : Cs) (a : Addr) : Option Cell := match C with
  | [] => none
  | x :: r => if x.1 = a then some x.2 else getC r a
theorem getC_mem {a : Addr} {c : Cell} : ∀ {C : Cs}, getC C a = some c → (a, c) ∈ C
  | x :: r, h => by
    unfold getC at h
    split at h
    · rename_i e
      cases h
      subst e
      exact List.mem_cons_self
    · exact List.mem_cons_of_mem _ (getC_mem h)
theorem keys_put {C : Cs} {a : Addr} {c : Cell} : keys (putC C a c) = keys C := by
  unfold putC keys
  rw [List.map_map]
  refine List.map_congr_left fun x _ => ?_
  show (if x.1 = a then (a, c) else x).1 = x.1
  split
  · rename_i e; exact e.symm
  · rfl
/-- a cell is written -/
theorem Ab.wrC {a : Addr} {c c0 : Cell} {ho : HO} (ab : E.Ab G H C sl σ) (hg : getC C a = some c0) (q : CeO E.K G (upd H a ho) a c) : E.Ab G (upd H a ho) (putC C a c) sl σ ∧ Stp σ G H C sl G (upd H a ho) (putC C a c) sl := by
  have m := getC_mem hg
  have mk : a ∈ keys C := List.mem_map.mpr ⟨_, m, rfl⟩
  have ga : G a = none := (ab.wi.cs _ m).1
  have wi : WI E.K G (upd H a ho) (putC C a c) := by
    refine ⟨fun x u e => ?_, fun x hx => ?_, by rw [keys_put]; exact ab.wi.nd, ab.wi.sy⟩
    · rw [upd_ne (ne_of_none e ga)]
      exact ab.wi.gh x u e
    · obtain ⟨y, hy, rfl⟩ := List.mem_map.mp hx
      show G (if y.1 = a then (a, c) else y).1 = none ∧ CeO E.K G (upd H a ho) (if y.1 = a then (a, c) else y).1 (if y.1 = a then (a, c) else y).2
      split
      · exact ⟨ga, q⟩
      · rename_i n
        obtain ⟨q1, q2⟩ := ab.wi.cs y hy
        exact ⟨q1, q2.keep (Ex.refl G) (upd_ne n)⟩
  obtain ⟨o0, ho0⟩ := (ab.wi.cs _ m).2.is
  refine ⟨⟨wi, ⟨ab.mv.gg, fun x u h1 h2 => ?_, fun x u h1 => ?_, ab.mv.ag, by rw [keys_put]; exact ab.mv.cn⟩, ab.len, ab.va, fun i o h => ?_, ab.dj⟩, ⟨Ex.refl G, fun p o h1 h2 h3 h4 => ?_, fun _ h => h, fun x u h1 => ?_⟩⟩
  · have ne : x ≠ a := fun z => by
      subst z
      rcases ab.mv.cn x mk with z | z
      · exact h2 z
      · rw [h1] at z; cases z
    rw [upd_ne ne]
    exact ab.mv.hh x u h1 h2
  · by_cases z : x = a
    · exact ⟨ho, by rw [z]; exact upd_same⟩
    · rw [upd_ne z]; exact ab.mv.dm x u h1
  · obtain ⟨p, e, ⟨u, hu, qu⟩, g, n, z⟩ := ab.ow i o h
    have ne : p ≠ a := fun w => n (by rw [w]; exact mk)
    exact ⟨p, e, ⟨u, by rw [upd_ne ne]; exact hu, qu⟩, g, by rw [keys_put]; exact n, z⟩
  · have ne : p ≠ a := fun w => h3 (by rw [w]; exact mk)
    exact ⟨by rw [upd_ne ne]; exact h1, h2, by rw [keys_put]; exact h3, h4⟩
  · by_cases z : x = a
    · exact ⟨ho, by rw [z]; exact upd_same⟩
    · exact ⟨u, by rw [upd_ne z]; exact h1⟩
/-! fields -/
def lookF (fs : List (Str × D)) (f : Str) : Option D := match fs with
  | [] => none
  | (g, d) :: r => if g = f then some d else lookF r f
def putFD (f : Str) (d : D) : List (Str × D) → List (Str × D)
  | [] => [(f, d)]
  | (g, e) :: r => if g = f then (f, d) :: r else (g, e) :: putFD f d r
theorem RpF.look {K : PySem.W.Frag} {f : Str} {d : D} : ∀ {vs : List (Str × V)} {fs : List (Str × D)}, RpF K G vs fs → lookF fs f = some d → ∃ v, vs.lookup f = some v ∧ Rp K G v d
  | _, _, .cons (f := g) (v := v) (vs := vs) a b, h => by
    unfold lookF at h
    split at h
    · rename_i e
      cases h
      subst e
      exact ⟨v, by simp [List.lookup], a⟩
    · rename_i n
      obtain ⟨w, h1, h2⟩ := RpF.look b h
      have : (f == g) = false := beq_eq_false_iff_ne.mpr fun z => n z.symm
      exact ⟨w, by simp only [List.lookup, this]; exact h1, h2⟩
theorem RpF.len {K : PySem.W.Frag} : ∀ {vs : List (Str × V)} {fs : List (Str × D)}, RpF K G vs fs → vs.length = fs.length
  | _, _, .nil => rfl
  | _, _, .cons _ b => congrArg Nat.succ (RpF.len b)
theorem RpF.none {K : PySem.W.Frag} {f : Str} : ∀ {vs : List (Str × V)} {fs : List (Str × D)}, RpF K G vs fs → lookF fs f = none → vs.lookup f = none
  | _, _, .nil, _ => rfl
  | _, _, .cons (f := g) (v := v) (vs := vs) a b, h => by
    unfold lookF at h
    split at h
    · cases h
    · rename_i n
      have : (f == g) = false := beq_eq_false_iff_ne.mpr fun z => n z.symm
      simp only [List.lookup, this]
      exact RpF.none b h
end
end Dl

set_option Elab.async false
set_option maxRecDepth 100000
set_option linter.all false
set_option maxHeartbeats 2000000
/-! KitDh: fields, methods, instances; a def that forgets its cells; extend, count, isinstance. -/
namespace Dl
open PySem PySem.Spec PyProof.Rows L2 Evl Kx
section
variable {X : Cx} {E : En} {e a b c tgx iter o value : Expr} {td ta tb tc te : TD} {tt : TTD} {tr : TAD} {pos : Pos} {G H : Hp} {C : Cs} {sl : Sls} {σ : L2.St} {tg : Tg} {s1 : TSD} {body : List Stmt}
/-! ### fields -/
theorem CeO.ins' {a : Addr} {CC : Addr} {fs : List (Str × D)} {K : PySem.W.Frag} (h : CeO K G H a (.ins CC fs)) : ∃ dx vfs, H a = some (.ins CC dx vfs) ∧ RpF K G vfs fs := h
/-- e.f of a cell -/
def dFld (CC : Addr) (f : Str) (t : TD) : TD := fun sl C Q => t sl C fun r sl1 C1 => ∃ a fs d, look sl1 r = .ref a ∧ getC C1 a = some (.ins CC fs) ∧ lookF fs f = some d ∧ Q (.dat d) sl1 C1
theorem Ru.ref {v : V} {a : Addr} (h : Ru E.K G H v (.ref a)) : v = .ref a := by
  have := h.flat (fun o => by cases o <;> intro z <;> cases z)
  cases this; rfl
theorem m_fld {CC : Addr} {f : Str} {Q : VK} (cl : Cls E.K CC) (na : NoAttr E.K CC f) (h : teD E (dFld CC f td) σ H Q) : tFld E.K (teD E td) f σ H Q := by
  obtain ⟨G, sl, C, Qd, ab, t, k⟩ := h
  refine ⟨G, sl, C, _, ab, t, fun v r G1 H1 sl1 C1 a1 s1 v1 n1 q => ?_⟩
  obtain ⟨a, fs, d, e1, e2, e3, q⟩ := q
  have u := v1.ru a1
  rw [e1] at u
  obtain ⟨q1, q2⟩ := a1.wi.cs _ (getC_mem e2)
  obtain ⟨dx, vfs, h1, h2⟩ := CeO.ins' q2
  obtain ⟨w, h3, h4⟩ := h2.look e3
  exact ⟨a, CC, dx, vfs, w, u.ref, h1, cl, na, h3, k w (.dat d) G1 H1 sl1 C1 a1 s1 h4 trivial q⟩
theorem de_fld {CC : Addr} {f : Str} (cl : Cls E.K CC) (na : NoAttr E.K CC f) (he : PE X e (teD E td)) (h : X.K = E.K := by rfl) (hb : attributeBase e f X.env (eval e X.env) = eval e X.env := by rfl) : PE X (.Attribute e f pos) (teD E (dFld CC f td)) :=
  pe_weak (h ▸ pe_fld he hb) fun _ _ _ => m_fld cl na
theorem RpF.put {K : PySem.W.Frag} {f : Str} {v : V} {d : D} (r : Rp K G v d) : ∀ {vs : List (Str × V)} {fs : List (Str × D)}, RpF K G vs fs → RpF K G (putF f v vs) (putFD f d fs)
  | _, _, .nil => .cons r .nil
  | _, _, .cons (f := g) a b => by
    show RpF K G (if g = f then _ else _) (if g = f then _ else _)
    split
    · rename_i e; subst e; exact .cons r b
    · exact .cons a (RpF.put r b)
/-- e.f = value -/
def sFldD (CC : Addr) (f : Str) (tv to : TD) : TSD := fun Z sl C => tv sl C fun r sl1 C1 => fz r sl1 fun d sl2 => to sl2 C1 fun ro sl3 C2 => ∃ a fs, look sl3 ro = .ref a ∧ getC C2 a = some (.ins CC fs) ∧ fs.length < 100 ∧ Z.nx sl3 (putC C2 a (.ins CC (putFD f d fs)))
theorem m_sfld {CC : Addr} {f : Str} {tv to : TD} {Z : Ends} (cl : Cls E.K CC) (na : NoAttr E.K CC f) (h : tsD E (sFldD CC f tv to) Z σ H) : sFld E.K (teD E to) (teD E tv) f Z σ H := by
  obtain ⟨G, sl, C, DD, ab, t, k1, k2, k3, k4⟩ := h
  refine ⟨G, sl, C, _, ab, t, fun v r G1 H1 sl1 C1 a1 s1 v1 n1 q => ?_⟩
  obtain ⟨d, G2, sl2, a2, s2, rd, q⟩ := Ab.keepS a1 v1 s1 n1 q
  refine ⟨G2, sl2, C1, _, a2, q, fun vo ro G3 H3 sl3 C3 a3 s3 v3 n3 q => ?_⟩
  obtain ⟨a, fs, e1, e2, hl, q⟩ := q
  have u := v3.ru a3
  rw [e1] at u
  obtain ⟨q1, q2⟩ := a3.wi.cs _ (getC_mem e2)
  obtain ⟨dx, vfs, h1, h2⟩ := CeO.ins' q2
  obtain ⟨a4, s4⟩ := Ab.wrC (ho := .ins CC dx (putF f v vfs)) a3 e2 (c := .ins CC (putFD f d fs)) ⟨dx, _, upd_same, RpF.put (rd.mono s3.gg) h2⟩
  exact ⟨a, CC, dx, vfs, u.ref, h1, cl, na, by rw [h2.len]; omega, k1 _ _ _ _ _ a4 ((s2.trans s3).trans s4).gg q⟩
theorem ds_fld {CC : Addr} {f : Str} {pos' : Pos} {tv to : TD} (cl : Cls E.K CC) (na : NoAttr E.K CC f) (ho : PE X o (teD E to)) (hv : PE X value (teD E tv)) (h : X.K = E.K := by rfl) (hs : swapsWith value (some (.Attribute o f pos')) pos.line X.env = pure false := by rfl) :
    PS X (.Assign [.Attribute o f pos'] value pos) (tsD E (sFldD CC f tv to)) := ps_weak (h ▸ ps_fld ho hv hs) fun _ _ _ => m_sfld cl na
/-- e.f op= an int -/
def sFldA (CC : Addr) (f : Str) (g : Int → Int → Int) (to tv : TD) : TSD := fun Z sl C => to sl C fun ro sl1 C1 => ∃ a fs i, look sl1 ro = .ref a ∧ getC C1 a = some (.ins CC fs) ∧ lookF fs f = some (.int i) ∧
  tv sl1 C1 fun r sl2 C2 => ∃ j fs', look sl2 r = .int j ∧ getC C2 a = some (.ins CC fs') ∧ fs'.length < 100 ∧ Z.nx sl2 (putC C2 a (.ins CC (putFD f (.int (g i j)) fs')))
def rI2 (g : Int → Int → Int) : V → V → Hp → VK → Prop := fun x y H Q => ∃ i j, x = .int i ∧ y = .int j ∧ Q (.int (g i j)) H
theorem m_sflda {CC : Addr} {f : Str} {g : Int → Int → Int} {tv to : TD} {Z : Ends} (cl : Cls E.K CC) (na : NoAttr E.K CC f) (h : tsD E (sFldA CC f g to tv) Z σ H) : sFldAug E.K (teD E to) (teD E tv) (rI2 g) f Z σ H := by
  obtain ⟨G, sl, C, DD, ab, t, k1, k2, k3, k4⟩ := h
  refine ⟨G, sl, C, _, ab, t, fun v r G1 H1 sl1 C1 a1 s1 v1 n1 q => ?_⟩
  obtain ⟨a, fs, i, e1, e2, e3, q⟩ := q
  have u := v1.ru a1
  rw [e1] at u
  obtain ⟨q1, q2⟩ := a1.wi.cs _ (getC_mem e2)
  obtain ⟨dx, vfs, h1, h2⟩ := CeO.ins' q2
  obtain ⟨w, h3, h4⟩ := h2.look e3
  refine ⟨a, CC, dx, vfs, w, u.ref, h1, cl, na, h3, G1, sl1, C1, _, a1, q, fun v2 r2 G2 H2 sl2 C2 a2 s2 w2 n2 q => ?_⟩
  obtain ⟨j, fs', f1, f2, f3, q⟩ := q
  have u2 := w2.ru a2
  rw [f1] at u2
  obtain ⟨p1, p2⟩ := a2.wi.cs _ (getC_mem f2)
  obtain ⟨dx', vfs', g1, g2⟩ := CeO.ins' p2
  cases h4
  refine ⟨i, j, rfl, u2.int, ?_⟩
  obtain ⟨a4, s4⟩ := Ab.wrC (ho := .ins CC dx' (putF f (.int (g i j)) vfs')) a2 f2 (c := .ins CC (putFD f (.int (g i j)) fs')) ⟨dx', _, upd_same, RpF.put (.int _) g2⟩
  exact ⟨dx', vfs', g1, by rw [g2.len]; omega, k1 _ _ _ _ _ a4 ((s1.trans s2).trans s4).gg q⟩
theorem ds_fldadd {CC : Addr} {f : Str} {tpos : Pos} {tv to : TD} (cl : Cls E.K CC) (na : NoAttr E.K CC f) (ho : PE X o (teD E to)) (hv : PE X value (teD E tv)) (h : X.K = E.K := by rfl) :
    PS X (.AugAssign (.Attribute o f tpos) .Add value pos) (tsD E (sFldA CC f (· + ·) to tv)) := ps_weak (h ▸ ps_fldaug ho hv in_add) fun _ _ _ => m_sflda cl na
theorem ds_fldsub {CC : Addr} {f : Str} {tpos : Pos} {tv to : TD} (cl : Cls E.K CC) (na : NoAttr E.K CC f) (ho : PE X o (teD E to)) (hv : PE X value (teD E tv)) (h : X.K = E.K := by rfl) :
    PS X (.AugAssign (.Attribute o f tpos) .Sub value pos) (tsD E (sFldA CC f (· - ·) to tv)) := ps_weak (h ▸ ps_fldaug ho hv in_sub) fun _ _ _ => m_sflda cl na
/-! ### methods -/
/-- d is an instance of CC, without an own attribute m -/
def RecvD (CC : Addr) (m : Str) (C : Cs) : D → Prop
  | .ref a => ∃ fs, getC C a = some (.ins CC fs) ∧ lookF fs m = none
  | .obj φ => ∀ a G, φ a G → ∃ dx fs, G a = some (.ins CC dx fs) ∧ fs.lookup m = none
  | _ => False
theorem RecvD.at {CC : Addr} {m : Str} {d : D} {v : V} (w : WI E.K G H C) (h : RecvD CC m C d) (r : Rp E.K G v d) : ∃ a dx fs, v = .ref a ∧ H a = some (.ins CC dx fs) ∧ fs.lookup m = none := by
  cases r with
  | ref a =>
    obtain ⟨fs, e1, e2⟩ := h
    obtain ⟨q1, q2⟩ := w.cs _ (getC_mem e1)
    obtain ⟨dx, vfs, h1, h2⟩ := CeO.ins' q2
    exact ⟨a, dx, vfs, rfl, h1, h2.none e2⟩
  | obj hp mo =>
    obtain ⟨dx, fs, h1, h2⟩ := h _ _ hp
    exact ⟨_, dx, fs, rfl, w.gh _ _ h1, h2⟩
  | _ => exact False.elim h
def dMeth (CC : Addr) (m : Str) (n : Nat) (sp : Spec) (dds : List D) (to : TD) (tr : TAD) : TD := fun sl C Q => to sl C fun r sl1 C1 => fz r sl1 fun d sl2 => RecvD CC m C1 d ∧ tr sl2 C1 fun ds sl3 C3 => (d :: (ds ++ dds)).length = n ∧ sp (d :: (ds ++ dds)) C3 fun d' C4 => Q (.dat d') sl3 C4
theorem m_meth {CC : Addr} {m : Str} {n : Nat} {sp : Spec} {dds : List D} {dvs : List V} {to : TD} {Q : VK} (hd : ∀ G, RpA E.K G dvs dds) (h : teD E (dMeth CC m n sp dds to tr) σ H Q) : tMeth CC m (spD E.K n sp) dvs E0 (teD E to) (taD E tr) σ H Q := by
  obtain ⟨G, sl, C, Qd, ab, t, k⟩ := h
  refine ⟨G, sl, C, _, ab, t, fun v r G1 H1 sl1 C1 a1 s1 v1 n1 q => ?_⟩
  obtain ⟨d, G2, sl2, a2, s2, rd, hrv, q⟩ := Ab.keepS a1 v1 s1 n1 q
  obtain ⟨a, dx, fs, rfl, h1, h2⟩ := hrv.at a2.wi rd
  refine ⟨a, dx, fs, rfl, h1, h2, G2, sl2, C1, _, a2, q, fun vs ds G3 H3 sl3 C3 a3 s3 rs q => ?_⟩
  exact ⟨G3, C3, d :: (ds ++ dds), _, a3.wi, .cons (rd.mono s3.gg) (rs.app (hd G3)), q.1, q.2, fun v d G' H' C' w m rd qd => k v (.dat d) G' H' sl3 C' (a3.go w m) ((s2.trans s3).trans (a3.stp m)) rd trivial qd⟩
/-- a method as a promise over data -/
structure MetD (P : Program) (w : World) (K : PySem.W.Frag) (mg : Str → Option Value) (base : Heap) (k : Nat) (CC : Addr) (m : Str) (n : Nat) (sp : Spec) : Prop where
  met : C8.Met P w K mg base k CC m (spD K n sp) []
theorem de_mt {pl : Sem Bool} {k j n : Nat} {CC : Addr} {m : Str} {sp : Spec} {to : TD} {es : List Expr} {apos : Pos} (c : MetD X.prog X.w X.K X.mg X.base k CC m n sp) (hr : Room j X.A) (hk : k ≤ j) (ho : PE X o (teD E to)) (ha : PA X (e :: es) (taD E tr)) (h : X.K = E.K := by rfl)
    (hst : starEach (e :: es) X.env = (false, eval e X.env) :: starEach es X.env := by rfl) (hpl : (backTo pos (starEach es X.env)).any (·.1) = false := by rfl)
    (ht : eval (.Call (.Attribute o m apos) (e :: es) [] pos) X.env = (do
      let ov ← eval o X.env
      standAt apos.atName
      let (f, first) ← holding [ov] (getMethod ov m pl)
      callWith pos f first (backTo pos (starEach (e :: es) X.env)) (backToKw pos (keywordEach [] X.env))) := by rfl) :
    PE X (.Call (.Attribute o m apos) (e :: es) [] pos) (teD E (dMeth CC m n sp [] to tr)) := pe_weak (C8.pe_mt (pl := pl) c.met hr hk ho ha hst hpl ht) fun _ _ _ q => by
  have := m_meth (dvs := []) (fun _ => .nil) q
  rw [← h] at this
  exact this
theorem de_mt0 {pl : Sem Bool} {k j n : Nat} {CC : Addr} {m : Str} {sp : Spec} {to : TD} {apos : Pos} (c : MetD X.prog X.w X.K X.mg X.base k CC m n sp) (hr : Room j X.A) (hk : k ≤ j) (ho : PE X o (teD E to)) (h : X.K = E.K := by rfl)
    (ht : eval (.Call (.Attribute o m apos) [] [] pos) X.env = (do
      let ov ← eval o X.env
      standAt apos.atName
      let (f, first) ← holding [ov] (getMethod ov m pl)
      callWith pos f first (backTo pos (starEach [] X.env)) (backToKw pos (keywordEach [] X.env))) := by rfl) :
    PE X (.Call (.Attribute o m apos) [] [] pos) (teD E (dMeth CC m n sp [] to dNil)) := pe_weak (C8.pe_mt0 (pl := pl) c.met hr hk ho ht) fun σ H Q q => by
  have := m_meth (dvs := []) (fun _ => .nil) q
  rw [← h] at this
  obtain ⟨G, sl, C, Qd, ab, t, k⟩ := q
  refine ⟨G, sl, C, _, ab, t, fun v r G1 H1 sl1 C1 a1 s1 v1 n1 q => ?_⟩
  obtain ⟨d, G2, sl2, a2, s2, rd, hrv, q⟩ := Ab.keepS a1 v1 s1 n1 q
  obtain ⟨a, dx, fs, rfl, h1, h2⟩ := hrv.at a2.wi rd
  refine ⟨a, dx, fs, rfl, h1, h2, ?_⟩
  rw [h]
  exact ⟨G2, C1, [d], _, a2.wi, .cons rd .nil, q.1, q.2, fun v d G' H' C' w m rd qd => k v (.dat d) G' H' sl2 C' (a2.go w m) (s2.trans (a2.stp m)) rd trivial qd⟩
/-! ### instances -/
/-- a new cell -/
theorem Ab.newC {p dx CC : Addr} (ab : E.Ab G H C sl σ) (hp : H p = none) (hd : H dx = none) (ne : dx ≠ p) :
    E.Ab G (upd (upd H dx (.own p)) p (.ins CC dx [])) ((p, .ins CC []) :: C) sl σ ∧ Stp σ G H C sl G (upd (upd H dx (.own p)) p (.ins CC dx [])) ((p, .ins CC []) :: C) sl ∧ getC ((p, .ins CC []) :: C) p = some (.ins CC []) := by
  have hp2 : (upd H dx (.own p)) p = none := by rw [upd_ne ne.symm]; exact hp
  have st : ∀ {x : Addr} {u : HO}, H x = some u → (upd (upd H dx (.own p)) p (.ins CC dx [])) x = some u := fun {x u} h => by
    rw [upd_ne (ne_of_none h hp), upd_ne (ne_of_none h hd)]
    exact h
  have wi : WI E.K G (upd (upd H dx (.own p)) p (.ins CC dx [])) ((p, .ins CC []) :: C) := by
    refine ⟨fun x u e => st (ab.wi.gh x u e), fun x hx => ?_, ?_, ab.wi.sy⟩
    · rcases List.mem_cons.mp hx with rfl | hx
      · exact ⟨ab.wi.gn hp, dx, [], upd_same, .nil⟩
      · obtain ⟨q1, q2⟩ := ab.wi.cs x hx
        obtain ⟨u, hu⟩ := q2.is
        exact ⟨q1, q2.keep (Ex.refl G) ((st hu).trans hu.symm)⟩
    · exact List.nodup_cons.mpr ⟨ab.wi.ne hp, ab.wi.nd⟩
  refine ⟨⟨wi, ⟨ab.mv.gg, fun x u h1 h2 => st (ab.mv.hh x u h1 h2), fun x u h1 => ?_, ab.mv.ag, fun x m => ?_⟩, ab.len, ab.va, fun i o h => ?_, ab.dj⟩, ⟨Ex.refl G, fun x o h1 h2 h3 h4 => ⟨st h1, h2, fun m => ?_, h4⟩, fun _ h => h, fun x u h1 => ⟨u, st h1⟩⟩, by unfold getC; rw [if_pos rfl]⟩
  · obtain ⟨u', h'⟩ := ab.mv.dm x u h1
    exact ⟨u', st h'⟩
  · rcases List.mem_cons.mp m with rfl | m
    · exact .inr (ab.hn hp)
    · exact ab.mv.cn x m
  · obtain ⟨y, e, ⟨u, hu, qu⟩, g, n, z⟩ := ab.ow i o h
    exact ⟨y, e, ⟨u, st hu, qu⟩, g, fun m => by
      rcases List.mem_cons.mp m with rfl | m
      · rw [hp] at hu; cases hu
      · exact n m, z⟩
  · rcases List.mem_cons.mp m with rfl | m
    · rw [hp] at h1; cases h1
    · exact h3 m
def dMake (CC : Addr) (n : Nat) (sp : Spec) (tr : TAD) : TD := fun sl C Q => tr sl C fun ds sl1 C1 => ∀ p : Addr, p ∉ keys C1 → ds.length + 1 = n ∧ sp (.ref p :: ds) ((p, .ins CC []) :: C1) fun d C2 => d = .non ∧ Q (.dat (.ref p)) sl1 C2
theorem m_make {CC : Addr} {n : Nat} {sp : Spec} {Q : VK} (h : teD E (dMake CC n sp tr) σ H Q) : tMake CC (spD E.K n sp) [] E0 (taD E tr) σ H Q := by
  obtain ⟨G, sl, C, Qd, ab, t, k⟩ := h
  refine ⟨G, sl, C, _, ab, t, fun vs ds G1 H1 sl1 C1 a1 s1 rs q => fun p dx hp hd ne => ?_⟩
  obtain ⟨a2, s2, _⟩ := Ab.newC (CC := CC) a1 hp hd ne
  obtain ⟨q1, q2⟩ := q p (a1.wi.ne hp)
  rw [List.append_nil]
  refine ⟨G1, _, .ref p :: ds, _, a2.wi, .cons (.ref p) rs, q1, q2, fun v d G' H' C' w m rd qd => ?_⟩
  obtain ⟨rfl, qd⟩ := qd
  cases rd
  exact ⟨rfl, k (.ref p) (.dat (.ref p)) G' H' sl1 C' (a2.go w m) ((s1.trans s2).trans (a2.stp m)) (.ref p) trivial qd⟩
theorem de_mk {k j n : Nat} {CC : Addr} {x : Str} {sp : Spec} {es : List Expr} {p : Pos} (c : C8.Mak X.prog X.w X.K X.mg X.base k x CC (spD E.K n sp) []) (hr : Room j X.A) (hk : k + 1 ≤ j) (hg : Gl X x) (ha : PA X (e :: es) (taD E tr))
    (hdb : (x == ("__debug__" : Str)) = false := by decide) (he : starEach (e :: es) X.env = (false, eval e X.env) :: starEach es X.env := by rfl) (hpl : (backTo pos (starEach es X.env)).any (·.1) = false := by rfl) :
    PE X (.Call (.Name x p) (e :: es) [] pos) (teD E (dMake CC n sp tr)) := pe_weak (C8.pe_mk c hr hk hg ha hdb he hpl) fun _ _ _ => m_make
/-! ### more methods of lists -/
def dExt (i : Nat) (te : TD) : TD := fun sl C Q => (∃ ds, sl[i]? = some (.ow (.lst ds))) ∧ te sl C fun r sl1 C1 => fz r sl1 fun d sl2 => ∃ ds es, sl2[i]? = some (.ow (.lst ds)) ∧ d = .lst es ∧ ds.length + es.length ≤ 100000 ∧ Q (.dat .non) (sl2.set i (.ow (.lst (ds ++ es)))) C1
theorem m_ext {i : Nat} {te : TD} {Q : VK} (h : teD E (dExt i te) σ H Q) : tBM E.K "list" rExtend (tVar i) (tCons (teD E te) tNil) σ H Q := by
  obtain ⟨G, sl, C, Qd, ab, ⟨⟨ds0, h0⟩, t⟩, k⟩ := h
  obtain ⟨p, ep, ⟨ho, hp, q0⟩, _⟩ := ab.ow i _ h0
  cases q0 with
  | @lst _ vs r0 =>
  refine ⟨.ref p, ep, .inl ⟨rfl, vs, SqL.of hp⟩, G, sl, C, _, ab, t, fun v r G1 H1 sl1 C1 a1 s1 v1 n1 q => ?_⟩
  obtain ⟨d, G2, sl2, a2, s2, rd, ds, es, hs, rfl, hl, q⟩ := Ab.keepS a1 v1 s1 n1 q
  obtain ⟨p', ep', ⟨ho', hp', q1⟩, _⟩ := a2.ow i _ hs
  rw [ep] at ep'
  cases ep'
  cases q1 with
  | @lst _ us r1 =>
  cases rd with
  | @lst y ys _ hy ry =>
  obtain ⟨a3, s3⟩ := Ab.wrOw a2 hs ep (o' := .lst (ds ++ es)) (ho := .lst (us ++ ys)) (.lst (r1.app ry))
  exact ⟨p, y, us, ys, rfl, rfl, hp', a2.wi.gh _ _ hy, Nat.le_trans (by rw [r1.len, ry.len]; exact hl) (by decide : 100000 ≤ sizeLine), k .non (.dat .non) G2 _ _ C1 a3 (s2.trans s3) .non trivial q⟩
theorem de_ext {i : Nat} {x : Str} {apos vpos : Pos} {te : TD} (hv : PE X (.Name x vpos) (tVar i)) (he : PE X e (teD E te)) (h : X.K = E.K := by rfl) (hbase : attributeBase (.Name x vpos) "extend" X.env (eval (.Name x vpos) X.env) = eval (.Name x vpos) X.env := by rfl)
    (hfew : ((backTo pos (starEach [e] X.env)).all (fun x => !x.1) && (backToKw pos (keywordEach [] X.env)).all (fun x => x.1.isSome) && decide ([e].length + ([] : List Keyword).length + (if ([] : List Keyword).isEmpty then 0 else 1) < 30)) = true := by rfl)
    (hline : (apos.endLine == pos.line) = true := by rfl) (hs : starEach [e] X.env = (false, eval e X.env) :: starEach [] X.env := by rfl) (hplain : (backTo pos (starEach [] X.env)).any (·.1) = false := by rfl) :
    PE X (.Call (.Attribute (.Name x vpos) "extend" apos) [e] [] pos) (teD E (dExt i te)) :=
  pe_weak (h ▸ pe_bm PySem.F.plainAttrs_list PySem.F.slot_list_extend PySem.F.type_list_extend mt_extend hv (pa_cons he pa_nil hs) hbase hfew hline hs hplain) fun _ _ _ => m_ext
/-- list.count(text), str.join, str.split: methods with kept arguments -/
theorem de_mtd {T id : String} {name : Str} {r : V → List V → Hp → VK → Prop} {f : D → List D → Option R} {to : TD} {es : List Expr} {apos : Pos} (pa : PlainAttrs T) (slot : Slot T name id) (hty : typeOf (.builtin id) = pure (.type "method_descriptor")) (hm : MtR X id r) (m : MtD E r T f) (ho : PE X o (teD E to)) (ha : PA X (e :: es) (taD E tr)) (h : X.K = E.K := by rfl)
    (hbase : attributeBase o name X.env (eval o X.env) = eval o X.env := by rfl)
    (hfew : ((backTo pos (starEach (e :: es) X.env)).all (fun x => !x.1) && (backToKw pos (keywordEach [] X.env)).all (fun x => x.1.isSome) && decide ((e :: es).length + ([] : List Keyword).length + (if ([] : List Keyword).isEmpty then 0 else 1) < 30)) = true := by rfl)
    (hline : (apos.endLine == pos.line) = true := by rfl) (hs : starEach (e :: es) X.env = (false, eval e X.env) :: starEach es X.env := by rfl) (hplain : (backTo pos (starEach es X.env)).any (·.1) = false := by rfl) :
    PE X (.Call (.Attribute o name apos) (e :: es) [] pos) (teD E (dMt T f to tr)) := pe_weak (pe_bm pa slot hty hm ho ha hbase hfew hline hs hplain) fun _ _ _ q => by
  have := m_mt m q
  rw [← h] at this
  exact this
def countD : D → List D → Option R
  | .lst ds, [.str z] => match toA ds with
    | some ps => some (.dat (.int ((ps.countP fun d => eqS d z : Nat))))
    | none => none
  | _, _ => none
theorem m_count : MtD E (rCntS E.K) "list" countD := by
  intro σ G H C sl x xs d ds z Q a hx rs hz k
  unfold countD at hz
  split at hz
  · split at hz
    · rename_i ps hp
      cases hz
      obtain ⟨p, vs, rfl, h1, h2⟩ := hx.lst a.wi.gh
      cases rs with
      | cons r1 rs =>
        cases rs
        cases r1
        exact ⟨p, vs, ps, _, rfl, rfl, SqL.of h1, (dqa_toP hp h2).mono (same_ex a.wi.gh), out_flat a k (.int _)⟩
    · cases hz
  · cases hz
def isiT (n : String) (p : PyData) : Option Bool := if n = "str" then some (isStrD p) else if n = "list" then some (isLst p) else if n = "tuple" then some (isTupD p) else if n = "bool" then some (isBoolD p) else none
def isiV : List D → Option R
  | [d, .ty n] => match toP d with
    | some p => (isiT n p).map fun b => .dat (.bl b)
    | none => none
  | _ => none
theorem m_isi : CkM E (rIsiS E.K) isiV := by
  intro σ G H C sl xs ds z Q a r hz k
  unfold isiV at hz
  split at hz
  · split at hz
    · rename_i p hp
      simp only [Option.map_eq_some_iff] at hz
      obtain ⟨b, hb, rfl⟩ := hz
      cases r with
      | cons r1 r =>
      cases r with
      | cons r2 r =>
      cases r
      cases r2
      have dq := (dq_toP hp r1).mono (same_ex a.wi.gh)
      unfold isiT at hb
      split at hb
      · rename_i e
        subst e
        cases hb
        exact isi_s dq (out_flat a k (.bl _))
      split at hb
      · rename_i e
        subst e
        cases hb
        exact isi_l dq (out_flat a k (.bl _))
      split at hb
      · rename_i e
        subst e
        cases hb
        exact isi_t dq (out_flat a k (.bl _))
      split at hb
      · rename_i e
        subst e
        cases hb
        exact isi_b dq (out_flat a k (.bl _))
      · cases hb
    · cases hz
  · cases hz
end
/-! ### defs -/
/-- as gnD, a def that asks for no guards; what it forgets of the cells -/
theorem fnD {P : Program} {w : World} {K : PySem.W.Frag} {mg : Str → Option Value} {base : Heap} {x qual : Str} {st : Stmt} {f : Addr} {fd : FuncData} {N ps : List Str} {k n : Nat} {sp : Spec}
    (F : Fun K x qual st f fd) (S : FnScope N ps (defScope st)) (hn : n = ps.length) (hN : n ≤ N.length)
    (hbody : ∀ (cdv : Value) (A : Around) (outer : List Env) (s : Shared) (H : Hp) (Ex : XK) (E : En), E.K = K → Room k (A.deeper (envOfC qual (defScope st) s.heap.objs.size f cdv)) →
      ∃ ts : TSD, PSs (cxOf CX0 P w K mg base N qual (defScope st) f cdv A outer s H Ex).nox (defBody st) (tsD E ts) ∧
        ∀ ds C Qd, ds.length = n → sp ds C Qd → ts { nx := fun _ C' => ∃ C2, C2.Sublist C' ∧ Qd .non C2, rt := fun d C' => ∃ C2, C2.Sublist C' ∧ Qd d C2 } (startD N ds) C) :
    FnOk P w K mg base CX0 (k + 1) f fd ps (spD K n sp) := by
  have drop : ∀ {G H G' H' : Hp} {C C' C2 : Cs}, C2.Sublist C' → WI K G' H' C' → Mv G H C G' H' C' → WI K G' H' C2 ∧ Mv G H C G' H' C2 := fun {G H G' H' C C' C2} hs w m =>
    ⟨⟨w.gh, fun x hx => w.cs x (hs.subset hx), (hs.map Prod.fst).nodup w.nd, w.sy⟩, ⟨m.gg, m.hh, m.dm, m.ag, fun a ha => m.cn a ((hs.map Prod.fst).subset ha)⟩⟩
  refine F.ok S (fun vs H Q E h => ?_) (fun cdv A outer s H vs Q Ex hr h => ?_)
  · obtain ⟨G, C, ds, Qd, _, r, hl, _⟩ := h
    rw [r.len, hl, hn]
  · obtain ⟨G, C, ds, Qd, wi, r, hl, q, kk⟩ := h
    obtain ⟨ts, h1, h2⟩ := hbody cdv A outer s H Ex ⟨K, G, H, C⟩ rfl hr
    refine ⟨_, h1, G, startD N ds, C, _, ab_start wi r (by omega), h2 ds C Qd hl q, fun G' H' sl' C' σ' a _ q => ?_, fun v d G' H' C' w m r q => ?_, fun _ _ _ _ _ _ _ z => z.elim, fun _ _ _ _ _ _ _ z => z.elim⟩
    · obtain ⟨C2, hs, q⟩ := q
      obtain ⟨w', m'⟩ := drop hs a.wi a.mv
      exact kk .non .non G' H' C2 w' m' .non q
    · obtain ⟨C2, hs, q⟩ := q
      obtain ⟨w', m'⟩ := drop hs w m
      exact kk v d G' H' C2 w' m' r q
end Dl

set_option Elab.async false
set_option maxRecDepth 100000
set_option linter.all false
set_option maxHeartbeats 2000000
/-! KitDi: calls by name, doc lines, assignments. -/
namespace Dl
open PySem PySem.Spec PyProof.Rows L2 Evl Kx
/-- a def that may be called by its name, as a promise over data -/
structure CalD (P : Program) (w : World) (K : PySem.W.Frag) (mg : Str → Option Value) (base : Heap) (k : Nat) (x : Str) (n : Nat) (sp : Spec) (dds : List D) : Prop where
  ex : ∃ dvs, C8.Cal P w K mg base k x (spD K n sp) dvs ∧ ∀ G, RpA K G dvs dds
section
variable {X : Cx} {E : En} {e a b : Expr} {td ta tb : TD} {tr : TAD} {pos p : Pos} {G H : Hp} {C : Cs} {sl : Sls} {σ : L2.St} {es : List Expr}
theorem de_c {k j n : Nat} {x : Str} {sp : Spec} {dds : List D} (c : CalD X.prog X.w X.K X.mg X.base k x n sp dds) (hr : Room j X.A) (hk : k ≤ j) (hg : Gl X x) (ha : PA X (e :: es) (taD E tr)) (h : X.K = E.K := by rfl)
    (hdb : (x == ("__debug__" : Str)) = false := by decide) (he : starEach (e :: es) X.env = (false, eval e X.env) :: starEach es X.env := by rfl) (hpl : (backTo pos (starEach es X.env)).any (·.1) = false := by rfl) :
    PE X (.Call (.Name x p) (e :: es) [] pos) (teD E (dCall n sp dds tr)) := by
  obtain ⟨dvs, c, hd⟩ := c.ex
  exact pe_weak (C8.pe_c c hr hk hg ha hdb he hpl) fun _ _ _ q => by
    have := m_call (E0 := E0) (dvs := dvs) (fun G => h ▸ hd G) q
    rw [← h] at this
    exact this
theorem ds_doc {x : Str} {j : Nat} {p1 : Pos} : PS X (.Expr (.Constant (.str x) j p1) pos) (tsD E sNext) := ps_weak ps_doc fun Z σ H h => by
  obtain ⟨G, sl, C, DD, ab, t, k1, k2, k3, k4⟩ := h
  exact k1 _ _ _ _ _ ab (Ex.refl G) t
theorem ds_pass : PS X (.Pass pos) (tsD E sNext) := ps_weak ps_pass fun Z σ H h => by
  obtain ⟨G, sl, C, DD, ab, t, k1, k2, k3, k4⟩ := h
  exact k1 _ _ _ _ _ ab (Ex.refl G) t
/-! ### x op= e -/
def sAug (i : Nat) (g : Int → Int → Int) (te : TD) : TSD := fun Z sl C => ∃ n, sl[i]? = some (.va (.int n)) ∧ te sl C fun r sl1 C1 => ∃ m, look sl1 r = .int m ∧ i < sl1.length ∧ Z.nx (sl1.set i (.va (.int (g n m)))) C1
theorem m_aug {i : Nat} {g : Int → Int → Int} {Z : Ends} (h : tsD E (sAug i g td) Z σ H) : tAug i (teD E td) (ipI g) Z σ H := by
  obtain ⟨G, sl, C, DD, ab, ⟨n, hs, t⟩, k1, k2, k3, k4⟩ := h
  obtain ⟨v, e, q⟩ := ab.va i _ hs
  cases q
  refine ⟨.int n, e, G, sl, C, _, ab, t, fun v r G1 H1 sl1 C1 a1 s1 v1 n1 q => ?_⟩
  obtain ⟨m, e1, hi, q⟩ := q
  have u := v1.ru a1
  rw [e1] at u
  exact ⟨n, m, rfl, u.int, k1 _ _ _ _ _ (Ab.setVa a1 (.int _) (by rw [← a1.len]; exact hi)) s1.gg q⟩
theorem ds_augadd {i : Nat} {x : Str} {pos' : Pos} (hN : X.N.Nodup) (hi : X.N[i]? = some x) (hx : Loc X.env.scope x) (he : PE X e (teD E td)) (hf : X.fn x = true ∨ X.env.scope.names.lookup x = some .local := by first | exact .inl rfl | exact .inr rfl | assumption) :
    PS X (.AugAssign (.Name x pos') .Add e pos) (tsD E (sAug i (fun i j => i + j) td)) := ps_weak (ps_aug hN hi hx he ip_add hf) fun _ _ _ => m_aug
theorem ds_augsub {i : Nat} {x : Str} {pos' : Pos} (hN : X.N.Nodup) (hi : X.N[i]? = some x) (hx : Loc X.env.scope x) (he : PE X e (teD E td)) (hf : X.fn x = true ∨ X.env.scope.names.lookup x = some .local := by first | exact .inl rfl | exact .inr rfl | assumption) :
    PS X (.AugAssign (.Name x pos') .Sub e pos) (tsD E (sAug i (fun i j => i - j) td)) := ps_weak (ps_aug hN hi hx he ip_sub hf) fun _ _ _ => m_aug
/-! ### a, b = e1, e2 -/
def kN (r : R) (sl : Sls) (k : R → Sls → Prop) : Prop := match r with
  | .new o => k (.new o) sl
  | r => fz r sl fun d sl1 => k (.dat d) sl1
def R.toS : R → Sl
  | .new o => .ow o
  | .dat d => .va d
  | .slt _ => .un
/-- a result that no slot holds -/
def R.free : R → Prop
  | .slt _ => False
  | _ => True
theorem Ab.keepN {G3 H3 : Hp} {C3 : Cs} {sl3 : Sls} {v : V} {r : R} (a : E.Ab G H C sl σ) (h : E.Rv G H C sl σ v r) (s : Stp σ G3 H3 C3 sl3 G H C sl) (nw : Nw H3 v r) {k : R → Sls → Prop} (q : kN r sl k) :
    ∃ r' G' sl', E.Ab G' H C sl' σ ∧ Stp σ G3 H3 C3 sl3 G' H C sl' ∧ E.Rv G' H C sl' σ v r' ∧ Nw H3 v r' ∧ r'.free ∧ k r' sl' := by
  cases r with
  | new o => exact ⟨.new o, G, sl, a, s, h, nw, trivial, q⟩
  | dat d =>
    obtain ⟨d', G', sl', a', s', rd, q'⟩ := Ab.keepS a h s nw (k := fun d sl1 => k (.dat d) sl1) q
    exact ⟨.dat d', G', sl', a', s', rd, trivial, trivial, q'⟩
  | slt j =>
    obtain ⟨d', G', sl', a', s', rd, q'⟩ := Ab.keepS a h s nw (k := fun d sl1 => k (.dat d) sl1) q
    exact ⟨.dat d', G', sl', a', s', rd, trivial, trivial, q'⟩
theorem Ab.put {v : V} {r : R} {i : Nat} (a : E.Ab G H C sl σ) (h : E.Rv G H C sl σ v r) (f : r.free) (hi : i < σ.length) : E.Ab G H C (sl.set i r.toS) (σ.set i (some v)) := by
  cases r with
  | new o => exact Ab.setOw a h hi
  | dat d => exact Ab.setVa a h hi
  | slt j => exact f.elim
/-- another's result stays behind a slot's setting -/
theorem Rv.put {v v2 : V} {r r2 : R} {i : Nat} (h2 : E.Rv G H C sl σ v2 r2) (f2 : r2.free) (ne : ∀ p, v = .ref p → (∃ o, r = .new o) → v2 ≠ .ref p ∨ ∀ o, r2 ≠ .new o) : E.Rv G H C (sl.set i r.toS) (σ.set i (some v)) v2 r2 := by
  cases r2 with
  | dat d => exact h2
  | slt j => exact f2.elim
  | new o2 =>
    obtain ⟨p, rfl, oa, g, n, z, no⟩ := h2
    refine ⟨p, rfl, oa, g, n, z, fun w => ?_⟩
    obtain ⟨j, o, h1, e1⟩ := w
    rcases set_inv h1 with ⟨rfl, z1⟩ | ⟨nj, z1⟩
    · have hj : j < σ.length := by
        have := (List.getElem?_eq_some_iff.mp e1).1
        rw [List.length_set] at this
        exact this
      rw [List.getElem?_set_self hj] at e1
      cases e1
      cases r with
      | new o' =>
        rcases ne p rfl ⟨o', rfl⟩ with x | x
        · exact x rfl
        · exact x _ rfl
      | dat d => cases z1
      | slt k => cases z1
    · rw [List.getElem?_set_ne (Ne.symm nj)] at e1
      exact no ⟨j, o, z1, e1⟩
def sPar (i j : Nat) (ta tb : TD) : TSD := fun Z sl C => ta sl C fun r1 sl1 C1 => kN r1 sl1 fun r1 sl2 => tb sl2 C1 fun r2 sl3 C2 => kN r2 sl3 fun r2 sl4 => i < sl4.length ∧ j < sl4.length ∧ Z.nx ((sl4.set i r1.toS).set j r2.toS) C2
theorem m_par {i j : Nat} {Z : Ends} (hij : i ≠ j) (h : tsD E (sPar i j ta tb) Z σ H) : tPar i j (tCons (teD E ta) (tCons (teD E tb) tNil)) Z σ H := by
  obtain ⟨G, sl, C, DD, ab, t, k1, k2, k3, k4⟩ := h
  refine ⟨G, sl, C, _, ab, t, fun v r G1 H1 sl1 C1 a1 s1 v1 n1 q => ?_⟩
  obtain ⟨r1, G2, sl2, a2, s2, v2, n2, f2, q⟩ := Ab.keepN a1 v1 s1 n1 q
  refine ⟨G2, sl2, C1, _, a2, q, fun w r G3 H3 sl3 C3 a3 s3 w3 n3 q => ?_⟩
  obtain ⟨r2, G4, sl4, a4, s4, w4, n4, f4, hi, hj, q⟩ := Ab.keepN a3 w3 s3 n3 q
  refine ⟨v, w, rfl, ?_⟩
  have x4 := v2.step s4
  have hl := a4.len
  have a5 := Ab.put a4 x4 f2 (by rw [← hl]; exact hi)
  refine k1 _ _ _ _ _ (Ab.put a5 (Rv.put w4 f4 fun p e er => ?_) f4 (by rw [List.length_set, ← hl]; exact hj)) (s2.trans s4).gg q
  obtain ⟨o, er⟩ := er
  subst e er
  cases r2 with
  | new o2 =>
    left
    obtain ⟨p2, e2, hn⟩ := n4
    rw [e2]
    intro z
    cases z
    obtain ⟨y, e5, ⟨u, hu, _⟩, _⟩ := v2
    cases e5
    rw [hn] at hu
    cases hu
  | dat d => right; intro o2 z; cases z
  | slt k => exact f4.elim
theorem ds_par {i j : Nat} {x y : Str} {px py pt : Pos} {kt k2 pt2} (hc : X.calm = true) (hN : X.N.Nodup) (hi : X.N[i]? = some x) (hj : X.N[j]? = some y) (hij : i ≠ j)
    (hx : X.env.scope.names.lookup x = some .local) (hy : X.env.scope.names.lookup y = some .local) (ha : PE X a (teD E ta)) (hb : PE X b (teD E tb))
    (hw : swappedStores [.Tuple [.Name x px, .Name y py] kt pt] (.Tuple [a, b] k2 pt2) X.env = pure (some [x, y]) := by rfl)
    (hs : swapsWithSole [.Tuple [.Name x px, .Name y py] kt pt] (.Tuple [a, b] k2 pt2) pos.line X.env = pure false := by rfl)
    (h1 : starEach [a, b] X.env = (false, eval a X.env) :: starEach [b] X.env := by rfl) (h2 : starEach [b] X.env = (false, eval b X.env) :: starEach [] X.env := by rfl) :
    PS X (.Assign [.Tuple [.Name x px, .Name y py] kt pt] (.Tuple [a, b] k2 pt2) pos) (tsD E (sPar i j ta tb)) := ps_weak (ps_par hc hN hi hj hij hx hy (pa_cons ha (pa_cons hb pa_nil h2) h1) hw hs) fun _ _ _ => m_par hij
/-- a, b = a tuple -/
def sUnp (t : TD) (tg : Tg) : TSD := fun Z sl C => t sl C fun r sl1 C1 => fz r sl1 fun d sl2 => ∃ sl3, setT tg d sl2 = some sl3 ∧ Z.nx sl3 C1
theorem m_unp {tg : Tg} {Z : Ends} (h : tsD E (sUnp td tg) Z σ H) : tAsg (teD E td) (gT E.K tg) Z σ H := by
  obtain ⟨G, sl, C, DD, ab, t, k1, k2, k3, k4⟩ := h
  refine ⟨G, sl, C, _, ab, t, fun v r G1 H1 sl1 C1 a1 s1 v1 n1 q => ?_⟩
  obtain ⟨d, G2, sl2, a2, e2, _, rd, _, sl3, hs, q⟩ := Ab.keep a1 v1 q
  exact m_tg (ws := tg.slots) a2 rd hs (fun _ h => h) fun σ' a' _ => k1 _ _ _ _ _ a' (s1.gg.trans e2) q
theorem ds_unp {tgx : Expr} {tg : Tg} (he : PE X e (teD E td)) (hg : PG X tgx (gT E.K tg)) (hs : swapsWithSole [tgx] e pos.line X.env = pure false := by rfl) (hw : swappedStores [tgx] e X.env = pure none := by rfl)
    (h1 : (assignEach [tgx] X.env).map (·.2) = [assign tgx X.env] := by rfl) : PS X (.Assign [tgx] e pos) (tsD E (sUnp td tg)) := ps_weak (ps_asg he hg hs hw h1) fun _ _ _ => m_unp
end
/-- the built-ins are not covered by the module's names -/
structure Bi (mg : Str → Option Value) : Prop where
  len : mg "len" = none
  int : mg "int" = none
  str : mg "str" = none
  list : mg "list" = none
  tuple : mg "tuple" = none
  range : mg "range" = none
  max : mg "max" = none
  min : mg "min" = none
  repr : mg "repr" = none
  isi : mg "isinstance" = none
/-- a promise may be weakened -/
theorem FnOk.weak {P : Program} {w : World} {K : PySem.W.Frag} {mg : Str → Option Value} {base : Heap} {CX : CXT} {k : Nat} {f : Addr} {fd : FuncData} {ps : List Str} {sp sp' : Sp} (F : FnOk P w K mg base CX k f fd ps sp) (h : ∀ vs H Q E, sp' vs H Q E → sp vs H Q E) : FnOk P w K mg base CX k f fd ps sp' :=
  ⟨fun vs H Q E q => F.len vs H Q E (h _ _ _ _ q), fun A o s H a us vs Q E hr e0 hb r q => F.run A o s H a us vs Q E hr e0 hb r (h _ _ _ _ q)⟩
end Dl

set_option Elab.async false
set_option maxRecDepth 100000
set_option linter.all false
set_option maxHeartbeats 2000000
/-! KitDj: derivations as one prop; more words. -/
namespace Dl
open PySem PySem.Spec PyProof.Rows L2 Evl Kx
/-- a def's body read over data -/
def DerD (P : Program) (w : World) (K : PySem.W.Frag) (mg : Str → Option Value) (base : Heap) (N : List Str) (qual : Str) (st : Stmt) (f : Addr) (k : Nat) (ts : TSD) : Prop :=
  ∀ (cdv : Value) (A : Around) (outer : List Env) (s : Shared) (H : Hp) (Ex : XK) (G0 H0 : Hp) (C0 : Cs), Room k (A.deeper (envOfC qual (defScope st) s.heap.objs.size f cdv)) →
    PSs (cxOf CX0 P w K mg base N qual (defScope st) f cdv A outer s H Ex).nox (defBody st) (tsD ⟨K, G0, H0, C0⟩ ts)
structure DefD (K : PySem.W.Frag) (mg : Str → Option Value) (x : Str) (st : Stmt) (f : Addr) (fd : FuncData) : Prop where
  fn : Fun K x x st f fd
  mgf : mg x = some (.ref f)
  kp : PySem.W.keepIn K (.ref f) = true
/-- what a reading must meet -/
def Meets (N : List Str) (n : Nat) (sp : Spec) (ts : TSD) : Prop := ∀ ds C Qd, ds.length = n → sp ds C Qd → ts { nx := fun _ C' => ∃ C2, C2.Sublist C' ∧ Qd .non C2, rt := fun d C' => ∃ C2, C2.Sublist C' ∧ Qd d C2 } (startD N ds) C
section
variable {P : Program} {w : World} {K : PySem.W.Frag} {mg : Str → Option Value} {base : Heap}
theorem fnE {x qual : Str} {st : Stmt} {f : Addr} {fd : FuncData} {N ps : List Str} {k n : Nat} {sp : Spec} {ts : TSD}
    (F : Fun K x qual st f fd) (S : FnScope N ps (defScope st)) (hn : n = ps.length) (hN : n ≤ N.length) (der : DerD P w K mg base N qual st f k ts) (hm : Meets N n sp ts) : FnOk P w K mg base CX0 (k + 1) f fd ps (spD K n sp) :=
  fnD F S hn hN fun cdv A outer s H Ex E e hr => by
    obtain ⟨K', g, h, c⟩ := E
    subst e
    exact ⟨ts, der cdv A outer s H Ex g h c hr, hm⟩
theorem calE {x : Str} {st : Stmt} {f : Addr} {fd : FuncData} {N ps : List Str} {k n : Nat} {sp : Spec} {ts : TSD}
    (F : DefD K mg x st f fd) (b : Binds K fd ps []) (S : FnScope N ps (defScope st)) (hn : n = ps.length) (hN : n ≤ N.length) (der : DerD P w K mg base N x st f k ts) (hm : Meets N n sp ts) : CalD P w K mg base (k + 1) x n sp [] :=
  ⟨[], ⟨f, fd, ps, [], fnE F.fn S hn hN der hm, F.mgf, F.kp, b, .nil⟩, fun _ => .nil⟩
theorem metE {m qual : Str} {CC : Addr} {st : Stmt} {f : Addr} {fd : FuncData} {N ps : List Str} {k n : Nat} {sp : Spec} {ts : TSD} (c : Cls K CC) (me : Meth K CC m f)
    (F : Fun K m qual st f fd) (b : Binds K fd ps []) (S : FnScope N ps (defScope st)) (hn : n = ps.length) (hN : n ≤ N.length) (der : DerD P w K mg base N qual st f k ts) (hm : Meets N n sp ts) : MetD P w K mg base (k + 1) CC m n sp :=
  ⟨⟨f, fd, ps, [], c, me, fnE F S hn hN der hm, b, .nil⟩⟩
theorem makE {x qual : Str} {CC : Addr} {st : Stmt} {f : Addr} {fd : FuncData} {N ps : List Str} {k n : Nat} {sp : Spec} {ts : TSD} (M : Mk K CC f) (hc : mg x = some (.ref CC))
    (F : Fun K "__init__" qual st f fd) (b : Binds K fd ps []) (S : FnScope N ps (defScope st)) (hn : n = ps.length) (hN : n ≤ N.length) (der : DerD P w K mg base N qual st f k ts) (hm : Meets N n sp ts) : C8.Mak P w K mg base (k + 1) x CC (spD K n sp) [] :=
  ⟨f, fd, ps, [], M, fnE F S hn hN der hm, hc, b, .nil⟩
theorem CalD.mono {j k n : Nat} {x : Str} {sp : Spec} {dds : List D} (c : CalD P w K mg base j x n sp dds) (h : j ≤ k) : CalD P w K mg base k x n sp dds := by
  obtain ⟨dvs, ⟨f, fd, ps, ds, F, r⟩, hd⟩ := c.ex
  exact ⟨dvs, ⟨f, fd, ps, ds, F.mono h, r⟩, hd⟩
theorem MetD.mono {j k n : Nat} {CC : Addr} {m : Str} {sp : Spec} (c : MetD P w K mg base j CC m n sp) (h : j ≤ k) : MetD P w K mg base k CC m n sp := by
  obtain ⟨f, fd, ps, ds, c, me, F, r⟩ := c.met
  exact ⟨⟨f, fd, ps, ds, c, me, F.mono h, r⟩⟩
end
theorem o_join {X : Cx} {K : PySem.W.Frag} (h : X.K = K := by rfl) : MtR X "str.join" (rJoin K) := h ▸ mt_join
theorem o_split {X : Cx} : MtR X "str.split" rSplit := mt_split
theorem room_units1 {k : Nat} {A : Around} (r : Room k A) : A.units + 1 < cLine := by have := r.un; omega
section
variable {X : Cx} {E : En} {pos : Pos}
theorem de_gc {x : Str} {v : V} {d : D} (hg : Gl X x) (h : ∃ u, X.mg x = some u ∧ RelV v u) (r : ∀ G, Rp E.K G v d) (hd : (x == ("__debug__" : Str)) = false := by decide) : PE X (.Name x pos) (teD E (dC d)) :=
  pe_weak (C8.pe_gc hg h hd) fun _ _ _ => m_c r
end
end Dl

set_option Elab.async false
set_option maxRecDepth 100000
set_option linter.all false
set_option maxHeartbeats 2000000
/-! KitDk: words for what readings mean: loops by an invariant over what is done; promises weakened. -/
namespace Dl
open PySem PySem.Spec PyProof.Rows L2 Evl Kx
theorem forD_pre {α : Type} {g : α → D} {tg : Tg} {body : TSD} {Z : DEnds} (I : List α → Sls → Cs → Prop) {xs : List α} {sl : Sls} {C : Cs} (h0 : I [] sl C)
    (step : ∀ done x rest sl C (N : Sls → Cs → Prop), xs = done ++ x :: rest → I done sl C → (∀ sl' C', I (done ++ [x]) sl' C' → N sl' C') → ∃ sl1, setT tg (g x) sl = some sl1 ∧ body { Z with nx := N, ct := N, bk := Z.nx } sl1 C)
    (hend : ∀ sl C, I xs sl C → Z.nx sl C) : forD tg body (xs.map g) Z sl C := by
  have key : ∀ (r done : List α) (sl : Sls) (C : Cs), xs = done ++ r → I done sl C → forD tg body (r.map g) Z sl C := by
    intro r
    induction r with
    | nil =>
      intro done sl C e h
      rw [List.append_nil] at e
      subst e
      exact hend sl C h
    | cons x r ih =>
      intro done sl C e h
      exact step done x r sl C (fun sl2 C2 => forD tg body (r.map g) Z sl2 C2) e h fun sl' C' h' => ih (done ++ [x]) sl' C' (by rw [e, List.append_assoc]; rfl) h'
  exact key xs [] sl C rfl h0
theorem lcD_pre {α : Type} {g : α → D} {tg : Tg} {tt : TTD} {te : TD} {ws : List Nat} {Q : List D → Sls → Cs → Prop} (I : List α → List D → Sls → Cs → Prop) {xs : List α} {sl : Sls} {C : Cs} (h0 : I [] [] sl C)
    (step : ∀ done x rest acc sl C (N : List D → Sls → Cs → Prop), xs = done ++ x :: rest → I done acc sl C → (∀ acc' sl' C', I (done ++ [x]) acc' sl' C' → N acc' sl' C') →
      ∃ sl1, setT tg (g x) sl = some sl1 ∧ tt sl1 C fun b sl2 C2 => if b = true then te sl2 C2 fun v sl3 C3 => fz v sl3 fun e sl4 => N (acc ++ [e]) (unS ws sl4) C3 else N acc (unS ws sl2) C2)
    (hend : ∀ acc sl C, I xs acc sl C → Q acc sl C) : lcD tg tt te ws (xs.map g) [] sl C Q := by
  have key : ∀ (r done : List α) (acc : List D) (sl : Sls) (C : Cs), xs = done ++ r → I done acc sl C → lcD tg tt te ws (r.map g) acc sl C Q := by
    intro r
    induction r with
    | nil =>
      intro done acc sl C e h
      rw [List.append_nil] at e
      subst e
      exact hend acc sl C h
    | cons x r ih =>
      intro done acc sl C e h
      exact step done x r acc sl C (fun acc2 sl2 C2 => lcD tg tt te ws (r.map g) acc2 sl2 C2 Q) e h fun acc' sl' C' h' => ih (done ++ [x]) acc' sl' C' (by rw [e, List.append_assoc]; rfl) h'
  exact key xs [] [] sl C rfl h0
/-- while: as long as the bound allows -/
theorem whD_by {c : TTD} {body : TSD} {Z : DEnds} (I : Nat → Sls → Cs → Prop) {n : Nat} {sl : Sls} {C : Cs} (h0 : I n sl C)
    (step : ∀ m sl C (N : Sls → Cs → Prop), I m sl C → (∀ j sl' C', j < m → I j sl' C' → N sl' C') → c sl C fun b sl1 C1 => if b = true then body { Z with nx := N, ct := N, bk := Z.nx } sl1 C1 else Z.nx sl1 C1) : sWh c body Z sl C := by
  have up : ∀ k, ∀ m sl C, m < k → I m sl C → whD c body k Z sl C := by
    intro k
    induction k with
    | zero => intro m sl C h; omega
    | succ k ih =>
      intro m sl C hm h
      exact step m sl C (fun sl2 C2 => whD c body k Z sl2 C2) h fun j sl' C' hj h' => ih j sl' C' (by omega) h'
  exact ⟨n + 1, up (n + 1) n sl C (Nat.lt_succ_self n) h0⟩
section
variable {P : Program} {w : World} {K : PySem.W.Frag} {mg : Str → Option Value} {base : Heap}
theorem spD_weak {n : Nat} {sp sp' : Spec} {vs : List V} {H : Hp} {Q : VK} {E : XK} (m : ∀ ds C Q, sp' ds C Q → sp ds C Q) (h : spD K n sp' vs H Q E) : spD K n sp vs H Q E := by
  obtain ⟨G, C, ds, Qd, w, r, l, q, k⟩ := h
  exact ⟨G, C, ds, Qd, w, r, l, m _ _ _ q, k⟩
theorem CalD.weak {k n : Nat} {x : Str} {sp sp' : Spec} {dds : List D} (c : CalD P w K mg base k x n sp dds) (m : ∀ ds C Q, sp' ds C Q → sp ds C Q) : CalD P w K mg base k x n sp' dds := by
  obtain ⟨dvs, ⟨f, fd, ps, ds, F, r⟩, hd⟩ := c.ex
  exact ⟨dvs, ⟨f, fd, ps, ds, FnOk.weak F fun _ _ _ _ q => spD_weak m q, r⟩, hd⟩
theorem MetD.weak {k n : Nat} {CC : Addr} {m : Str} {sp sp' : Spec} (c : MetD P w K mg base k CC m n sp) (h : ∀ ds C Q, sp' ds C Q → sp ds C Q) : MetD P w K mg base k CC m n sp' := by
  obtain ⟨f, fd, ps, ds, c, me, F, r⟩ := c.met
  exact ⟨⟨f, fd, ps, ds, c, me, FnOk.weak F fun _ _ _ _ q => spD_weak h q, r⟩⟩
/-- what is never called -/
theorem FnOk.no {x qual : Str} {st : Stmt} {f : Addr} {fd : FuncData} {N ps : List Str} {k n : Nat} {sp : Spec} (F : Fun K x qual st f fd) (S : FnScope N ps (defScope st)) (h : ∀ ds C Q, ¬ sp ds C Q) : FnOk P w K mg base CX0 (k + 1) f fd ps (spD K n sp) :=
  F.ok S (fun vs H Q E q => by obtain ⟨G, C, ds, Qd, w, r, l, q, k⟩ := q; exact (h _ _ _ q).elim) (fun cdv A outer s H vs Q E hr q => by obtain ⟨G, C, ds, Qd, w, r, l, q, k⟩ := q; exact (h _ _ _ q).elim)
theorem calNo {x : Str} {st : Stmt} {f : Addr} {fd : FuncData} {N ps : List Str} {k n : Nat} {sp : Spec} (F : DefD K mg x st f fd) (b : Binds K fd ps []) (S : FnScope N ps (defScope st)) (h : ∀ ds C Q, ¬ sp ds C Q) : CalD P w K mg base (k + 1) x n sp [] :=
  ⟨[], ⟨f, fd, ps, [], FnOk.no F.fn S h, F.mgf, F.kp, b, .nil⟩, fun _ => .nil⟩
theorem metNo {m qual : Str} {CC : Addr} {st : Stmt} {f : Addr} {fd : FuncData} {N ps : List Str} {k n : Nat} {sp : Spec} (c : Cls K CC) (me : Meth K CC m f) (F : Fun K m qual st f fd) (b : Binds K fd ps []) (S : FnScope N ps (defScope st)) (h : ∀ ds C Q, ¬ sp ds C Q) : MetD P w K mg base (k + 1) CC m n sp :=
  ⟨⟨f, fd, ps, [], c, me, FnOk.no F S h, b, .nil⟩⟩
end
/-! ### steps and bodies as data -/
mutual
def stpX : Kx.Stp → D
  | .call n => .tup [.str "call", .str n]
  | .tail n => .tup [.str "tail", .str n]
  | .check r => .tup [.str "check", .str r]
  | .back => .tup [.str "back"]
  | .either a b => .tup [.str "either", .lst (bodyX a), .lst (bodyX b)]
  | .loop b => .tup [.str "loop", .lst (bodyX b)]
  | .block m b => .tup [.str "block", .bl m, .lst (bodyX b)]
def bodyX : List Kx.Stp → List D
  | [] => []
  | s :: r => stpX s :: bodyX r
end
theorem bodyX_map : ∀ b : List Kx.Stp, bodyX b = b.map stpX
  | [] => by simp only [bodyX, List.map_nil]
  | s :: r => by simp only [bodyX, List.map_cons, bodyX_map r]
mutual
theorem ofP_stp : ∀ s : Kx.Stp, ofP (stpD s) = stpX s
  | .call n => by simp only [stpD, ofP, ofA, stpX]
  | .tail n => by simp only [stpD, ofP, ofA, stpX]
  | .check n => by simp only [stpD, ofP, ofA, stpX]
  | .back => by simp only [stpD, ofP, ofA, stpX]
  | .either a b => by simp only [stpD, ofP, ofA, stpX, ofA_body a, ofA_body b]
  | .loop a => by simp only [stpD, ofP, ofA, stpX, ofA_body a]
  | .block m a => by simp only [stpD, ofP, ofA, stpX, ofA_body a]
theorem ofA_body : ∀ b : List Kx.Stp, ofA (bodyD b) = bodyX b
  | [] => by simp only [bodyD, ofA, bodyX]
  | s :: r => by simp only [bodyD, ofA, bodyX, ofP_stp s, ofA_body r]
end
def strsX (xs : List Str) : D := .lst (xs.map .str)
def ownX (o : Own) : D := .tup [.str o.1, strsX o.2]
def fnX (f : Fn) : D := .tup [.str f.1, .str f.2.1, .lst (bodyX f.2.2)]
theorem ofA_strs : ∀ xs : List Str, ofA (xs.map PyData.str) = xs.map D.str
  | [] => by simp only [List.map_nil, ofA]
  | x :: xs => by simp only [List.map_cons, ofA, ofP, ofA_strs xs]
theorem ofP_own (o : Own) : ofP (ownD o) = ownX o := by simp only [ownD, strsD, ofP, ofA, ownX, strsX, ofA_strs]
theorem ofP_fn (o : Fn) : ofP (Kx.fnD o) = fnX o := by simp only [Kx.fnD, ofP, ofA, fnX, ofA_body]
theorem ofP_owns (os : List Own) : ofP (.list (os.map ownD)) = .lst (os.map ownX) := by
  simp only [ofP, ofA_map, List.map_map]
  congr 1
  exact List.map_congr_left fun o _ => ofP_own o
theorem ofP_fns (fs : List Fn) : ofP (.list (fs.map Kx.fnD)) = .lst (fs.map fnX) := by
  simp only [ofP, ofA_map, List.map_map]
  congr 1
  exact List.map_congr_left fun o _ => ofP_fn o
end Dl
namespace Dl
open PySem PySem.Spec PyProof.Rows L2 Evl Kx
theorem add_lst {a b : List D} (h : a.length + b.length ≤ 100000) : addD (.lst a) (.lst b) = some (.new (.lst (a ++ b))) := if_pos h
theorem add_str {a b : Str} (h : a.length + b.length ≤ 1000000) : addD (.str a) (.str b) = some (.dat (.str (a ++ b))) := if_pos h
theorem iteN {c : Bool} {A B : Prop} (h : c = false) (q : B) : if c = true then A else B := by
  rw [h]
  exact iteF q
theorem iteY {c : Bool} {A B : Prop} (h : c = true) (q : A) : if c = true then A else B := by
  rw [h]
  exact iteT q
theorem map_appL {a b : List Str} : (a.map D.str) ++ (b.map D.str) = (a ++ b).map D.str := (List.map_append ..).symm
end Dl

set_option Elab.async false
set_option maxRecDepth 100000
set_option linter.all false
set_option maxHeartbeats 2000000
/-! KitDl: promises over heaps as promises over data. -/
namespace Dl
open PySem PySem.Spec PyProof.Rows L2 Evl Kx
section
variable {K : PySem.W.Frag} {G H H2 M : Hp} {C : Cs}
theorem new_wi (w : WI K G H C) (k : New H H2 M) : WI K (join G M) H2 C ∧ Mv G H C (join G M) H2 C ∧ Ex M (join G M) := by
  have gm : ∀ a o, M a = some o → G a = none := fun a o h => by
    cases e : G a with
    | none => rfl
    | some u => have := k.fr a u (w.gh a u e); rw [h] at this; cases this
  refine ⟨⟨fun a o h => ?_, fun x hx => ?_, w.nd, w.sy.mono (same_ex join_l)⟩, ⟨join_l, fun a o h _ => k.hh a o h, fun a o h => ⟨o, k.hh a o h⟩, fun a o h => ?_, fun a h => .inl h⟩, fun a o h => join_r h (gm a o h)⟩
  · rcases join_inv h with h | ⟨_, h⟩
    · exact k.hh a o (w.gh a o h)
    · exact k.mh a o h
  · obtain ⟨q1, q2⟩ := w.cs x hx
    obtain ⟨o, e⟩ := q2.is
    exact ⟨join_none q1 (k.fr _ _ e), q2.keep join_l ((k.hh _ _ e).trans e.symm)⟩
  · unfold join
    cases e : G a with
    | none => exact k.fr a o h
    | some u => rfl
/-- a cell is written -/
theorem wi_put {a : Addr} {c c0 : Cell} {ho : HO} (w : WI K G H C) (hg : getC C a = some c0) (q : CeO K G (upd H a ho) a c) : WI K G (upd H a ho) (putC C a c) ∧ Mv G H C G (upd H a ho) (putC C a c) := by
  have ab : Ab K G H C G H C (startD [] []) (L2.start [] []) := ab_start (N := []) w .nil (Nat.le_refl _)
  obtain ⟨a2, _⟩ := Ab.wrC (E := ⟨K, G, H, C⟩) ab hg q
  exact ⟨a2.wi, a2.mv⟩
end
section
variable {P : Program} {w : World} {K : PySem.W.Frag} {mg : Str → Option Value} {base : Heap}
/-- a def that may raise, where it doesn't -/
theorem FnOk.calm {k : Nat} {f : Addr} {fd : FuncData} {ps : List Str} {sp sp' : Sp} (F : FnOk P w K mg base (L2.CX P w) k f fd ps sp) (h : ∀ vs H Q E, sp' vs H Q E → sp vs H Q fun _ _ _ => False) : FnOk P w K mg base CX0 k f fd ps sp' :=
  ⟨fun vs H Q E q => F.len vs H Q _ (h _ _ _ _ q), fun A o s H a us vs Q E hr e0 hb r q => codeAny_mono (F.run A o s H a us vs Q (fun _ _ _ => False) hr e0 hb r (h _ _ _ _ q)) fun r s' z => by
    cases r with
    | ok fl => cases fl with
      | ret u => exact z
      | next => exact z
      | brk => exact z
      | cont => exact z
    | error e =>
      obtain ⟨a, B, H', cls, d, e1, e2, e3, e4, e5, e6, e7, e8⟩ := z
      exact e8.elim⟩
theorem calF {x : Str} {f : Addr} {fd : FuncData} {ps : List Str} {k n : Nat} {sp : Spec} {sp0 : Sp} (F : FnOk P w K mg base CX0 k f fd ps sp0) (hm : mg x = some (.ref f)) (kp : PySem.W.keepIn K (.ref f) = true) (b : Binds K fd ps [])
    (h : ∀ vs H Q E, spD K n sp vs H Q E → sp0 vs H Q E) : CalD P w K mg base k x n sp [] :=
  ⟨[], ⟨f, fd, ps, [], FnOk.weak F h, hm, kp, b, .nil⟩, fun _ => .nil⟩
theorem metF {CC : Addr} {m : Str} {f : Addr} {fd : FuncData} {ps : List Str} {k n : Nat} {sp : Spec} {sp0 : Sp} (c : Cls K CC) (me : Meth K CC m f) (F : FnOk P w K mg base CX0 k f fd ps sp0) (b : Binds K fd ps [])
    (h : ∀ vs H Q E, spD K n sp vs H Q E → sp0 vs H Q E) : MetD P w K mg base k CC m n sp :=
  ⟨⟨f, fd, ps, [], c, me, FnOk.weak F h, b, .nil⟩⟩
end
end Dl

set_option Elab.async false
set_option maxRecDepth 100000
set_option linter.all false
set_option maxHeartbeats 4000000
namespace Lx
open PySem PySem.Spec PyProof.Rows L2 Evl Kx
open Dl hiding Stp Spec
/-! ### programs and generators as data -/
def progX (K : PySem.W.Frag) (CP : Addr) (q : Prt) : D := .obj fun a G => ProgAt K CP G a q
theorem prog_inv {K : PySem.W.Frag} {CP : Addr} {G : Hp} {v : V} {q : Prt} (h : Rp K G v (progX K CP q)) : ∃ a, v = .ref a ∧ ProgAt K CP G a q := by
  cases h with
  | obj h _ => exact ⟨_, rfl, h⟩
theorem prog_rp {K : PySem.W.Frag} {CP p : Addr} {G : Hp} {q : Prt} (h : ProgAt K CP G p q) : Rp K G (.ref p) (progX K CP q) := .obj h fun _ _ e h => h.mono e
theorem recv_prog {K : PySem.W.Frag} {CP : Addr} {q : Prt} {C : Cs} {m : Str} (h : ∀ a1 a2 a3, (progF a1 a2 a3).lookup m = none) : RecvD CP m C (progX K CP q) := fun a G ⟨dx, a1, a2, a3, h0, _⟩ => ⟨dx, _, h0, h _ _ _⟩
theorem nl_r (a1 a2 a3 : Addr) : (progF a1 a2 a3).lookup ("rights" : Str) = none := by
  simp only [progF, List.lookup, show (("rights" : Str) == "_rights") = false by decide +kernel, show (("rights" : Str) == "_owners") = false by decide +kernel, show (("rights" : Str) == "_functions") = false by decide +kernel]
theorem nl_o (a1 a2 a3 : Addr) : (progF a1 a2 a3).lookup ("owners" : Str) = none := by
  simp only [progF, List.lookup, show (("owners" : Str) == "_rights") = false by decide +kernel, show (("owners" : Str) == "_owners") = false by decide +kernel, show (("owners" : Str) == "_functions") = false by decide +kernel]
theorem nl_f (a1 a2 a3 : Addr) : (progF a1 a2 a3).lookup ("functions" : Str) = none := by
  simp only [progF, List.lookup, show (("functions" : Str) == "_rights") = false by decide +kernel, show (("functions" : Str) == "_owners") = false by decide +kernel, show (("functions" : Str) == "_functions") = false by decide +kernel]
def spRiX (K : PySem.W.Frag) (CP : Addr) : Dl.Spec := fun ds C Q => ∃ q, ds = [progX K CP q] ∧ Q (strsX q.rs) C
def spOsX (K : PySem.W.Frag) (CP : Addr) : Dl.Spec := fun ds C Q => ∃ q, ds = [progX K CP q] ∧ q.os.length ≤ 4096 ∧ Q (.lst (q.os.map ownX)) C
def spFsX (K : PySem.W.Frag) (CP : Addr) (d : Nat) : Dl.Spec := fun ds C Q => ∃ q, ds = [progX K CP q] ∧ PrtLe d q ∧ Q (.lst (q.fs.map fnX)) C
def spNpX (K : PySem.W.Frag) (CP : Addr) : Dl.Spec := fun ds C Q => ∃ q, ds = [progX K CP q] ∧ Q .non C
def spRndX : Dl.Spec := fun ds C Q => ∃ (g : Addr) (m : Int) (n : Nat), ds = [.ref g, .int m] ∧ getC C g = some (.gen n) ∧ n < 2 ^ 50 ∧ (1 ≤ m ∧ m < 2 ^ 59) ∧ ∀ r : Int, 0 ≤ r ∧ r < m → Q (.int r) (putC C g (.gen (n + 2)))
section
variable {K : PySem.W.Frag} {CP CI : Addr} {vs : List V} {H : Hp} {Q : VK} {E : XK}
theorem ri_X (h : spD K 1 (spRiX K CP) vs H Q E) : spRi K CP vs H Q E := by
  obtain ⟨G, C, ds, Qd, w, r, _, ⟨q, rfl, h⟩, k⟩ := h
  cases r with
  | cons r1 rs =>
  cases rs
  obtain ⟨a, rfl, hp⟩ := prog_inv r1
  refine ⟨a, q, rfl, hp.mono w.gh, fun l H2 M n m => ?_⟩
  obtain ⟨w2, mv, em⟩ := new_wi w n
  exact k (.ref l) _ _ H2 C w2 mv (.lst (em _ _ m) (rpa_strs _)) h
theorem os_X (h : spD K 1 (spOsX K CP) vs H Q E) : spOs K CP vs H Q E := by
  obtain ⟨G, C, ds, Qd, w, r, _, ⟨q, rfl, hl, h⟩, k⟩ := h
  cases r with
  | cons r1 rs =>
  cases rs
  obtain ⟨a, rfl, hp⟩ := prog_inv r1
  refine ⟨a, q, rfl, hp.mono w.gh, hl, fun l H2 M n m => ?_⟩
  obtain ⟨w2, mv, em⟩ := new_wi w n
  exact k (.ref l) _ _ H2 C w2 mv (by rw [← ofP_owns]; exact rp_of (m.dq.mono (same_ex em))) h
theorem fs_X {d : Nat} (h : spD K 1 (spFsX K CP d) vs H Q E) : spFs K CP d vs H Q E := by
  obtain ⟨G, C, ds, Qd, w, r, _, ⟨q, rfl, hl, h⟩, k⟩ := h
  cases r with
  | cons r1 rs =>
  cases rs
  obtain ⟨a, rfl, hp⟩ := prog_inv r1
  refine ⟨a, q, rfl, hp.mono w.gh, hl, fun l H2 M n m => ?_⟩
  obtain ⟨w2, mv, em⟩ := new_wi w n
  exact k (.ref l) _ _ H2 C w2 mv (by rw [← ofP_fns]; exact rp_of (m.dq.mono (same_ex em))) h
theorem np_X (h : spD K 1 (spNpX K CP) vs H Q E) : spNp K CP CI vs H Q fun _ _ _ => False := by
  obtain ⟨G, C, ds, Qd, w, r, _, ⟨q, rfl, h⟩, k⟩ := h
  cases r with
  | cons r1 rs =>
  cases rs
  obtain ⟨a, rfl, hp⟩ := prog_inv r1
  exact ⟨_, rfl, .inl ⟨a, q, rfl, hp.mono w.gh, k .non .non G H C w Mv.refl .non h⟩⟩
theorem rnd_X (h : spD K 2 spRndX vs H Q E) : spRnd vs H Q E := by
  obtain ⟨G, C, ds, Qd, w, r, _, ⟨g, m, n, rfl, hg, hn, hm, h⟩, k⟩ := h
  cases r with
  | cons r1 rs =>
  cases rs with
  | cons r2 rs =>
  cases rs
  cases r1
  cases r2
  have hc : GenAt H g n := (w.cs _ (getC_mem hg)).2
  refine ⟨g, n, m, rfl, hc, hn, hm, fun r H' o hr e hg' => ?_⟩
  subst e
  obtain ⟨w2, mv⟩ := wi_put (ho := o) (c := .gen (n + 2)) w hg hg'
  exact k (.int r) (.int r) G _ _ w2 mv (.int r) (h r hr)
end
end Lx

set_option Elab.async false
set_option maxRecDepth 100000
set_option linter.all false
set_option maxHeartbeats 4000000
namespace Lx
open PySem PySem.Spec PyProof.Rows L2 Evl Kx
open Dl hiding Stp Spec
/-! ### a program made of data -/
/-- Program may be called: what it then makes, where the parts are such that it does -/
structure MakP (P : Program) (w : World) (K : PySem.W.Frag) (mg : Str → Option Value) (base : Heap) (k : Nat) (CP : Addr) (ok : Prt → Prop) : Prop where
  ex : ∃ (n d j : Nat) (CL CI fI : Addr) (fdI : FuncData), j + 1 ≤ k ∧ Mk K CP fI ∧ FnOk P w K mg base (L2.CX P w) j fI fdI ["self", "rights", "owners", "functions"] (spInit K n d CP CL CI) ∧ Binds K fdI ["self", "rights", "owners", "functions"] [] ∧ mg "Program" = some (.ref CP) ∧ ∀ q, ok q → Good n d q
def dMakeP (K : PySem.W.Frag) (CP : Addr) (ok : Prt → Prop) (tr : TAD) : TD := fun sl C Q => tr sl C fun ds sl1 C1 => ∃ q, ds = [strsX q.rs, .lst (q.os.map ownX), .lst (q.fs.map fnX)] ∧ ok q ∧ Q (.dat (progX K CP q)) sl1 C1
mutual
theorem key_stp : ∀ s : Kx.Stp, keyOk (stpD s) = true
  | .call n => by simp only [stpD, keyOk, keyOkA, Bool.and_self]
  | .tail n => by simp only [stpD, keyOk, keyOkA, Bool.and_self]
  | .check n => by simp only [stpD, keyOk, keyOkA, Bool.and_self]
  | .back => by simp only [stpD, keyOk, keyOkA, Bool.and_self]
  | .either a b => by simp only [stpD, keyOk, keyOkA, key_body a, key_body b, Bool.and_self]
  | .loop a => by simp only [stpD, keyOk, keyOkA, key_body a, Bool.and_self]
  | .block m a => by simp only [stpD, keyOk, keyOkA, key_body a, Bool.and_self]
theorem key_body : ∀ b : List Kx.Stp, keyOkA (bodyD b) = true
  | [] => by simp only [bodyD, keyOkA]
  | s :: r => by simp only [bodyD, keyOkA, key_stp s, key_body r, Bool.and_self]
end
theorem key_all {ds : List PyData} (h : ∀ d ∈ ds, keyOk d = true) : keyOkA ds = true := by
  induction ds with
  | nil => simp only [keyOkA]
  | cons d r ih => simp only [keyOkA, h d List.mem_cons_self, ih fun x hx => h x (List.mem_cons_of_mem _ hx), Bool.and_self]
theorem key_strs (xs : List Str) : keyOk (strsD xs) = true := by
  unfold strsD
  simp only [keyOk]
  refine key_all fun d hd => ?_
  obtain ⟨x, _, rfl⟩ := List.mem_map.mp hd
  simp only [keyOk]
theorem key_owns (os : List Own) : keyOk (.list (os.map ownD)) = true := by
  simp only [keyOk]
  refine key_all fun d hd => ?_
  obtain ⟨x, _, rfl⟩ := List.mem_map.mp hd
  simp only [ownD, keyOk, keyOkA, key_strs, Bool.and_self]
theorem key_fns (fs : List Fn) : keyOk (.list (fs.map Kx.fnD)) = true := by
  simp only [keyOk]
  refine key_all fun d hd => ?_
  obtain ⟨x, _, rfl⟩ := List.mem_map.mp hd
  simp only [Kx.fnD, keyOk, keyOkA, key_body, Bool.and_self]
theorem dq_owns {K : PySem.W.Frag} {G : Hp} {v : V} {os : List Own} (h : Rp K G v (.lst (os.map ownX))) : Dq K G v (.list (os.map ownD)) := by
  rw [← ofP_owns] at h
  exact dq_toP (toP_ofP (key_owns os)) h
theorem dq_fns {K : PySem.W.Frag} {G : Hp} {v : V} {fs : List Fn} (h : Rp K G v (.lst (fs.map fnX))) : Dq K G v (.list (fs.map Kx.fnD)) := by
  rw [← ofP_fns] at h
  exact dq_toP (toP_ofP (key_fns fs)) h
theorem dq_ref {K : PySem.W.Frag} {G : Hp} {v : V} {ds : List PyData} (h : Dq K G v (.list ds)) : ∃ b, v = .ref b := by
  cases h
  exact ⟨_, rfl⟩
theorem strs_inv {K : PySem.W.Frag} {G : Hp} {v : V} {xs : List Str} (h : Rp K G v (strsX xs)) : ∃ a, v = .ref a ∧ G a = some (.lst (xs.map V.str)) := by
  unfold strsX at h
  cases h with
  | lst h1 h2 =>
    rw [strsOf_rp (strsOf_map xs) h2] at h1
    exact ⟨_, rfl, h1⟩
section
variable {X : Cx} {E : En} {e : Expr} {es : List Expr} {tr : TAD} {pos p : Pos} {σ : L2.St} {H : Hp}
theorem m_makeP {n d : Nat} {CP CL CI : Addr} {ok : Prt → Prop} {Q : VK} (hok : ∀ q, ok q → Good n d q) (h : teD E (dMakeP E.K CP ok tr) σ H Q) : tMake CP (fun vs H Q _ => spInit E.K n d CP CL CI vs H Q fun _ _ _ => False) [] E0 (taD E tr) σ H Q := by
  obtain ⟨G, sl, C, Qd, ab, t, k⟩ := h
  refine ⟨G, sl, C, _, ab, t, fun vs ds G1 H1 sl1 C1 a1 s1 rs q => fun p dx hp hd ne => ?_⟩
  obtain ⟨q, rfl, hq, kq⟩ := q
  cases rs with
  | cons r1 rs =>
  cases rs with
  | cons r2 rs =>
  cases rs with
  | cons r3 rs =>
  cases rs
  obtain ⟨b1, rfl, h1⟩ := strs_inv r1
  have d2 := dq_owns r2
  have d3 := dq_fns r3
  obtain ⟨b2, rfl⟩ := dq_ref d2
  obtain ⟨b3, rfl⟩ := dq_ref d3
  have e1 := a1.wi.gh
  refine init_k hp hd ne (hok q hq) (e1 _ _ h1) (d2.mono (same_ex e1)) (d3.mono (same_ex e1)) fun H2 M nw pa => ⟨rfl, ?_⟩
  obtain ⟨w2, mv, em⟩ := new_wi a1.wi nw
  exact k (.ref p) (.dat _) _ H2 sl1 C1 (a1.go w2 mv) (s1.trans (a1.stp mv)) (prog_rp (pa.mono em)) trivial kq
theorem de_makeP {k j : Nat} {CP : Addr} {ok : Prt → Prop} (c : MakP X.prog X.w X.K X.mg X.base k CP ok) (hr : Room j X.A) (hk : k ≤ j) (hg : Gl X "Program") (ha : PA X (e :: es) (taD E tr)) (h : X.K = E.K := by rfl)
    (he : starEach (e :: es) X.env = (false, eval e X.env) :: starEach es X.env := by rfl) (hpl : (backTo pos (starEach es X.env)).any (·.1) = false := by rfl) :
    PE X (.Call (.Name "Program" p) (e :: es) [] pos) (teD E (dMakeP E.K CP ok tr)) := by
  obtain ⟨n, d, i, CL, CI, fI, fdI, hi, M, F, b, hm, hok⟩ := c.ex
  exact pe_weak (pe_make M (FnOk.calm F (sp' := fun vs H Q _ => spInit X.K n d CP CL CI vs H Q fun _ _ _ => False) fun _ _ _ _ q => q) (hr.mono (by omega)) hg hm b .nil pass0 ha (by decide) he hpl) fun _ _ _ q => by
    rw [h]
    exact m_makeP hok q
theorem ds_try {body : List Stmt} {hs : List ExceptHandler} {h0 : ExceptHandler} {s1 : TSD} (hb : PSs X.nox body (tsD E s1)) : PS X (.Try body (h0 :: hs) [] [] pos) (tsD E s1) := ps_try_thru0 hb
end
end Lx

set_option Elab.async false
set_option maxRecDepth 100000
set_option linter.all false
set_option maxHeartbeats 2000000
/-! KitDn: a refusal caught and held: try: f(..) except C as n: x = n; the thing it holds. -/
namespace Dl
open PySem PySem.Spec PyProof.Rows L2 Evl Kx
def excX (K : PySem.W.Frag) (CE : Addr) (f : Str) (d : D) : D := .obj fun a G => ∃ dx v, XAt G a CE (some dx) ∧ FAt G dx [(f, v)] ∧ Rp K G v d
theorem exc_mono {K : PySem.W.Frag} {CE : Addr} {f : Str} {d : D} {a : Addr} : ∀ G1 G2 : Hp, Ex G1 G2 → (∃ dx v, XAt G1 a CE (some dx) ∧ FAt G1 dx [(f, v)] ∧ Rp K G1 v d) → ∃ dx v, XAt G2 a CE (some dx) ∧ FAt G2 dx [(f, v)] ∧ Rp K G2 v d :=
  fun _ _ e ⟨dx, v, h1, h2, h3⟩ => ⟨dx, v, h1.mono (same_ex e), h2.mono (same_ex e), h3.mono e⟩
/-- what a call refuses: the class and the thing held -/
abbrev SpecX := List D → Cs → (Addr → D → Prop) → Prop
def RefD (f : Str) (H : Hp) (E : XK) (C : Addr) (v : V) : Prop := ∀ H1, Ex H H1 → ∀ d H2, XFly H1 H2 d f v → E (.ref C) (some d) H2
structure spXD (K : PySem.W.Frag) (f : Str) (n : Nat) (sx : SpecX) (vs : List V) (H : Hp) (Q : VK) (E : XK) : Prop where
  mk' ::
  out : ∃ (G : Hp) (C : Cs) (ds : List D) (Qe : Addr → D → Prop), WI K G H C ∧ RpA K G vs ds ∧ ds.length = n ∧ sx ds C Qe ∧ ∀ CE v d, Rp K G v d → Qe CE d → RefD f H E CE v
section
variable {X : Cx} {E : En} {e : Expr} {es : List Expr} {tr : TAD} {td : TD} {pos pos' : Pos} {σ : L2.St} {G H : Hp} {C : Cs} {sl : Sls}
def sCatch (K : PySem.W.Frag) (f : Str) (n : Nat) (sx : SpecX) (hit : Addr → Prop) (i j : Nat) (tr : TAD) : TSD := fun Z sl C => tr sl C fun ds sl1 C1 => ds.length = n ∧ sx ds C1 fun CE d => hit CE ∧ i < sl1.length ∧ j < sl1.length ∧ i ≠ j ∧ Z.nx ((sl1.set j (.va (excX K CE f d))).set i .un) C1
theorem Ab.unset {i : Nat} (a : E.Ab G H C sl σ) : E.Ab G H C (sl.set i .un) (σ.set i none) := by
  have hl := a.len
  have f : ∀ {j : Nat} {x : Sl}, (sl.set i .un)[j]? = some x → x ≠ .un → j ≠ i ∧ sl[j]? = some x := fun {j x} h n => by
    rcases set_inv h with ⟨_, z⟩ | z
    · exact absurd z n
    · exact z
  refine ⟨a.wi, a.mv, by rw [List.length_set, List.length_set]; exact hl, fun j d h => ?_, fun j o h => ?_, fun j1 j2 p o1 o2 h1 h2 e1 e2 => ?_⟩
  · obtain ⟨n, z⟩ := f h (by intro z; cases z)
    obtain ⟨v, e, q⟩ := a.va j d z
    exact ⟨v, by rw [List.getElem?_set_ne (Ne.symm n)]; exact e, q⟩
  · obtain ⟨n, z⟩ := f h (by intro z; cases z)
    obtain ⟨p, e, q⟩ := a.ow j o z
    exact ⟨p, by rw [List.getElem?_set_ne (Ne.symm n)]; exact e, q⟩
  · obtain ⟨n1, z1⟩ := f h1 (by intro z; cases z)
    obtain ⟨n2, z2⟩ := f h2 (by intro z; cases z)
    rw [List.getElem?_set_ne (Ne.symm n1)] at e1
    rw [List.getElem?_set_ne (Ne.symm n2)] at e2
    exact a.dj j1 j2 p o1 o2 z1 z2 e1 e2
theorem new_exc {H H1 H2 : Hp} {a d C : Addr} {f : Str} {v : V} (e : Ex H H1) (x : XFly H1 H2 d f v) (na : H2 a = none) :
    ∃ M, New H (upd H2 a (exk a C (some d))) M ∧ XAt M a C (some d) ∧ FAt M d [(f, v)] := by
  have h12 : Ex H1 H2 := x.s
  have e2 : Ex H (upd H2 a (exk a C (some d))) := (e.trans h12).trans (Ex.new na)
  have ne : d ≠ a := ne_of_none x.o na
  have hd : H d = none := fresh_back e x.n
  have ha : H a = none := fresh_back (e.trans h12) na
  refine ⟨upd (upd emp d (exd d [(f, v)])) a (exk a C (some d)), ⟨e2, fun b o h => ?_, fun b o h => ?_⟩, xat_exk upd_same, .inl (by rw [upd_ne ne]; exact upd_same)⟩
  · by_cases z : b = a
    · rw [z, upd_same] at h ⊢
      exact h
    · rw [upd_ne z] at h ⊢
      by_cases z2 : b = d
      · rw [z2, upd_same] at h
        rw [z2, ← h]
        exact x.o
      · rw [upd_ne z2] at h
        cases h
  · rw [upd_ne (ne_of_none h ha), upd_ne (ne_of_none h hd)]
    rfl
theorem ds_catch {k n i j : Nat} {x y nm c : Str} {fl : Str} {sx : SpecX} {cv : Value} {f : Addr} {fd : FuncData} {ps : List Str} {Wout : WX} {p p2 np p3 p4 p5 p6 : Pos}
    (hx : X.ex = []) (hs : X.stack = X.env :: X.outer) (hf : X.env.frame = some X.env.locals) (hN : X.N.Nodup) (hi : X.N[i]? = some nm) (hln : X.env.kindOf nm = some .local) (hj : X.N[j]? = some c) (hjl : X.env.kindOf c = some .local) (hc : Names X y cv) (tk : Takes X Wout)
    (F : FnOk X.prog X.w X.K X.mg X.base (L2.CX X.prog X.w) k f fd ps (spXD E.K fl n sx)) (hr : Room k X.A) (hg : ∀ pn xe, Gl (X.tr pn xe) x) (hm : X.mg x = some (.ref f)) (hk : PySem.W.keepIn X.K (.ref f) = true) (hb : Binds X.K fd ps [])
    (ha : ∀ pn xe, PA (X.tr pn xe) (e :: es) (taD E tr)) (hij : i ≠ j)
    (hset : ∀ (a : Addr) (oe : Obj) (CE : Addr) (d : Option Addr) (pn : List (Addr × Obj)), PSs (X.suite a ((a, oe) :: pn)) [.Assign [.Name c p4] (.Name nm p5) p6] (tAsg (tVar i) (gName j))) (h : X.K = E.K := by rfl)
    (hdb : (x == ("__debug__" : Str)) = false := by decide) (he : ∀ pn xe, starEach (e :: es) (X.tr pn xe).env = (false, eval e (X.tr pn xe).env) :: starEach es (X.tr pn xe).env := by intro _ _; rfl) (hpl : ∀ pn xe, (backTo p (starEach es (X.tr pn xe).env)).any (·.1) = false := by intro _ _; rfl)
    (hsw : ∀ pn xe, swapsWith (.Call (.Name x p2) (e :: es) [] p) none p3.line (X.tr pn xe).env = pure false := by intro _ _; rfl) :
    PS X (.Try [.Expr (.Call (.Name x p2) (e :: es) [] p) p3] [.ExceptHandler (some (.Name y np)) (some nm) [.Assign [.Name c p4] (.Name nm p5) p6] pos] [] [] pos') (tsD E (sCatch E.K fl n sx (fun CE => PySem.W.exmOne E.K (.ref CE) cv = some true) i j tr)) := by
  refine ps_weak (ps_try_keep hx hs hf hN hi hln hc tk (fun W pn xe tk' _ => pss_one (ps_expr (pe_callS (X := X.tr pn xe) F hr (hg pn xe) hm hk hb (fun σ => passAt tk' σ) (ha pn xe) hdb (he pn xe) (hpl pn xe)) (hsw pn xe)))
    (fun a oe CE d pn hz hf' => hset a oe CE d pn)) fun Z σ H q => ?_
  obtain ⟨G, sl, C, DD, ab, t, k1, k2, k3, k4⟩ := q
  refine ⟨G, sl, C, _, ab, t, fun vs ds G1 H1 sl1 C1 a1 s1 rs q => ?_⟩
  obtain ⟨hn, q⟩ := q
  refine ⟨G1, C1, ds, _, a1.wi, rs, hn, q, fun CE v d rv ⟨hit, hi1, hj1, _, q⟩ H2 e2 dd H3 xf => ?_⟩
  rw [h]
  refine ⟨CE, true, rfl, hit, fun _ a na => ?_, fun z => nomatch z⟩
  obtain ⟨M, nw, hX, hF⟩ := new_exc (C := CE) (a := a) e2 xf na
  obtain ⟨w2, mv, em⟩ := new_wi a1.wi nw
  have hl := a1.len
  refine ⟨.ref a, by rw [List.getElem?_set_self (by rw [← hl]; exact hi1)], ?_⟩
  have a2 := a1.go w2 mv
  have r2 : Rp E.K (join G1 M) (.ref a) (excX E.K CE fl d) := .obj ⟨dd, v, hX.mono (same_ex em), hF.mono (same_ex em), rv.mono mv.gg⟩ exc_mono
  have a3 := Ab.setVa a2 r2 (i := j) (by rw [← hl]; exact hj1)
  have a4 := Ab.unset (i := i) a3
  have e4 : (((σ.set i (some (V.ref a))).set j (some (V.ref a))).set i none) = ((σ.set j (some (V.ref a))).set i none) := by
    rw [List.set_comm _ _ hij, List.set_set]
  show Z.nx ((((σ.set i (some (V.ref a))).set j (some (V.ref a))).set i none)) _
  rw [e4]
  exact k1 _ _ _ _ _ a4 (s1.gg.trans mv.gg) q
/-- the thing held -/
def dXat (K : PySem.W.Frag) (f : Str) (t : TD) : TD := fun sl C Q => t sl C fun r sl1 C1 => ∃ CE d, look sl1 r = excX K CE f d ∧ ExcC K CE ∧ PySem.W.findIn K (.ref CE) f = some none ∧ Q (.dat d) sl1 C1
theorem m_xat {f : Str} {Q : VK} (h : teD E (dXat E.K f td) σ H Q) : tXat E.K f (teD E td) σ H Q := by
  obtain ⟨G, sl, C, Qd, ab, t, k⟩ := h
  refine ⟨G, sl, C, _, ab, t, fun v r G1 H1 sl1 C1 a1 s1 v1 n1 q => ?_⟩
  obtain ⟨CE, d, e1, e2, e3, q⟩ := q
  have u := v1.ru a1
  rw [e1] at u
  have u := u.flat (fun o => by cases o <;> intro z <;> cases z)
  cases u with
  | obj hp _ =>
    obtain ⟨dx, w, h1, h2, h3⟩ := hp
    have ex := same_ex a1.wi.gh
    exact ⟨_, CE, dx, _, w, rfl, h1.mono ex, h2.mono ex, e2, e3, by simp [List.lookup], k w (.dat d) G1 H1 sl1 C1 a1 s1 h3 trivial q⟩
theorem de_xat {f : Str} (he : PE X e (teD E td)) (h : X.K = E.K := by rfl) (hb : attributeBase e f X.env (eval e X.env) = eval e X.env := by rfl) : PE X (.Attribute e f pos) (teD E (dXat E.K f td)) :=
  pe_weak (h ▸ pe_xat he hb) fun _ _ _ => m_xat
end
end Dl

set_option Elab.async false
set_option maxRecDepth 100000
set_option linter.all false
set_option maxHeartbeats 4000000
namespace Lx
open PySem PySem.Spec PyProof.Rows L2 Evl Kx
open Dl hiding Stp Spec
/-- what the text says of == of programs -/
structure EqP (P : Program) (w : World) (K : PySem.W.Frag) (mg : Str → Option Value) (base : Heap) (CP : Addr) : Prop where
  T : PTxt K mg CP
  I : PIsi K CP
  nf : PySem.W.notFirst K CP (.ref CP) = true
  ex : ∃ f fd, OwnE K CP f ∧ FnOk P w K mg base CX0 1 f fd ["self", "other"] (spEqP K CP) ∧ Binds K fd ["self", "other"] []
section
variable {X : Cx} {E : En} {a b : Expr} {ta tb : TD} {pos : Pos} {σ : L2.St} {H : Hp} {CP : Addr}
/-- two programs compared; neg: by != -/
def dEqP (K : PySem.W.Frag) (CP : Addr) (neg : Bool) (ta tb : TD) : TD := fun sl C Q => ta sl C fun x sl1 C1 => tb sl1 C1 fun y sl2 C2 => ∃ q1 q2, look sl2 x = progX K CP q1 ∧ look sl2 y = progX K CP q2 ∧ ShP q1 ∧ ShP q2 ∧ Q (.dat (.bl (cond neg (!sameP q1 q2) (sameP q1 q2)))) sl2 C2
theorem prog_ru {K : PySem.W.Frag} {G H : Hp} {v : V} {q : Prt} (h : Ru K G H v (progX K CP q)) : ∃ p, v = .ref p ∧ ProgAt K CP G p q := prog_inv (h.flat (fun o => by cases o <;> intro z <;> cases z))
theorem m_eqP {Q : VK} (T : Cls E.K CP) (I : PIsi E.K CP) (nf : PySem.W.notFirst E.K CP (.ref CP) = true) (h : teD E (dEqP E.K CP false ta tb) σ H Q) : tOp (rEqO E.K CP (spEqP E.K CP) E0) (teD E ta) (teD E tb) σ H Q := by
  obtain ⟨G, sl, C, Qd, ab, t, k⟩ := h
  refine ⟨G, sl, C, _, ab, t, fun x rx G1 H1 sl1 C1 a1 s1 v1 _ t1 => ⟨G1, sl1, C1, _, a1, t1, fun y ry G2 H2 sl2 C2 a2 s2 v2 _ t2 => ?_⟩⟩
  obtain ⟨q1, q2, e1, e2, h1, h2, q⟩ := t2
  have u1 := (v1.step s2).ru a2
  have u2 := v2.ru a2
  rw [e1] at u1
  rw [e2] at u2
  obtain ⟨p1, rfl, g1⟩ := prog_ru u1
  obtain ⟨p2, rfl, g2⟩ := prog_ru u2
  have g1 := g1.mono a2.wi.gh
  have g2 := g2.mono a2.wi.gh
  obtain ⟨dx, b1, b2, b3, i1, _⟩ := id g1
  obtain ⟨dy, c1, c2, c3, i2, _⟩ := id g2
  exact ⟨p1, dx, _, .ref CP, rfl, i1, .base (.ins i2 T I.ha I.hn I.ht I.hm), nf, ⟨p1, _, q1, rfl, g1, h1, .inl ⟨p2, q2, rfl, g2, h2, _, rfl, k (.bl _) (.dat (.bl _)) G2 H2 sl2 C2 a2 (s1.trans s2) (.bl _) trivial q⟩⟩⟩
theorem m_neP {Q : VK} (T : Cls E.K CP) (I : PIsi E.K CP) (nf : PySem.W.notFirst E.K CP (.ref CP) = true) (h : teD E (dEqP E.K CP true ta tb) σ H Q) : tOp (rNeO E.K CP (spEqP E.K CP) E0) (teD E ta) (teD E tb) σ H Q := by
  obtain ⟨G, sl, C, Qd, ab, t, k⟩ := h
  refine ⟨G, sl, C, _, ab, t, fun x rx G1 H1 sl1 C1 a1 s1 v1 _ t1 => ⟨G1, sl1, C1, _, a1, t1, fun y ry G2 H2 sl2 C2 a2 s2 v2 _ t2 => ?_⟩⟩
  obtain ⟨q1, q2, e1, e2, h1, h2, q⟩ := t2
  have u1 := (v1.step s2).ru a2
  have u2 := v2.ru a2
  rw [e1] at u1
  rw [e2] at u2
  obtain ⟨p1, rfl, g1⟩ := prog_ru u1
  obtain ⟨p2, rfl, g2⟩ := prog_ru u2
  have g1 := g1.mono a2.wi.gh
  have g2 := g2.mono a2.wi.gh
  obtain ⟨dx, b1, b2, b3, i1, _⟩ := id g1
  obtain ⟨dy, c1, c2, c3, i2, _⟩ := id g2
  exact ⟨p1, dx, _, .ref CP, rfl, i1, .base (.ins i2 T I.ha I.hn I.ht I.hm), nf, ⟨p1, _, q1, rfl, g1, h1, .inl ⟨p2, q2, rfl, g2, h2, _, rfl, k (.bl _) (.dat (.bl _)) G2 H2 sl2 C2 a2 (s1.trans s2) (.bl _) trivial q⟩⟩⟩
theorem de_eqP {j : Nat} (c : EqP X.prog X.w X.K X.mg X.base CP) (hr : Room j X.A) (hj : 1 ≤ j) (ha : PE X a (teD E ta)) (hb : PE X b (teD E tb)) (h : X.K = E.K := by rfl) (hm : behindInMarks .Eq b = false := by exact nomark _) : PE X (.Compare a [.Eq] [b] pos) (teD E (dEqP E.K CP false ta tb)) := by
  obtain ⟨f, fd, O, F, bd⟩ := c.ex
  exact pe_weak (pe_cmpR (op_eqO O F bd (hr.mono hj) pass0) ha hb hm) fun _ _ _ q => by
    rw [h]
    exact m_eqP (h ▸ c.T.cl) (h ▸ c.I) (h ▸ c.nf) q
theorem de_neP {j : Nat} (c : EqP X.prog X.w X.K X.mg X.base CP) (hr : Room j X.A) (hj : 2 ≤ j) (ha : PE X a (teD E ta)) (hb : PE X b (teD E tb)) (h : X.K = E.K := by rfl) (hm : behindInMarks .NotEq b = false := by exact nomark _) : PE X (.Compare a [.NotEq] [b] pos) (teD E (dEqP E.K CP true ta tb)) := by
  obtain ⟨f, fd, O, F, bd⟩ := c.ex
  exact pe_weak (pe_cmpR (op_neO O F bd (hr.mono hj) pass0) ha hb hm) fun _ _ _ q => by
    rw [h]
    exact m_neP (h ▸ c.T.cl) (h ▸ c.I) (h ▸ c.nf) q
theorem dt_neP {j : Nat} (c : EqP X.prog X.w X.K X.mg X.base CP) (hr : Room j X.A) (hj : 2 ≤ j) (ha : PE X a (teD E ta)) (hb : PE X b (teD E tb)) (h : X.K = E.K := by rfl) (hm : behindInMarks .NotEq b = false := by exact nomark _) : PT X (.Compare a [.NotEq] [b] pos) (ttD E (dTest (dEqP E.K CP true ta tb))) := by
  obtain ⟨f, fd, O, F, bd⟩ := c.ex
  exact pt_weak (pt_cmpR (op_neO O F bd (hr.mono hj) pass0) ha hb hm) fun _ _ _ q => tTest_weak (fun _ _ _ q => by
    rw [h]
    exact m_neP (h ▸ c.T.cl) (h ▸ c.I) (h ▸ c.nf) q) (m_test q)
theorem dt_eqP {j : Nat} (c : EqP X.prog X.w X.K X.mg X.base CP) (hr : Room j X.A) (hj : 1 ≤ j) (ha : PE X a (teD E ta)) (hb : PE X b (teD E tb)) (h : X.K = E.K := by rfl) (hm : behindInMarks .Eq b = false := by exact nomark _) : PT X (.Compare a [.Eq] [b] pos) (ttD E (dTest (dEqP E.K CP false ta tb))) := by
  obtain ⟨f, fd, O, F, bd⟩ := c.ex
  exact pt_weak (pt_cmpR (op_eqO O F bd (hr.mono hj) pass0) ha hb hm) fun _ _ _ q => tTest_weak (fun _ _ _ q => by
    rw [h]
    exact m_eqP (h ▸ c.T.cl) (h ▸ c.I) (h ▸ c.nf) q) (m_test q)
end
/-- isinstance(x, Program), x a program -/
def isiP (K : PySem.W.Frag) (CP : Addr) (ok : D → Prop) (t : TAD) : TD := fun sl C Q => t sl C fun ds sl1 C1 => (∃ q, ds = [progX K CP q, .ref CP]) ∧ Q (.dat (.bl true)) sl1 C1
section
variable {X : Cx} {E : En} {e : Expr} {es : List Expr} {tr : TAD} {pos : Pos} {σ : L2.St} {H : Hp} {CP : Addr} {mg : Str → Option Value}
theorem m_isiP {ok : D → Prop} {Q : VK} (T : PTxt E.K mg CP) (I : PIsi E.K CP) (h : teD E (isiP E.K CP ok tr) σ H Q) : tCB (rIsiS E.K) (taD E tr) σ H Q := by
  obtain ⟨G, sl, C, Qd, ab, t, k⟩ := h
  refine ⟨G, sl, C, _, ab, t, fun vs ds G1 H1 sl1 C1 a1 s1 rs q => ?_⟩
  obtain ⟨⟨q, rfl⟩, h⟩ := q
  cases rs with
  | cons r1 rs =>
  cases rs with
  | cons r2 rs =>
  cases rs
  cases r2
  obtain ⟨p, rfl, hp⟩ := prog_inv r1
  exact isi_p T I (hp.mono a1.wi.gh) (k (.bl true) (.dat (.bl true)) G1 H1 sl1 C1 a1 s1 (.bl true) trivial h)
theorem de_isiP {ok : D → Prop} {p : Pos} (T : PTxt X.K X.mg CP) (I : PIsi X.K CP) (hm : X.mg "isinstance" = none) (hg : Gl X "isinstance") (ha : PA X (e :: es) (taD E tr)) (h : X.K = E.K := by rfl) (hs : starEach (e :: es) X.env = (false, eval e X.env) :: starEach es X.env := by rfl) (hpl : (backTo pos (starEach es X.env)).any (·.1) = false := by rfl) :
    PE X (.Call (.Name "isinstance" p) (e :: es) [] pos) (teD E (isiP E.K CP ok tr)) := pe_weak (pe_callB (isi_S (K := E.K) h) hg hm PyProof.Rows.boot_isinstance ha (by decide) (by decide) hs hpl) fun _ _ _ q => m_isiP (h ▸ T) (h ▸ I) q
theorem de_cls {x : Str} {CP : Addr} (hg : Gl X x) (hm : X.mg x = some (.ref CP)) (hd : (x == ("__debug__" : Str)) = false := by decide) : PE X (.Name x pos) (teD E (dC (.ref CP))) := pe_weak (pe_glob (v := .ref CP) hg hm rfl hd) fun _ _ _ => m_c fun _ => .ref CP
end
end Lx

set_option Elab.async false
set_option maxRecDepth 100000
set_option linter.all false
set_option maxHeartbeats 2000000
/-! KitDm: str.replace: defs whose body begins with a token given out. -/
namespace Dl
open PySem PySem.Spec PyProof.Rows L2 Evl Kx CwR
section
variable {X : Cx} {E : En} {o e : Expr} {td te : TD} {pos : Pos} {σ : L2.St} {H : Hp}
theorem pet_weak {t t' : TE} (h : PET X e t) (m : ∀ σ H Q, t' σ H Q → t σ H Q) : PET X e t' := fun pins s σ H Q h0 I q => h pins s σ H Q h0 I (m σ H Q q)
theorem pst_weak {st : Stmt} {t t' : TS} (h : PST X st t) (m : ∀ Z σ H, t' Z σ H → t Z σ H) : PST X st t' := fun pins s σ H Z h0 I q => h pins s σ H Z h0 I (m Z σ H q)
theorem psst_weak {st : List Stmt} {t t' : TS} (h : PSsT X st t) (m : ∀ Z σ H, t' Z σ H → t Z σ H) : PSsT X st t' := fun pins s σ H Z h0 I q => h pins s σ H Z h0 I (m Z σ H q)
def dRepl (y z : Str) (t : TD) : TD := fun sl C Q => t sl C fun r sl1 C1 => ∃ x, look sl1 r = .str x ∧ x.length + (x.length + 1) * z.length ≤ 16777216 ∧ Q (.dat (.str (Txt.replace x y z))) sl1 C1
theorem m_repl {y z : Str} {Q : VK} (h : teD E (dRepl y z td) σ H Q) : tReplC (teD E td) y z σ H Q := by
  obtain ⟨G, sl, C, Qd, ab, t, k⟩ := h
  refine ⟨G, sl, C, _, ab, t, fun v r G1 H1 sl1 C1 a1 s1 v1 n1 q => ?_⟩
  obtain ⟨x, e, hl, q⟩ := q
  have u := v1.ru a1
  rw [e] at u
  exact ⟨x, u.str, hl, k _ (.dat (.str _)) G1 H1 sl1 C1 a1 s1 (.str _) trivial q⟩
theorem dt_replC {y z : Str} {j k : Nat} {c0 c1 apos : Pos} (ho : PE X o (teD E td)) (hyz : (y == z) = false := by decide)
    (hst : starEach [.Constant (.str y) j c0, .Constant (.str z) k c1] X.env = [(false, eval (.Constant (.str y) j c0) X.env), (false, eval (.Constant (.str z) k c1) X.env)] := by rfl)
    (hbase : attributeBase o "replace" X.env (eval o X.env) = eval o X.env := by rfl) (hline : (apos.endLine == pos.line) = true := by rfl) :
    PET X (.Call (.Attribute o "replace" apos) [.Constant (.str y) j c0, .Constant (.str z) k c1] [] pos) (teD E (dRepl y z td)) := pet_weak (pet_replC ho hyz hst hbase hline) fun _ _ _ => m_repl
theorem dt_replT {y z : Str} {j k : Nat} {c0 c1 apos : Pos} (ho : PET X o (teD E td)) (hyz : (y == z) = false := by decide)
    (hst : starEach [.Constant (.str y) j c0, .Constant (.str z) k c1] X.env = [(false, eval (.Constant (.str y) j c0) X.env), (false, eval (.Constant (.str z) k c1) X.env)] := by rfl)
    (hbase : attributeBase o "replace" X.env (eval o X.env) = eval o X.env := by rfl) (hline : (apos.endLine == pos.line) = true := by rfl) :
    PET X (.Call (.Attribute o "replace" apos) [.Constant (.str y) j c0, .Constant (.str z) k c1] [] pos) (teD E (dRepl y z td)) := pet_weak (pet_replT ho hyz hst hbase hline) fun _ _ _ => m_repl
theorem pet_m1 {to te : TE} {id : String} {name : Str} {apos : Pos} {r : V → List V → Hp → VK → Prop} (slot : Slot "str" name id) (ty : typeOf (.builtin id) = pure (.type "method_descriptor")) (rule : MtR X id r) (ho : PET X o to) (he : PE X e te)
    (hs : starEach [e] X.env = [(false, eval e X.env)] := by rfl) (hbase : attributeBase o name X.env (eval o X.env) = eval o X.env := by rfl) (hline : (apos.endLine == pos.line) = true := by rfl) :
    PET X (.Call (.Attribute o name apos) [e] [] pos) (tM1 r to te) := fun pins s σ H Q h0 I h => by
  refine PySem.Call_method1 hbase hs hline (thn (ho pins s σ H _ h0 I h) fun v s1 ⟨x, H1, I1, r1, q1⟩ => ?_)
  obtain ⟨⟨a, rfl⟩, q1⟩ := q1
  obtain ⟨t, rfl⟩ := _root_.id r1
  refine ⟨"str", _, PySem.F.plainAttrs_str, slot, ty, typeIs_str _ _ _, (fun _ e => nomatch e), Calls.callWith_builtin rfl (Calls.evalArgs_plain (Calls.spliced_cons ?_))⟩
  exact thn (he.run pins s1 σ H1 _ I1 q1) fun u s2 ⟨y, H2, I2, r2, q2⟩ => Calls.spliced_nil (rule pins s2 σ H2 _ [y] _ [u] Q I2 r1 (.cons r2 .nil) q2)
theorem dt_split {apos : Pos} (ho : PET X o (teD E td)) (he : PE X e (teD E te)) (h : X.K = E.K := by rfl)
    (hs : starEach [e] X.env = [(false, eval e X.env)] := by rfl) (hs2 : starEach [e] X.env = (false, eval e X.env) :: starEach [] X.env := by rfl) (hbase : attributeBase o "split" X.env (eval o X.env) = eval o X.env := by rfl) (hline : (apos.endLine == pos.line) = true := by rfl) :
    PET X (.Call (.Attribute o "split" apos) [e] [] pos) (teD E (dMt "str" splitD td (dCons te dNil))) := pet_weak (pet_m1 PySem.F.slot_str_split PySem.F.type_str_split mt_split ho he hs hbase hline) fun σ H Q q => by
  obtain ⟨G, sl, C, Qd, ab, t, k⟩ := q
  refine ⟨G, sl, C, _, ab, t, fun v rr G1 H1 sl1 C1 a1 s1 v1 n1 q => ?_⟩
  have u := v1.ru a1
  obtain ⟨q1, q2⟩ := q
  have hx : ∃ a, v = .str a := by
    generalize look sl1 rr = d at u q1
    cases d with
    | str z => exact ⟨z, u.str⟩
    | int i => exact absurd q1 (by show ¬ ("str" = "int"); decide)
    | lst i => exact absurd q1 (by show ¬ ("str" = "list"); decide)
    | dic i => exact absurd q1 (by show ¬ ("str" = "dict"); decide)
    | dct i => exact absurd q1 (by show ¬ ("str" = "dict"); decide)
    | _ => exact q1.elim
  refine ⟨hx, G1, sl1, C1, _, a1, q2, fun w r G2 H2 sl2 C2 a2 s2 w2 n2 q => ?_⟩
  obtain ⟨d, G3, sl3, a3, s3, rd, z, hz, q⟩ := Ab.keepS a2 w2 s2 n2 q
  have u3 := (v1.step s3).ru a3
  exact m_split (E := E) σ G3 H2 C2 sl3 v [w] _ [d] z Q a3 u3 (.cons rd .nil) hz fun v' G' H' a' s' v'' n' => k v' z G' H' sl3 C2 a' ((s1.trans s3).trans s') v'' (n'.back (s1.trans s3)) q
theorem pst_set {i : Nat} {x : Str} {te : TE} {pos' : Pos} (hN : X.N.Nodup) (hi : X.N[i]? = some x) (hx : Loc X.env.scope x) (he : PET X e te) (hs : swapsWith e (some (.Name x pos')) pos.line X.env = pure false := by rfl) (hf : X.fn x = true ∨ X.env.scope.names.lookup x = some .local := by first | exact .inl rfl | exact .inr rfl | assumption) :
    PST X (.Assign [.Name x pos'] e pos) (tAsg te (gName i)) := fun pins s σ H D h0 I h => by
  refine wpAny_Assign_Name (thn (he pins s σ H _ h0 I h) fun v s1 ⟨y, H1, I1, r1, q1⟩ => ?_) hs
  exact store_ok I1 hN hi hx r1 (fun s2 I2 => ⟨_, H1, I2, q1⟩) hf
theorem dt_set {i : Nat} {x : Str} {pos' : Pos} (hN : X.N.Nodup) (hi : X.N[i]? = some x) (hx : Loc X.env.scope x) (he : PET X e (teD E td)) (hs : swapsWith e (some (.Name x pos')) pos.line X.env = pure false := by rfl) (hf : X.fn x = true ∨ X.env.scope.names.lookup x = some .local := by first | exact .inl rfl | exact .inr rfl | assumption) :
    PST X (.Assign [.Name x pos'] e pos) (tsD E (sSet i td)) := pst_weak (pst_set hN hi hx he hs hf) fun _ _ _ => m_set
theorem dt_cons {st : Stmt} {rs : List Stmt} {s1 s2 : TSD} (h1 : PST X st (tsD E s1)) (h2 : PSsT X rs (tsD E s2)) : PSsT X (st :: rs) (tsD E (sSeq s1 s2)) := psst_weak (psst_cons h1 h2) fun Z σ H h => by
  obtain ⟨G, sl, C, DD, ab, t, k1, k2, k3, k4⟩ := h
  exact ⟨G, sl, C, { DD with nx := s2 DD }, ab, t, fun G1 H1 sl1 C1 σ1 a1 e1 t1 => ⟨G1, sl1, C1, DD, a1, t1, fun G' H' sl' C' σ' a e => k1 G' H' sl' C' σ' a (e1.trans e), k2, fun G' H' sl' C' σ' a e => k3 G' H' sl' C' σ' a (e1.trans e), fun G' H' sl' C' σ' a e => k4 G' H' sl' C' σ' a (e1.trans e)⟩, k2, k3, k4⟩
end
section
variable {P : Program} {w : World} {K : PySem.W.Frag} {mg : Str → Option Value} {base : Heap}
theorem Fun.okT {x qual : Str} {st : Stmt} {f : Addr} {fd : FuncData} {N ps : List Str} {k : Nat} {sp : Sp} (F : Fun K x qual st f fd) (S : FnScope N ps (defScope st)) (hnc : ∀ y ∈ (defScope st).names, y.2 ≠ .cell) (hps : 1 ≤ ps.length) (len : ∀ vs H Q E, sp vs H Q E → vs.length = ps.length)
    (hbody : ∀ (cdv : Value) (A : Around) (outer : List Env) (s : Shared) (H : Hp) (vs : List V) (Q : VK) (E : XK), Room k (A.deeper (envOfC qual (defScope st) s.heap.objs.size f cdv)) → sp vs H Q E →
      ∃ t, PSsT (cxOf CX0 P w K mg base N qual (defScope st) f cdv A outer s H E) (defBody st) t ∧ t { nx := fun _ H' => Q .non H', rt := Q } (start N vs) H) : FnOk P w K mg base CX0 (k + 1) f fd ps sp := by
  obtain ⟨oc, od, kV, doc, pm, an, cdv, ct, osl, rfl, lk, hcd⟩ := F.ex
  exact fn_ofT lk hcd S hnc hps len fun A outer s H vs Q E hr hsp => hbody cdv A outer s H vs Q E hr hsp
/-- a def's body, a token out when it begins -/
def DerT (P : Program) (w : World) (K : PySem.W.Frag) (mg : Str → Option Value) (base : Heap) (N : List Str) (qual : Str) (st : Stmt) (f : Addr) (k : Nat) (ts : TSD) : Prop :=
  ∀ (cdv : Value) (A : Around) (outer : List Env) (s : Shared) (H : Hp) (Ex : XK) (G0 H0 : Hp) (C0 : Cs), Room k (A.deeper (envOfC qual (defScope st) s.heap.objs.size f cdv)) →
    PSsT (cxOf CX0 P w K mg base N qual (defScope st) f cdv A outer s H Ex) (defBody st) (tsD ⟨K, G0, H0, C0⟩ ts)
def MeetsT (N : List Str) (n : Nat) (sp : Spec) (ts : TSD) : Prop := ∀ ds C Qd, ds.length = n → sp ds C Qd → ts { nx := fun _ C' => Qd .non C', rt := Qd } (startD N ds) C
theorem calET {x : Str} {st : Stmt} {f : Addr} {fd : FuncData} {N ps : List Str} {k n : Nat} {sp : Spec} {ts : TSD}
    (F : DefD K mg x st f fd) (b : Binds K fd ps []) (S : FnScope N ps (defScope st)) (hnc : ∀ y ∈ (defScope st).names, y.2 ≠ .cell) (hps : 1 ≤ ps.length) (hn : n = ps.length) (hN : n ≤ N.length) (der : DerT P w K mg base N x st f k ts) (hm : MeetsT N n sp ts) : CalD P w K mg base (k + 1) x n sp [] := by
  refine ⟨[], ⟨f, fd, ps, [], Fun.okT F.fn S hnc hps (fun vs H Q E h => ?_) (fun cdv A outer s H vs Q Ex hr h => ?_), F.mgf, F.kp, b, .nil⟩, fun _ => .nil⟩
  · obtain ⟨G, C, ds, Qd, _, r, hl, _⟩ := h
    rw [r.len, hl, hn]
  · obtain ⟨G, C, ds, Qd, wi, r, hl, q, kk⟩ := h
    exact ⟨_, der cdv A outer s H Ex G H C hr, G, startD N ds, C, _, ab_start wi r (by omega), hm ds C Qd hl q, fun G' H' sl' C' σ' a _ q => kk .non .non G' H' C' a.wi a.mv .non q, fun v d G' H' C' w m r q => kk v d G' H' C' w m r q, fun _ _ _ _ _ _ _ z => z.elim, fun _ _ _ _ _ _ _ z => z.elim⟩
end
end Dl

set_option Elab.async false
set_option maxRecDepth 100000
set_option linter.all false
set_option maxHeartbeats 2000000
/-! KitDo: defs that know that nothing is being shown around them. -/
namespace Dl
open PySem PySem.Spec PyProof.Rows L2 Evl Kx
/-- a def's body read over data, nothing being shown around it -/
def DerG (P : Program) (w : World) (K : PySem.W.Frag) (mg : Str → Option Value) (base : Heap) (N : List Str) (qual : Str) (st : Stmt) (f : Addr) (k : Nat) (ts : TSD) : Prop :=
  ∀ (cdv : Value) (A : Around) (outer : List Env) (s : Shared) (H : Hp) (Ex : XK) (G0 H0 : Hp) (C0 : Cs), A.guards = some [] → Room k (A.deeper (envOfC qual (defScope st) s.heap.objs.size f cdv)) →
    PSs (cxOf CX0 P w K mg base N qual (defScope st) f cdv A outer s H Ex).nox (defBody st) (tsD ⟨K, G0, H0, C0⟩ ts)
section
variable {P : Program} {w : World} {K : PySem.W.Frag} {mg : Str → Option Value} {base : Heap}
theorem gnE {x qual : Str} {st : Stmt} {f : Addr} {fd : FuncData} {N ps : List Str} {k n : Nat} {sp : Spec} {ts : TSD}
    (F : Fun K x qual st f fd) (S : FnScope N ps (defScope st)) (hn : n = ps.length) (hN : n ≤ N.length) (der : DerG P w K mg base N qual st f k ts) (hm : Meets N n sp ts) : GnOk P w K mg base CX0 (k + 1) f fd ps (spD K n sp) := by
  have drop : ∀ {G H G' H' : Hp} {C C' C2 : Cs}, C2.Sublist C' → WI K G' H' C' → Mv G H C G' H' C' → WI K G' H' C2 ∧ Mv G H C G' H' C2 := fun {G H G' H' C C' C2} hs w m =>
    ⟨⟨w.gh, fun x hx => w.cs x (hs.subset hx), (hs.map Prod.fst).nodup w.nd, w.sy⟩, ⟨m.gg, m.hh, m.dm, m.ag, fun a ha => m.cn a ((hs.map Prod.fst).subset ha)⟩⟩
  refine gn_ok F S (fun vs H Q E h => ?_) (fun cdv A outer s H vs Q Ex hg hr h => ?_)
  · obtain ⟨G, C, ds, Qd, _, r, hl, _⟩ := h
    rw [r.len, hl, hn]
  · obtain ⟨G, C, ds, Qd, wi, r, hl, q, kk⟩ := h
    refine ⟨_, der cdv A outer s H Ex G H C hg hr, G, startD N ds, C, _, ab_start wi r (by omega), hm ds C Qd hl q, fun G' H' sl' C' σ' a _ q => ?_, fun v d G' H' C' w m r q => ?_, fun _ _ _ _ _ _ _ z => z.elim, fun _ _ _ _ _ _ _ z => z.elim⟩
    · obtain ⟨C2, hs, q⟩ := q
      obtain ⟨w', m'⟩ := drop hs a.wi a.mv
      exact kk .non .non G' H' C2 w' m' .non q
    · obtain ⟨C2, hs, q⟩ := q
      obtain ⟨w', m'⟩ := drop hs w m
      exact kk v d G' H' C2 w' m' r q
/-- a def that may be called by its name where nothing is being shown -/
structure CalG (P : Program) (w : World) (K : PySem.W.Frag) (mg : Str → Option Value) (base : Heap) (k : Nat) (x : Str) (n : Nat) (sp : Spec) : Prop where
  ex : ∃ f fd ps, GnOk P w K mg base CX0 k f fd ps (spD K n sp) ∧ mg x = some (.ref f) ∧ PySem.W.keepIn K (.ref f) = true ∧ Binds K fd ps []
/-- a def that refuses -/
structure CalX (P : Program) (w : World) (K : PySem.W.Frag) (mg : Str → Option Value) (base : Heap) (k : Nat) (x : Str) (fl : Str) (n : Nat) (sx : SpecX) : Prop where
  ex : ∃ f fd ps, FnOk P w K mg base (L2.CX P w) k f fd ps (spXD K fl n sx) ∧ mg x = some (.ref f) ∧ PySem.W.keepIn K (.ref f) = true ∧ Binds K fd ps []
end
section
variable {X : Cx} {E : En} {e : Expr} {es : List Expr} {tr : TAD} {pos pos' : Pos}
theorem de_cg {k j n : Nat} {x : Str} {sp : Spec} {p : Pos} (c : CalG X.prog X.w X.K X.mg X.base k x n sp) (hgu : X.A.guards = some []) (hr : Room j X.A) (hk : k ≤ j) (hg : Gl X x) (ha : PA X (e :: es) (taD E tr)) (h : X.K = E.K := by rfl)
    (hdb : (x == ("__debug__" : Str)) = false := by decide) (he : starEach (e :: es) X.env = (false, eval e X.env) :: starEach es X.env := by rfl) (hpl : (backTo pos (starEach es X.env)).any (·.1) = false := by rfl) :
    PE X (.Call (.Name x p) (e :: es) [] pos) (teD E (dCall n sp [] tr)) := by
  obtain ⟨f, fd, ps, F, hm, kp, b⟩ := c.ex
  exact pe_weak (pe_callG F hgu (hr.mono hk) hg hm kp b .nil pass0 ha hdb he hpl) fun _ _ _ q => by
    have := m_call (E0 := E0) (dvs := []) (fun G => .nil) q
    rw [← h] at this
    exact this
theorem ds_catchC {k l n i j : Nat} {x y nm c : Str} {fl : Str} {sx : SpecX} {cv : Value} {Wout : WX} {p p2 np p3 p4 p5 p6 : Pos}
    (hx : X.ex = []) (hs : X.stack = X.env :: X.outer) (hf : X.env.frame = some X.env.locals) (hN : X.N.Nodup) (hi : X.N[i]? = some nm) (hln : X.env.kindOf nm = some .local) (hj : X.N[j]? = some c) (hjl : X.env.kindOf c = some .local) (hc : Names X y cv) (tk : Takes X Wout)
    (F : CalX X.prog X.w X.K X.mg X.base k x fl n sx) (hr : Room l X.A) (hk : k ≤ l) (hg : ∀ pn xe, Gl (X.tr pn xe) x)
    (ha : ∀ pn xe, PA (X.tr pn xe) (e :: es) (taD E tr)) (hij : i ≠ j)
    (hset : ∀ (a : Addr) (oe : Obj) (CE : Addr) (d : Option Addr) (pn : List (Addr × Obj)), PSs (X.suite a ((a, oe) :: pn)) [.Assign [.Name c p4] (.Name nm p5) p6] (tAsg (tVar i) (gName j))) (h : X.K = E.K := by rfl)
    (hdb : (x == ("__debug__" : Str)) = false := by decide) (he : ∀ pn xe, starEach (e :: es) (X.tr pn xe).env = (false, eval e (X.tr pn xe).env) :: starEach es (X.tr pn xe).env := by intro _ _; rfl) (hpl : ∀ pn xe, (backTo p (starEach es (X.tr pn xe).env)).any (·.1) = false := by intro _ _; rfl)
    (hsw : ∀ pn xe, swapsWith (.Call (.Name x p2) (e :: es) [] p) none p3.line (X.tr pn xe).env = pure false := by intro _ _; rfl) :
    PS X (.Try [.Expr (.Call (.Name x p2) (e :: es) [] p) p3] [.ExceptHandler (some (.Name y np)) (some nm) [.Assign [.Name c p4] (.Name nm p5) p6] pos] [] [] pos') (tsD E (sCatch E.K fl n sx (fun CE => PySem.W.exmOne E.K (.ref CE) cv = some true) i j tr)) := by
  obtain ⟨f, fd, ps, F, hm, kp, b⟩ := F.ex
  exact ds_catch hx hs hf hN hi hln hj hjl hc tk (h ▸ F) (hr.mono hk) hg hm kp b ha hij hset h hdb he hpl hsw
theorem de_c0 {k j n : Nat} {x : Str} {sp : Spec} {dds : List D} {p : Pos} (c : CalD X.prog X.w X.K X.mg X.base k x n sp dds) (hr : Room j X.A) (hk : k ≤ j) (hg : Gl X x) (h : X.K = E.K := by rfl)
    (hdb : (x == ("__debug__" : Str)) = false := by decide) : PE X (.Call (.Name x p) [] [] pos) (teD E (dCall n sp dds dNil)) := by
  obtain ⟨dvs, ⟨f, fd, ps, ds, F, hm, kp, b, d⟩, hd⟩ := c.ex
  exact pe_weak (pe_call0 F (hr.mono hk) hg hm kp b d pass0 hdb) fun σ H Q q => by
    obtain ⟨G, sl, C, Qd, ab, t, k⟩ := q
    exact ⟨G, C, [] ++ dds, _, h ▸ ab.wi, RpA.app .nil (h ▸ hd G), t.1, t.2, fun v d G' H' C' w m rd qd => k v (.dat d) G' H' sl C' (ab.go (h ▸ w) m) (ab.stp m) (show Rp E.K G' v d from h ▸ rd) trivial qd⟩
end
end Dl
namespace Dl
open PySem PySem.Spec PyProof.Rows L2 Evl Kx
theorem dg {A : Around} {env : PySem.Env} (h : A.guards = some []) : (A.deeper env).guards = some [] := h
end Dl

set_option Elab.async false
set_option maxRecDepth 100000
set_option linter.all false
set_option maxHeartbeats 4000000
namespace Lx
open PySem PySem.Spec PyProof.Rows L2 Evl Kx
open Dl hiding Stp Spec
section
variable {P : Program} {w : World} {K : PySem.W.Frag} {mg : Str → Option Value} {base : Heap} {f : Addr} {fd : FuncData}
abbrev sBodyTok : Stmt := top 35
theorem scBodyTok : FnScope ["body", "tokens", "step"] ["body"] (defScope sBodyTok) := ⟨rfl, rfl, rfl, by decide +kernel, rfl, by decide +kernel, by decide +kernel⟩
def rdBodyTok (sp_step_tokens : Dl.Spec) : TSD := (sSeq (sSet 1 (dLst (dCons (dC (.str "{")) dNil))) (sSeq (sForL (dVar 0) (.one 2) (sExpr (dExt 1 (dCall 1 sp_step_tokens [] (dCons (dVar 2) dNil))))) (sSeq (sExpr (dApp 1 (dC (.str "}")))) (sRet (dVar 1)))))
theorem derBodyTok {k k_step_tokens : Nat} (sp_step_tokens : Dl.Spec) (c_step_tokens : CalD P w K mg base k_step_tokens "step_tokens" 1 sp_step_tokens []) (hk_step_tokens : k_step_tokens ≤ k) : DerD P w K mg base ["body", "tokens", "step"] "body_tokens" sBodyTok f k (rdBodyTok sp_step_tokens) := fun cdv A outer s H Ex G0 H0 C0 hr => (ds_cons (ds_set (i := 1) scBodyTok.nd rfl (Or.inl rfl) (de_lst (da_cons de_str da_nil))) (ds_cons (ds_forL (tg := (.one 2)) PassesOwn.never rfl (dv 0) (pg_name (i := 2) scBodyTok.nd rfl (Or.inl rfl)) (ds_one (ds_expr (de_ext (i := 1) (pv 1) (de_c c_step_tokens hr hk_step_tokens (by rfl) (da_cons (dv 2) da_nil)))))) (ds_cons (ds_expr (de_app (i := 1) (pv 1) de_str)) (ds_one (ds_ret (dv 1))))))
abbrev sStepTok : Stmt := top 36
theorem scStepTok : FnScope ["step", "word"] ["step"] (defScope sStepTok) := ⟨rfl, rfl, rfl, by decide +kernel, rfl, by decide +kernel, by decide +kernel⟩
def rdStepTok (sp_body_tokens : Dl.Spec) : TSD := (sSeq (sSet 1 (dOp ixD (dVar 0) (dC (.int 0)))) (sSeq (sIf (dTest (dOp (fun d e => (eqDD d e).map fun b => .dat (.bl b)) (dVar 1) (dC (.str "either")))) (sRet (dOp addD (dOp addD (dOp addD (dLst (dCons (dVar 1) dNil)) (dCall 1 sp_body_tokens [] (dCons (dOp ixD (dVar 0) (dC (.int 1))) dNil))) (dLst (dCons (dC (.str "or")) dNil))) (dCall 1 sp_body_tokens [] (dCons (dOp ixD (dVar 0) (dC (.int 2))) dNil)))) sNext) (sSeq (sIf (dTest (dOp (fun d e => (eqDD d e).map fun b => .dat (.bl b)) (dVar 1) (dC (.str "loop")))) (sRet (dOp addD (dLst (dCons (dVar 1) dNil)) (dCall 1 sp_body_tokens [] (dCons (dOp ixD (dVar 0) (dC (.int 1))) dNil)))) sNext) (sSeq (sIf (dTest (dOp (fun d e => (eqDD d e).map fun b => .dat (.bl b)) (dVar 1) (dC (.str "block")))) (sRet (dOp addD (dLst (dCons (dIf (dTru (dOp ixD (dVar 0) (dC (.int 1)))) (dC (.str "marked")) (dC (.str "block"))) dNil)) (dCall 1 sp_body_tokens [] (dCons (dOp ixD (dVar 0) (dC (.int 2))) dNil)))) sNext) (sRet (dF1 listD (dVar 0)))))))
theorem derStepTok {k k_body_tokens : Nat} (sp_body_tokens : Dl.Spec) (c_body_tokens : CalD P w K mg base k_body_tokens "body_tokens" 1 sp_body_tokens []) (hk_body_tokens : k_body_tokens ≤ k) (hB : Bi mg) : DerD P w K mg base ["step", "word"] "step_tokens" sStepTok f k (rdStepTok sp_body_tokens) := fun cdv A outer s H Ex G0 H0 C0 hr => (ds_cons (ds_set (i := 1) scStepTok.nd rfl (Or.inl rfl) (de_ix (K := K) (dv 0) de_int (fun _ _ => rfl))) (ds_cons (ds_if (dt_cmp (o_eq hr.units) m_eq (dv 1) de_str (nomark _)) (ds_one (ds_ret (de_op o_add m_add (de_op o_add m_add (de_op o_add m_add (de_lst (da_cons (dv 1) da_nil)) (de_c c_body_tokens hr hk_body_tokens (by rfl) (da_cons (de_ix (K := K) (dv 0) de_int (fun _ _ => rfl)) da_nil))) (de_lst (da_cons de_str da_nil))) (de_c c_body_tokens hr hk_body_tokens (by rfl) (da_cons (de_ix (K := K) (dv 0) de_int (fun _ _ => rfl)) da_nil))))) ds_nil) (ds_cons (ds_if (dt_cmp (o_eq hr.units) m_eq (dv 1) de_str (nomark _)) (ds_one (ds_ret (de_op o_add m_add (de_lst (da_cons (dv 1) da_nil)) (de_c c_body_tokens hr hk_body_tokens (by rfl) (da_cons (de_ix (K := K) (dv 0) de_int (fun _ _ => rfl)) da_nil))))) ds_nil) (ds_cons (ds_if (dt_cmp (o_eq hr.units) m_eq (dv 1) de_str (nomark _)) (ds_one (ds_ret (de_op o_add m_add (de_lst (da_cons (de_if (dt_tru (de_ix (K := K) (dv 0) de_int (fun _ _ => rfl))) de_str de_str) da_nil)) (de_c c_body_tokens hr hk_body_tokens (by rfl) (da_cons (de_ix (K := K) (dv 0) de_int (fun _ _ => rfl)) da_nil))))) ds_nil) (ds_one (ds_ret (de_t1 (call_listK (K := K)) m_list (by rfl) hB.list (by decide +kernel) (dv 0))))))))
abbrev sTextOf : Stmt := top 34
theorem scTextOf : FnScope ["program", "lines", "name", "rights", "owner", "body", "tokens"] ["program"] (defScope sTextOf) := ⟨rfl, rfl, rfl, by decide +kernel, rfl, by decide +kernel, by decide +kernel⟩
def rdTextOf (sp_need_program : Dl.Spec) (aProgram : Addr) (sp_rights : Dl.Spec) (sp_owners : Dl.Spec) (sp_body_tokens : Dl.Spec) (sp_functions : Dl.Spec) : TSD := (sSeq (sExpr (dCall 1 sp_need_program [] (dCons (dVar 0) dNil))) (sSeq (sSet 1 (dLst (dCons (dOp addD (dLst (dCons (dC (.str "rights")) dNil)) (dMeth aProgram "rights" 1 sp_rights [] (dVar 0) dNil)) dNil))) (sSeq (sForL (dMeth aProgram "owners" 1 sp_owners [] (dVar 0) dNil) (.many [2, 3]) (sExpr (dApp 1 (dOp addD (dLst (dCons (dC (.str "owner")) (dCons (dVar 2) dNil))) (dVar 3))))) (sSeq (sForL (dMeth aProgram "functions" 1 sp_functions [] (dVar 0) dNil) (.many [2, 4, 5]) (sExpr (dApp 1 (dOp addD (dLst (dCons (dC (.str "function")) (dCons (dVar 2) (dCons (dVar 4) dNil)))) (dCall 1 sp_body_tokens [] (dCons (dVar 5) dNil)))))) (sRet (dMt "str" joinD (dC (.str "\n")) (dCons (dLcL (dVar 1) (.one 6) dYes (dMt "str" joinD (dC (.str " ")) (dCons (dVar 6) dNil)) [6]) dNil)))))))
theorem derTextOf {k k_body_tokens k_functions k_need_program k_owners k_rights : Nat} (sp_need_program : Dl.Spec) (aProgram : Addr) (sp_rights : Dl.Spec) (sp_owners : Dl.Spec) (sp_body_tokens : Dl.Spec) (sp_functions : Dl.Spec) (c_need_program : CalD P w K mg base k_need_program "need_program" 1 sp_need_program []) (hk_need_program : k_need_program ≤ k) (m_rights : MetD P w K mg base k_rights aProgram "rights" 1 sp_rights) (hk_rights : k_rights ≤ k) (m_owners : MetD P w K mg base k_owners aProgram "owners" 1 sp_owners) (hk_owners : k_owners ≤ k) (c_body_tokens : CalD P w K mg base k_body_tokens "body_tokens" 1 sp_body_tokens []) (hk_body_tokens : k_body_tokens ≤ k) (m_functions : MetD P w K mg base k_functions aProgram "functions" 1 sp_functions) (hk_functions : k_functions ≤ k) : DerD P w K mg base ["program", "lines", "name", "rights", "owner", "body", "tokens"] "text_of" sTextOf f k (rdTextOf sp_need_program aProgram sp_rights sp_owners sp_body_tokens sp_functions) := fun cdv A outer s H Ex G0 H0 C0 hr => (ds_cons (ds_expr (de_c c_need_program hr hk_need_program (by rfl) (da_cons (dv 0) da_nil))) (ds_cons (ds_set (i := 1) scTextOf.nd rfl (Or.inl rfl) (de_lst (da_cons (de_op o_add m_add (de_lst (da_cons de_str da_nil)) (de_mt0 m_rights hr hk_rights (dv 0))) da_nil))) (ds_cons (ds_forL (tg := (.many [2, 3])) PassesOwn.never rfl (de_mt0 m_owners hr hk_owners (dv 0)) (pg_tupK rfl (pgs_cons (pg_name (i := 2) scTextOf.nd rfl (Or.inl rfl)) (pgs_cons (pg_name (i := 3) scTextOf.nd rfl (Or.inl rfl)) pgs_nil))) (ds_one (ds_expr (de_app (i := 1) (pv 1) (de_op o_add m_add (de_lst (da_cons de_str (da_cons (dv 2) da_nil))) (dv 3)))))) (ds_cons (ds_forL (tg := (.many [2, 4, 5])) PassesOwn.never rfl (de_mt0 m_functions hr hk_functions (dv 0)) (pg_tupK rfl (pgs_cons (pg_name (i := 2) scTextOf.nd rfl (Or.inl rfl)) (pgs_cons (pg_name (i := 4) scTextOf.nd rfl (Or.inl rfl)) (pgs_cons (pg_name (i := 5) scTextOf.nd rfl (Or.inl rfl)) pgs_nil)))) (ds_one (ds_expr (de_app (i := 1) (pv 1) (de_op o_add m_add (de_lst (da_cons de_str (da_cons (dv 2) (da_cons (dv 4) da_nil)))) (de_c c_body_tokens hr hk_body_tokens (by rfl) (da_cons (dv 5) da_nil))))))) (ds_one (ds_ret (de_mtd PySem.F.plainAttrs_str PySem.F.slot_str_join PySem.F.type_str_join o_join m_join de_str (da_cons (de_lcL (own := [("tokens", 6)]) (tg := (.one 6)) rfl scTextOf.nd (dv 1) (blkOk_by (own := [("tokens", 6)]) (N := ["program", "lines", "name", "rights", "owner", "body", "tokens"]) (sc := defScope sTextOf) (by decide +kernel)) (fun _ _ _ _ _ => (pg_name (i := 6) scTextOf.nd rfl (Or.inl rfl))) (fun _ _ _ _ _ => dts_nil) (fun _ _ _ _ _ => (de_mtd PySem.F.plainAttrs_str PySem.F.slot_str_join PySem.F.type_str_join o_join m_join de_str (da_cons (dv 6) da_nil))) (by decide)) da_nil))))))))
abbrev sRdInit : Stmt := inClass (top 39) 0
theorem scRdInit : FnScope ["self", "text", "tokens"] ["self", "text", "tokens"] (defScope sRdInit) := ⟨rfl, rfl, rfl, by decide +kernel, rfl, by decide +kernel, by decide +kernel⟩
def rdRdInit (aReader : Addr) : TSD := (sSeq (sFldD aReader "text" (dVar 1) (dVar 0)) (sSeq (sFldD aReader "tokens" (dVar 2) (dVar 0)) (sSeq (sFldD aReader "at" (dC (.int 0)) (dVar 0)) (sFldD aReader "depth" (dC (.int 0)) (dVar 0)))))
theorem derRdInit {k  : Nat} (aReader : Addr) (clReader : Cls K aReader) (naReader_text : NoAttr K aReader "text") (naReader_tokens : NoAttr K aReader "tokens") (naReader_at : NoAttr K aReader "at") (naReader_depth : NoAttr K aReader "depth") : DerD P w K mg base ["self", "text", "tokens"] "Reader.__init__" sRdInit f k (rdRdInit aReader) := fun cdv A outer s H Ex G0 H0 C0 hr => (ds_cons (ds_fld clReader naReader_text (dv 0) (dv 1)) (ds_cons (ds_fld clReader naReader_tokens (dv 0) (dv 2)) (ds_cons (ds_fld clReader naReader_at (dv 0) de_int) (ds_one (ds_fld clReader naReader_depth (dv 0) de_int)))))
abbrev sRdOwner : Stmt := inClass (top 39) 1
theorem scRdOwner : FnScope ["self", "name"] ["self"] (defScope sRdOwner) := ⟨rfl, rfl, rfl, by decide +kernel, rfl, by decide +kernel, by decide +kernel⟩
def rdRdOwner (aReader : Addr) (sp_skip : Dl.Spec) (sp_token : Dl.Spec) : TSD := (sSeq (sExpr (dMeth aReader "skip" 2 sp_skip [] (dVar 0) (dCons (dC (.str "owner")) dNil))) (sSeq (sSet 1 (dMeth aReader "token" 1 sp_token [] (dVar 0) dNil)) (sRet (dTup (dCons (dVar 1) (dCons (dSl (dFld aReader "tokens" (dVar 0)) (dSo (dFld aReader "at" (dVar 0))) dNo) dNil))))))
theorem derRdOwner {k k_skip k_token : Nat} (aReader : Addr) (sp_skip : Dl.Spec) (sp_token : Dl.Spec) (m_skip : MetD P w K mg base k_skip aReader "skip" 2 sp_skip) (hk_skip : k_skip ≤ k) (m_token : MetD P w K mg base k_token aReader "token" 1 sp_token) (hk_token : k_token ≤ k) (clReader : Cls K aReader) (naReader_tokens : NoAttr K aReader "tokens") (naReader_at : NoAttr K aReader "at") : DerD P w K mg base ["self", "name"] "Reader.read_owner" sRdOwner f k (rdRdOwner aReader sp_skip sp_token) := fun cdv A outer s H Ex G0 H0 C0 hr => (ds_cons (ds_expr (de_mt m_skip hr hk_skip (dv 0) (da_cons de_str da_nil))) (ds_cons (ds_set (i := 1) scRdOwner.nd rfl (Or.inl rfl) (de_mt0 m_token hr hk_token (dv 0))) (ds_one (ds_ret (de_tup (da_cons (dv 1) (da_cons (de_sl (de_fld clReader naReader_tokens (dv 0)) (do_some (de_fld clReader naReader_at (dv 0))) do_none) da_nil)))))))
abbrev sRdFunc : Stmt := inClass (top 39) 2
theorem scRdFunc : FnScope ["self", "name", "owner", "body"] ["self"] (defScope sRdFunc) := ⟨rfl, rfl, rfl, by decide +kernel, rfl, by decide +kernel, by decide +kernel⟩
def rdRdFunc (aReader : Addr) (sp_skip : Dl.Spec) (sp_token : Dl.Spec) (sp_read_body : Dl.Spec) : TSD := (sSeq (sExpr (dMeth aReader "skip" 2 sp_skip [] (dVar 0) (dCons (dC (.str "function")) dNil))) (sSeq (sSet 1 (dMeth aReader "token" 1 sp_token [] (dVar 0) dNil)) (sSeq (sSet 2 (dMeth aReader "token" 1 sp_token [] (dVar 0) dNil)) (sSeq (sSet 3 (dMeth aReader "read_body" 1 sp_read_body [] (dVar 0) dNil)) (sSeq (sIf (dTest (dOp (cmpI fun i j => decide (i < j)) (dFld aReader "at" (dVar 0)) (dF1 lenD (dFld aReader "tokens" (dVar 0))))) (fun _ _ _ => False) sNext) (sRet (dTup (dCons (dVar 1) (dCons (dVar 2) (dCons (dVar 3) dNil))))))))))
theorem derRdFunc {k k_read_body k_skip k_token : Nat} (aReader : Addr) (sp_skip : Dl.Spec) (sp_token : Dl.Spec) (sp_read_body : Dl.Spec) (m_skip : MetD P w K mg base k_skip aReader "skip" 2 sp_skip) (hk_skip : k_skip ≤ k) (m_token : MetD P w K mg base k_token aReader "token" 1 sp_token) (hk_token : k_token ≤ k) (m_read_body : MetD P w K mg base k_read_body aReader "read_body" 1 sp_read_body) (hk_read_body : k_read_body ≤ k) (clReader : Cls K aReader) (naReader_at : NoAttr K aReader "at") (hB : Bi mg) (naReader_tokens : NoAttr K aReader "tokens") : DerD P w K mg base ["self", "name", "owner", "body"] "Reader.read_function" sRdFunc f k (rdRdFunc aReader sp_skip sp_token sp_read_body) := fun cdv A outer s H Ex G0 H0 C0 hr => (ds_cons (ds_expr (de_mt m_skip hr hk_skip (dv 0) (da_cons de_str da_nil))) (ds_cons (ds_set (i := 1) scRdFunc.nd rfl (Or.inl rfl) (de_mt0 m_token hr hk_token (dv 0))) (ds_cons (ds_set (i := 2) scRdFunc.nd rfl (Or.inl rfl) (de_mt0 m_token hr hk_token (dv 0))) (ds_cons (ds_set (i := 3) scRdFunc.nd rfl (Or.inl rfl) (de_mt0 m_read_body hr hk_read_body (dv 0))) (ds_cons (ds_if (dt_cmp op_lt m_cmpI (de_fld clReader naReader_at (dv 0)) (de_b1 o_len m_len (by rfl) hB.len PySem.boot_len (de_fld clReader naReader_tokens (dv 0))) (nomark _)) ds_never ds_nil) (ds_one (ds_ret (de_tup (da_cons (dv 1) (da_cons (dv 2) (da_cons (dv 3) da_nil)))))))))))
abbrev sRdTok : Stmt := inClass (top 39) 3
theorem scRdTok : FnScope ["self"] ["self"] (defScope sRdTok) := ⟨rfl, rfl, rfl, by decide +kernel, rfl, by decide +kernel, by decide +kernel⟩
def rdRdTok (aReader : Addr) : TSD := (sSeq (sIf (dTest (dOp (fun d e => (eqDD d e).map fun b => .dat (.bl b)) (dFld aReader "at" (dVar 0)) (dF1 lenD (dFld aReader "tokens" (dVar 0))))) (fun _ _ _ => False) sNext) (sSeq (sFldA aReader "at" (· + ·) (dVar 0) (dC (.int 1))) (sRet (dOp ixD (dFld aReader "tokens" (dVar 0)) (dOp subD (dFld aReader "at" (dVar 0)) (dC (.int 1)))))))
theorem derRdTok {k  : Nat} (aReader : Addr) (clReader : Cls K aReader) (naReader_at : NoAttr K aReader "at") (hB : Bi mg) (naReader_tokens : NoAttr K aReader "tokens") : DerD P w K mg base ["self"] "Reader.token" sRdTok f k (rdRdTok aReader) := fun cdv A outer s H Ex G0 H0 C0 hr => (ds_cons (ds_if (dt_cmp (o_eq hr.units) m_eq (de_fld clReader naReader_at (dv 0)) (de_b1 o_len m_len (by rfl) hB.len PySem.boot_len (de_fld clReader naReader_tokens (dv 0))) (nomark _)) ds_never ds_nil) (ds_cons (ds_fldadd clReader naReader_at (dv 0) de_int) (ds_one (ds_ret (de_ix (K := K) (de_fld clReader naReader_tokens (dv 0)) (de_op op_sub m_sub (de_fld clReader naReader_at (dv 0)) de_int) (fun _ _ => rfl))))))
abbrev sRdSkip : Stmt := inClass (top 39) 4
theorem scRdSkip : FnScope ["self", "wanted"] ["self", "wanted"] (defScope sRdSkip) := ⟨rfl, rfl, rfl, by decide +kernel, rfl, by decide +kernel, by decide +kernel⟩
def rdRdSkip (aReader : Addr) (sp_token : Dl.Spec) : TSD := (sIf (dTest (dOp (fun d e => (neDD d e).map fun b => .dat (.bl b)) (dMeth aReader "token" 1 sp_token [] (dVar 0) dNil) (dVar 1))) (fun _ _ _ => False) sNext)
theorem derRdSkip {k k_token : Nat} (aReader : Addr) (sp_token : Dl.Spec) (m_token : MetD P w K mg base k_token aReader "token" 1 sp_token) (hk_token : k_token ≤ k) : DerD P w K mg base ["self", "wanted"] "Reader.skip" sRdSkip f k (rdRdSkip aReader sp_token) := fun cdv A outer s H Ex G0 H0 C0 hr => (ds_one (ds_if (dt_cmp (o_ne hr.units) m_ne (de_mt0 m_token hr hk_token (dv 0)) (dv 1) (nomark _)) ds_never ds_nil))
abbrev sRdBody : Stmt := inClass (top 39) 5
theorem scRdBody : FnScope ["self", "steps", "word"] ["self"] (defScope sRdBody) := ⟨rfl, rfl, rfl, by decide +kernel, rfl, by decide +kernel, by decide +kernel⟩
def rdRdBody (aReader : Addr) (sp_skip : Dl.Spec) (sp_token : Dl.Spec) (sp_read_step : Dl.Spec) : TSD := (sSeq (sExpr (dMeth aReader "skip" 2 sp_skip [] (dVar 0) (dCons (dC (.str "{")) dNil))) (sSeq (sFldA aReader "depth" (· + ·) (dVar 0) (dC (.int 1))) (sSeq (sIf (dTest (dOp (cmpI fun i j => decide (j < i)) (dFld aReader "depth" (dVar 0)) (dC (.int 8)))) (fun _ _ _ => False) sNext) (sSeq (sSet 1 (dLst dNil)) (sSeq (sSet 2 (dMeth aReader "token" 1 sp_token [] (dVar 0) dNil)) (sSeq (sWh (dTest (dOp (fun d e => (neDD d e).map fun b => .dat (.bl b)) (dVar 2) (dC (.str "}")))) (sSeq (sExpr (dApp 1 (dMeth aReader "read_step" 2 sp_read_step [] (dVar 0) (dCons (dVar 2) dNil)))) (sSet 2 (dMeth aReader "token" 1 sp_token [] (dVar 0) dNil)))) (sSeq (sFldA aReader "depth" (· - ·) (dVar 0) (dC (.int 1))) (sRet (dVar 1)))))))))
theorem derRdBody {k k_read_step k_skip k_token : Nat} (aReader : Addr) (sp_skip : Dl.Spec) (sp_token : Dl.Spec) (sp_read_step : Dl.Spec) (m_skip : MetD P w K mg base k_skip aReader "skip" 2 sp_skip) (hk_skip : k_skip ≤ k) (clReader : Cls K aReader) (naReader_depth : NoAttr K aReader "depth") (gMOST_OPEN : ∃ u, mg "MOST_OPEN" = some u ∧ RelV (.int 8) u) (m_token : MetD P w K mg base k_token aReader "token" 1 sp_token) (hk_token : k_token ≤ k) (m_read_step : MetD P w K mg base k_read_step aReader "read_step" 2 sp_read_step) (hk_read_step : k_read_step ≤ k) : DerD P w K mg base ["self", "steps", "word"] "Reader.read_body" sRdBody f k (rdRdBody aReader sp_skip sp_token sp_read_step) := fun cdv A outer s H Ex G0 H0 C0 hr => (ds_cons (ds_expr (de_mt m_skip hr hk_skip (dv 0) (da_cons de_str da_nil))) (ds_cons (ds_fldadd clReader naReader_depth (dv 0) de_int) (ds_cons (ds_if (dt_cmp op_gt m_cmpI (de_fld clReader naReader_depth (dv 0)) (de_gc (by rfl) gMOST_OPEN (fun _ => .int 8)) (nomark _)) ds_never ds_nil) (ds_cons (ds_set (i := 1) scRdBody.nd rfl (Or.inl rfl) (de_lst da_nil)) (ds_cons (ds_set (i := 2) scRdBody.nd rfl (Or.inl rfl) (de_mt0 m_token hr hk_token (dv 0))) (ds_cons (ds_while PassesOwn.never (dt_cmp (o_ne hr.units) m_ne (dv 2) de_str (nomark _)) (ds_cons (ds_expr (de_app (i := 1) (pv 1) (de_mt m_read_step hr hk_read_step (dv 0) (da_cons (dv 2) da_nil)))) (ds_one (ds_set (i := 2) scRdBody.nd rfl (Or.inl rfl) (de_mt0 m_token hr hk_token (dv 0)))))) (ds_cons (ds_fldsub clReader naReader_depth (dv 0) de_int) (ds_one (ds_ret (dv 1))))))))))
abbrev sRdStep : Stmt := inClass (top 39) 6
theorem scRdStep : FnScope ["self", "word", "first"] ["self", "word"] (defScope sRdStep) := ⟨rfl, rfl, rfl, by decide +kernel, rfl, by decide +kernel, by decide +kernel⟩
def rdRdStep (aReader : Addr) (sp_token : Dl.Spec) (sp_read_body : Dl.Spec) (sp_skip : Dl.Spec) : TSD := (sSeq (sIf (dTest (dOp (fun d e => (inDD d e).map fun b => .dat (.bl b)) (dVar 1) (dTup (dCons (dC (.str "call")) (dCons (dC (.str "tail")) (dCons (dC (.str "check")) dNil)))))) (sRet (dTup (dCons (dVar 1) (dCons (dMeth aReader "token" 1 sp_token [] (dVar 0) dNil) dNil)))) sNext) (sSeq (sIf (dTest (dOp (fun d e => (eqDD d e).map fun b => .dat (.bl b)) (dVar 1) (dC (.str "back")))) (sRet (dTup (dCons (dVar 1) dNil))) sNext) (sSeq (sIf (dTest (dOp (fun d e => (eqDD d e).map fun b => .dat (.bl b)) (dVar 1) (dC (.str "loop")))) (sRet (dTup (dCons (dVar 1) (dCons (dMeth aReader "read_body" 1 sp_read_body [] (dVar 0) dNil) dNil)))) sNext) (sSeq (sIf (dTest (dOp (fun d e => (inDD d e).map fun b => .dat (.bl b)) (dVar 1) (dTup (dCons (dC (.str "block")) (dCons (dC (.str "marked")) dNil))))) (sRet (dTup (dCons (dC (.str "block")) (dCons (dOp (fun d e => (eqDD d e).map fun b => .dat (.bl b)) (dVar 1) (dC (.str "marked"))) (dCons (dMeth aReader "read_body" 1 sp_read_body [] (dVar 0) dNil) dNil))))) sNext) (sSeq (sIf (dTest (dOp (fun d e => (neDD d e).map fun b => .dat (.bl b)) (dVar 1) (dC (.str "either")))) (fun _ _ _ => False) sNext) (sSeq (sSet 2 (dMeth aReader "read_body" 1 sp_read_body [] (dVar 0) dNil)) (sSeq (sExpr (dMeth aReader "skip" 2 sp_skip [] (dVar 0) (dCons (dC (.str "or")) dNil))) (sRet (dTup (dCons (dVar 1) (dCons (dVar 2) (dCons (dMeth aReader "read_body" 1 sp_read_body [] (dVar 0) dNil) dNil))))))))))))
theorem derRdStep {k k_read_body k_skip k_token : Nat} (aReader : Addr) (sp_token : Dl.Spec) (sp_read_body : Dl.Spec) (sp_skip : Dl.Spec) (m_token : MetD P w K mg base k_token aReader "token" 1 sp_token) (hk_token : k_token ≤ k) (m_read_body : MetD P w K mg base k_read_body aReader "read_body" 1 sp_read_body) (hk_read_body : k_read_body ≤ k) (m_skip : MetD P w K mg base k_skip aReader "skip" 2 sp_skip) (hk_skip : k_skip ≤ k) : DerD P w K mg base ["self", "word", "first"] "Reader.read_step" sRdStep f k (rdRdStep aReader sp_token sp_read_body sp_skip) := fun cdv A outer s H Ex G0 H0 C0 hr => (ds_cons (ds_if (dt_cmp (o_in hr.units) m_in (dv 1) (de_tup (da_cons de_str (da_cons de_str (da_cons de_str da_nil)))) (by rfl)) (ds_one (ds_ret (de_tup (da_cons (dv 1) (da_cons (de_mt0 m_token hr hk_token (dv 0)) da_nil))))) ds_nil) (ds_cons (ds_if (dt_cmp (o_eq hr.units) m_eq (dv 1) de_str (nomark _)) (ds_one (ds_ret (de_tup (da_cons (dv 1) da_nil)))) ds_nil) (ds_cons (ds_if (dt_cmp (o_eq hr.units) m_eq (dv 1) de_str (nomark _)) (ds_one (ds_ret (de_tup (da_cons (dv 1) (da_cons (de_mt0 m_read_body hr hk_read_body (dv 0)) da_nil))))) ds_nil) (ds_cons (ds_if (dt_cmp (o_in hr.units) m_in (dv 1) (de_tup (da_cons de_str (da_cons de_str da_nil))) (by rfl)) (ds_one (ds_ret (de_tup (da_cons de_str (da_cons (de_cmp (o_eq hr.units) m_eq (dv 1) de_str (nomark _)) (da_cons (de_mt0 m_read_body hr hk_read_body (dv 0)) da_nil)))))) ds_nil) (ds_cons (ds_if (dt_cmp (o_ne hr.units) m_ne (dv 1) de_str (nomark _)) ds_never ds_nil) (ds_cons (ds_set (i := 2) scRdStep.nd rfl (Or.inl rfl) (de_mt0 m_read_body hr hk_read_body (dv 0))) (ds_cons (ds_expr (de_mt m_skip hr hk_skip (dv 0) (da_cons de_str da_nil))) (ds_one (ds_ret (de_tup (da_cons (dv 1) (da_cons (dv 2) (da_cons (de_mt0 m_read_body hr hk_read_body (dv 0)) da_nil)))))))))))))
abbrev sLStepTok : Stmt := top 53
theorem scLStepTok : FnScope ["step", "word"] ["step"] (defScope sLStepTok) := ⟨rfl, rfl, rfl, by decide +kernel, rfl, by decide +kernel, by decide +kernel⟩
def rdLStepTok (sp_law_braced : Dl.Spec) : TSD := (sSeq (sIf (dTest (dOp (fun d e => (inDD d e).map fun b => .dat (.bl b)) (dOp ixD (dVar 0) (dC (.int 0))) (dLst (dCons (dC (.str "call")) (dCons (dC (.str "tail")) (dCons (dC (.str "check")) dNil)))))) (sRet (dLst (dCons (dOp ixD (dVar 0) (dC (.int 0))) (dCons (dOp ixD (dVar 0) (dC (.int 1))) dNil)))) sNext) (sSeq (sIf (dTest (dOp (fun d e => (eqDD d e).map fun b => .dat (.bl b)) (dOp ixD (dVar 0) (dC (.int 0))) (dC (.str "back")))) (sRet (dLst (dCons (dC (.str "back")) dNil))) sNext) (sSeq (sIf (dTest (dOp (fun d e => (eqDD d e).map fun b => .dat (.bl b)) (dOp ixD (dVar 0) (dC (.int 0))) (dC (.str "either")))) (sRet (dOp addD (dOp addD (dOp addD (dLst (dCons (dC (.str "either")) dNil)) (dCall 1 sp_law_braced [] (dCons (dOp ixD (dVar 0) (dC (.int 1))) dNil))) (dLst (dCons (dC (.str "or")) dNil))) (dCall 1 sp_law_braced [] (dCons (dOp ixD (dVar 0) (dC (.int 2))) dNil)))) sNext) (sSeq (sSet 1 (dIf (dTest (dOp (fun d e => (eqDD d e).map fun b => .dat (.bl b)) (dOp ixD (dVar 0) (dC (.int 0))) (dC (.str "loop")))) (dC (.str "loop")) (dIf (dTru (dOp ixD (dVar 0) (dC (.int 1)))) (dC (.str "marked")) (dC (.str "block"))))) (sRet (dOp addD (dLst (dCons (dVar 1) dNil)) (dCall 1 sp_law_braced [] (dCons (dOp ixD (dVar 0) (dOp subD (dF1 lenD (dVar 0)) (dC (.int 1)))) dNil))))))))
theorem derLStepTok {k k_law_braced : Nat} (sp_law_braced : Dl.Spec) (c_law_braced : CalD P w K mg base k_law_braced "_law_braced" 1 sp_law_braced []) (hk_law_braced : k_law_braced ≤ k) (hB : Bi mg) : DerD P w K mg base ["step", "word"] "_law_step_tokens" sLStepTok f k (rdLStepTok sp_law_braced) := fun cdv A outer s H Ex G0 H0 C0 hr => (ds_cons (ds_if (dt_cmp (o_in hr.units) m_in (de_ix (K := K) (dv 0) de_int (fun _ _ => rfl)) (de_lst (da_cons de_str (da_cons de_str (da_cons de_str da_nil)))) (by rfl)) (ds_one (ds_ret (de_lst (da_cons (de_ix (K := K) (dv 0) de_int (fun _ _ => rfl)) (da_cons (de_ix (K := K) (dv 0) de_int (fun _ _ => rfl)) da_nil))))) ds_nil) (ds_cons (ds_if (dt_cmp (o_eq hr.units) m_eq (de_ix (K := K) (dv 0) de_int (fun _ _ => rfl)) de_str (nomark _)) (ds_one (ds_ret (de_lst (da_cons de_str da_nil)))) ds_nil) (ds_cons (ds_if (dt_cmp (o_eq hr.units) m_eq (de_ix (K := K) (dv 0) de_int (fun _ _ => rfl)) de_str (nomark _)) (ds_one (ds_ret (de_op o_add m_add (de_op o_add m_add (de_op o_add m_add (de_lst (da_cons de_str da_nil)) (de_c c_law_braced hr hk_law_braced (by rfl) (da_cons (de_ix (K := K) (dv 0) de_int (fun _ _ => rfl)) da_nil))) (de_lst (da_cons de_str da_nil))) (de_c c_law_braced hr hk_law_braced (by rfl) (da_cons (de_ix (K := K) (dv 0) de_int (fun _ _ => rfl)) da_nil))))) ds_nil) (ds_cons (ds_set (i := 1) scLStepTok.nd rfl (Or.inl rfl) (de_if (dt_cmp (o_eq hr.units) m_eq (de_ix (K := K) (dv 0) de_int (fun _ _ => rfl)) de_str (nomark _)) de_str (de_if (dt_tru (de_ix (K := K) (dv 0) de_int (fun _ _ => rfl))) de_str de_str))) (ds_one (ds_ret (de_op o_add m_add (de_lst (da_cons (dv 1) da_nil)) (de_c c_law_braced hr hk_law_braced (by rfl) (da_cons (de_ix (K := K) (dv 0) (de_op op_sub m_sub (de_b1 o_len m_len (by rfl) hB.len PySem.boot_len (dv 0)) de_int) (fun _ _ => rfl)) da_nil)))))))))
abbrev sLBraced : Stmt := top 54
theorem scLBraced : FnScope ["body", "found", "step"] ["body"] (defScope sLBraced) := ⟨rfl, rfl, rfl, by decide +kernel, rfl, by decide +kernel, by decide +kernel⟩
def rdLBraced (sp_law_step_tokens : Dl.Spec) : TSD := (sSeq (sSet 1 (dLst (dCons (dC (.str "{")) dNil))) (sSeq (sForL (dVar 0) (.one 2) (sSet 1 (dOp addD (dVar 1) (dCall 1 sp_law_step_tokens [] (dCons (dVar 2) dNil))))) (sRet (dOp addD (dVar 1) (dLst (dCons (dC (.str "}")) dNil))))))
theorem derLBraced {k k_law_step_tokens : Nat} (sp_law_step_tokens : Dl.Spec) (c_law_step_tokens : CalD P w K mg base k_law_step_tokens "_law_step_tokens" 1 sp_law_step_tokens []) (hk_law_step_tokens : k_law_step_tokens ≤ k) : DerD P w K mg base ["body", "found", "step"] "_law_braced" sLBraced f k (rdLBraced sp_law_step_tokens) := fun cdv A outer s H Ex G0 H0 C0 hr => (ds_cons (ds_set (i := 1) scLBraced.nd rfl (Or.inl rfl) (de_lst (da_cons de_str da_nil))) (ds_cons (ds_forL (tg := (.one 2)) PassesOwn.never rfl (dv 0) (pg_name (i := 2) scLBraced.nd rfl (Or.inl rfl)) (ds_one (ds_set (i := 1) scLBraced.nd rfl (Or.inl rfl) (de_op o_add m_add (dv 1) (de_c c_law_step_tokens hr hk_law_step_tokens (by rfl) (da_cons (dv 2) da_nil)))))) (ds_one (ds_ret (de_op o_add m_add (dv 1) (de_lst (da_cons de_str da_nil)))))))
abbrev sLLines : Stmt := top 55
theorem scLLines : FnScope ["parts", "found", "name", "rights", "owner", "body"] ["parts"] (defScope sLLines) := ⟨rfl, rfl, rfl, by decide +kernel, rfl, by decide +kernel, by decide +kernel⟩
def rdLLines (sp_law_braced : Dl.Spec) : TSD := (sSeq (sSet 1 (dLst (dCons (dOp addD (dLst (dCons (dC (.str "rights")) dNil)) (dOp ixD (dVar 0) (dC (.int 0)))) dNil))) (sSeq (sForL (dOp ixD (dVar 0) (dC (.int 1))) (.many [2, 3]) (sExpr (dApp 1 (dOp addD (dLst (dCons (dC (.str "owner")) (dCons (dVar 2) dNil))) (dVar 3))))) (sSeq (sForL (dOp ixD (dVar 0) (dC (.int 2))) (.many [2, 4, 5]) (sExpr (dApp 1 (dOp addD (dLst (dCons (dC (.str "function")) (dCons (dVar 2) (dCons (dVar 4) dNil)))) (dCall 1 sp_law_braced [] (dCons (dVar 5) dNil)))))) (sRet (dVar 1)))))
theorem derLLines {k k_law_braced : Nat} (sp_law_braced : Dl.Spec) (c_law_braced : CalD P w K mg base k_law_braced "_law_braced" 1 sp_law_braced []) (hk_law_braced : k_law_braced ≤ k) : DerD P w K mg base ["parts", "found", "name", "rights", "owner", "body"] "_law_lines" sLLines f k (rdLLines sp_law_braced) := fun cdv A outer s H Ex G0 H0 C0 hr => (ds_cons (ds_set (i := 1) scLLines.nd rfl (Or.inl rfl) (de_lst (da_cons (de_op o_add m_add (de_lst (da_cons de_str da_nil)) (de_ix (K := K) (dv 0) de_int (fun _ _ => rfl))) da_nil))) (ds_cons (ds_forL (tg := (.many [2, 3])) PassesOwn.never rfl (de_ix (K := K) (dv 0) de_int (fun _ _ => rfl)) (pg_tupK rfl (pgs_cons (pg_name (i := 2) scLLines.nd rfl (Or.inl rfl)) (pgs_cons (pg_name (i := 3) scLLines.nd rfl (Or.inl rfl)) pgs_nil))) (ds_one (ds_expr (de_app (i := 1) (pv 1) (de_op o_add m_add (de_lst (da_cons de_str (da_cons (dv 2) da_nil))) (dv 3)))))) (ds_cons (ds_forL (tg := (.many [2, 4, 5])) PassesOwn.never rfl (de_ix (K := K) (dv 0) de_int (fun _ _ => rfl)) (pg_tupK rfl (pgs_cons (pg_name (i := 2) scLLines.nd rfl (Or.inl rfl)) (pgs_cons (pg_name (i := 4) scLLines.nd rfl (Or.inl rfl)) (pgs_cons (pg_name (i := 5) scLLines.nd rfl (Or.inl rfl)) pgs_nil)))) (ds_one (ds_expr (de_app (i := 1) (pv 1) (de_op o_add m_add (de_lst (da_cons de_str (da_cons (dv 2) (da_cons (dv 4) da_nil)))) (de_c c_law_braced hr hk_law_braced (by rfl) (da_cons (dv 5) da_nil))))))) (ds_one (ds_ret (dv 1))))))
abbrev sLSpaced : Stmt := top 56
theorem scLSpaced : FnScope ["generator", "lines", "blanks", "rows", "tokens", "line", "at", "least"] ["generator", "lines"] (defScope sLSpaced) := ⟨rfl, rfl, rfl, by decide +kernel, rfl, by decide +kernel, by decide +kernel⟩
def rdLSpaced (sp_law_random : Dl.Spec) : TSD := (sSeq (sPar 2 3 (dLst (dCons (dC (.str "")) (dCons (dC (.str " ")) (dCons (dC (.str "  ")) (dCons (dC (.str "   ")) dNil))))) (dLst dNil)) (sSeq (sForL (dVar 1) (.one 4) (sSeq (sSet 5 (dOp addD (dOp ixD (dVar 2) (dCall 2 sp_law_random [] (dCons (dVar 0) (dCons (dC (.int 4)) dNil)))) (dOp ixD (dVar 4) (dC (.int 0))))) (sSeq (sForR2 (dCons (dC (.int 1)) (dCons (dF1 lenD (dVar 4)) dNil)) (.one 6) (sSeq (sSet 7 (dF1 intD (dAndV (dOp (fun d e => (inDD d e).map fun b => .dat (.bl (!b))) (dOp ixD (dVar 4) (dVar 6)) (dLst (dCons (dC (.str "{")) (dCons (dC (.str "}")) dNil)))) (dOp (fun d e => (inDD d e).map fun b => .dat (.bl (!b))) (dOp ixD (dVar 4) (dOp subD (dVar 6) (dC (.int 1)))) (dLst (dCons (dC (.str "{")) (dCons (dC (.str "}")) dNil))))))) (sSet 5 (dOp addD (dOp addD (dVar 5) (dOp ixD (dVar 2) (dOp addD (dVar 7) (dCall 2 sp_law_random [] (dCons (dVar 0) (dCons (dC (.int 3)) dNil)))))) (dOp ixD (dVar 4) (dVar 6)))))) (sSeq (sExpr (dApp 3 (dOp addD (dVar 5) (dOp ixD (dVar 2) (dCall 2 sp_law_random [] (dCons (dVar 0) (dCons (dC (.int 4)) dNil))))))) (sIf (dTest (dOp (fun d e => (eqDD d e).map fun b => .dat (.bl b)) (dCall 2 sp_law_random [] (dCons (dVar 0) (dCons (dC (.int 4)) dNil))) (dC (.int 0)))) (sExpr (dApp 3 (dOp ixD (dVar 2) (dCall 2 sp_law_random [] (dCons (dVar 0) (dCons (dC (.int 3)) dNil)))))) sNext))))) (sRet (dMt "str" joinD (dC (.str "\n")) (dCons (dOp addD (dOp addD (dOp mulD (dLst (dCons (dC (.str "")) dNil)) (dCall 2 sp_law_random [] (dCons (dVar 0) (dCons (dC (.int 2)) dNil)))) (dVar 3)) (dOp mulD (dLst (dCons (dC (.str "")) dNil)) (dCall 2 sp_law_random [] (dCons (dVar 0) (dCons (dC (.int 2)) dNil))))) dNil)))))
theorem derLSpaced {k k_law_random : Nat} (sp_law_random : Dl.Spec) (c_law_random : CalD P w K mg base k_law_random "_law_random" 2 sp_law_random []) (hk_law_random : k_law_random ≤ k) (hB : Bi mg) : DerD P w K mg base ["generator", "lines", "blanks", "rows", "tokens", "line", "at", "least"] "_law_spaced" sLSpaced f k (rdLSpaced sp_law_random) := fun cdv A outer s H Ex G0 H0 C0 hr => (ds_cons (ds_par (i := 2) (j := 3) rfl scLSpaced.nd rfl rfl (by decide) rfl rfl (de_lst (da_cons de_str (da_cons de_str (da_cons de_str (da_cons de_str da_nil))))) (de_lst da_nil)) (ds_cons (ds_forL (tg := (.one 4)) PassesOwn.never rfl (dv 1) (pg_name (i := 4) scLSpaced.nd rfl (Or.inl rfl)) (ds_cons (ds_set (i := 5) scLSpaced.nd rfl (Or.inl rfl) (de_op o_add m_add (de_ix (K := K) (dv 2) (de_c c_law_random hr hk_law_random (by rfl) (da_cons (dv 0) (da_cons de_int da_nil))) (fun _ _ => rfl)) (de_ix (K := K) (dv 4) de_int (fun _ _ => rfl)))) (ds_cons (ds_forR2 (tg := (.one 6)) PassesOwn.never rfl (by rfl) hB.range (da_cons de_int (da_cons (de_b1 o_len m_len (by rfl) hB.len PySem.boot_len (dv 4)) da_nil)) (pg_name (i := 6) scLSpaced.nd rfl (Or.inl rfl)) (ds_cons (ds_set (i := 7) scLSpaced.nd rfl (Or.inl rfl) (de_t1 o_int m_int (by rfl) hB.int (by decide +kernel) (de_and (de_cmp (o_notIn hr.units) m_notIn (de_ix (K := K) (dv 4) (dv 6) (fun _ _ => rfl)) (de_lst (da_cons de_str (da_cons de_str da_nil))) (by rfl)) (de_one (de_cmp (o_notIn hr.units) m_notIn (de_ix (K := K) (dv 4) (de_op op_sub m_sub (dv 6) de_int) (fun _ _ => rfl)) (de_lst (da_cons de_str (da_cons de_str da_nil))) (by rfl)))))) (ds_one (ds_set (i := 5) scLSpaced.nd rfl (Or.inl rfl) (de_op o_add m_add (de_op o_add m_add (dv 5) (de_ix (K := K) (dv 2) (de_op o_add m_add (dv 7) (de_c c_law_random hr hk_law_random (by rfl) (da_cons (dv 0) (da_cons de_int da_nil)))) (fun _ _ => rfl))) (de_ix (K := K) (dv 4) (dv 6) (fun _ _ => rfl))))))) (ds_cons (ds_expr (de_app (i := 3) (pv 3) (de_op o_add m_add (dv 5) (de_ix (K := K) (dv 2) (de_c c_law_random hr hk_law_random (by rfl) (da_cons (dv 0) (da_cons de_int da_nil))) (fun _ _ => rfl))))) (ds_one (ds_if (dt_cmp (o_eq hr.units) m_eq (de_c c_law_random hr hk_law_random (by rfl) (da_cons (dv 0) (da_cons de_int da_nil))) de_int (nomark _)) (ds_one (ds_expr (de_app (i := 3) (pv 3) (de_ix (K := K) (dv 2) (de_c c_law_random hr hk_law_random (by rfl) (da_cons (dv 0) (da_cons de_int da_nil))) (fun _ _ => rfl))))) ds_nil)))))) (ds_one (ds_ret (de_mtd PySem.F.plainAttrs_str PySem.F.slot_str_join PySem.F.type_str_join o_join m_join de_str (da_cons (de_op o_add m_add (de_op o_add m_add (de_op o_mul m_mul (de_lst (da_cons de_str da_nil)) (de_c c_law_random hr hk_law_random (by rfl) (da_cons (dv 0) (da_cons de_int da_nil)))) (dv 3)) (de_op o_mul m_mul (de_lst (da_cons de_str da_nil)) (de_c c_law_random hr hk_law_random (by rfl) (da_cons (dv 0) (da_cons de_int da_nil))))) da_nil))))))
end
end Lx

set_option Elab.async false
set_option maxRecDepth 100000
set_option linter.all false
set_option maxHeartbeats 4000000
namespace Lx
open PySem PySem.Spec PyProof.Rows L2 Evl Kx
open Dl hiding Stp Spec
/-! ### the tokens of a body -/
abbrev qO : Str := "{"
abbrev qC : Str := "}"
mutual
def tokS : Kx.Stp → List Str
  | .call n => ["call", n]
  | .tail n => ["tail", n]
  | .check r => ["check", r]
  | .back => ["back"]
  | .either a b => ("either" : Str) :: qO :: (tokI a ++ qC :: ("or" : Str) :: qO :: (tokI b ++ [qC]))
  | .loop b => ("loop" : Str) :: qO :: (tokI b ++ [qC])
  | .block m b => (cond m ("marked" : Str) "block") :: qO :: (tokI b ++ [qC])
def tokI : List Kx.Stp → List Str
  | [] => []
  | s :: r => tokS s ++ tokI r
end
def tokB (b : List Kx.Stp) : List Str := qO :: (tokI b ++ [qC])
theorem tokI_app : ∀ a b : List Kx.Stp, tokI (a ++ b) = tokI a ++ tokI b
  | [], b => rfl
  | s :: r, b => by simp only [List.cons_append, tokI, tokI_app r b, List.append_assoc]
mutual
theorem tokS_len : ∀ s : Kx.Stp, (tokS s).length ≤ 6 * cntS s
  | .call n => by simp only [tokS, cntS, List.length_cons, List.length_nil]; omega
  | .tail n => by simp only [tokS, cntS, List.length_cons, List.length_nil]; omega
  | .check n => by simp only [tokS, cntS, List.length_cons, List.length_nil]; omega
  | .back => by simp only [tokS, cntS, List.length_cons, List.length_nil]; omega
  | .either a b => by
    have := tokI_len a
    have := tokI_len b
    simp only [tokS, cntS, List.length_cons, List.length_nil, List.length_append]
    omega
  | .loop b => by
    have := tokI_len b
    simp only [tokS, cntS, List.length_cons, List.length_nil, List.length_append]
    omega
  | .block m b => by
    have := tokI_len b
    simp only [tokS, cntS, List.length_cons, List.length_nil, List.length_append]
    omega
theorem tokI_len : ∀ b : List Kx.Stp, (tokI b).length ≤ 6 * cntB b
  | [] => by simp only [tokI, cntB, List.length_nil]; omega
  | s :: r => by
    have := tokS_len s
    have := tokI_len r
    simp only [tokI, cntB, List.length_append]
    omega
end
def spTokB (p : List Kx.Stp → Prop) : Dl.Spec := fun ds C Q => ∃ b, ds = [.lst (bodyX b)] ∧ p b ∧ Q (strsX (tokB b)) C
def spTokS (p : Kx.Stp → Prop) : Dl.Spec := fun ds C Q => ∃ s, ds = [stpX s] ∧ p s ∧ Q (strsX (tokS s)) C
theorem meets_stepTok {p : Kx.Stp → Prop} {pb : List Kx.Stp → Prop} (h2 : ∀ a b, p (.either a b) → pb a ∧ pb b) (h1 : ∀ a, p (.loop a) → pb a) (h3 : ∀ m a, p (.block m a) → pb a) (hc : ∀ s, p s → cntS s ≤ 4096) : Meets ["step", "word"] 1 (spTokS p) (rdStepTok (spTokB pb)) := by
  rintro ds C Qd _ ⟨s, rfl, hp, q⟩
  have hl := tokS_len s
  have hc := hc s hp
  cases s with
  | call n =>
    simp only [stpX]
    refine ⟨_, rfl, by simp [startD], _, rfl, _, rfl, iteN (by decide +kernel) ⟨_, rfl, _, rfl, iteN (by decide +kernel) ⟨_, rfl, _, rfl, iteN (by decide +kernel) ⟨_, rfl, C, List.Sublist.refl C, q⟩⟩⟩⟩
  | tail n =>
    simp only [stpX]
    refine ⟨_, rfl, by simp [startD], _, rfl, _, rfl, iteN (by decide +kernel) ⟨_, rfl, _, rfl, iteN (by decide +kernel) ⟨_, rfl, _, rfl, iteN (by decide +kernel) ⟨_, rfl, C, List.Sublist.refl C, q⟩⟩⟩⟩
  | check n =>
    simp only [stpX]
    refine ⟨_, rfl, by simp [startD], _, rfl, _, rfl, iteN (by decide +kernel) ⟨_, rfl, _, rfl, iteN (by decide +kernel) ⟨_, rfl, _, rfl, iteN (by decide +kernel) ⟨_, rfl, C, List.Sublist.refl C, q⟩⟩⟩⟩
  | back =>
    simp only [stpX]
    refine ⟨_, rfl, by simp [startD], _, rfl, _, rfl, iteN (by decide +kernel) ⟨_, rfl, _, rfl, iteN (by decide +kernel) ⟨_, rfl, _, rfl, iteN (by decide +kernel) ⟨_, rfl, C, List.Sublist.refl C, q⟩⟩⟩⟩
  | loop b =>
    simp only [stpX]
    simp only [tokS, cntS, List.length_cons, List.length_append, List.length_nil] at hl hc
    refine ⟨_, rfl, by simp [startD], _, rfl, _, rfl, iteN (by decide +kernel) ⟨_, rfl, _, rfl, iteY (by decide +kernel) ⟨by decide, _, rfl, rfl, b, rfl, h1 b hp, _, add_lst (by simp [tokB, strsX]; omega), C, List.Sublist.refl C, ?_⟩⟩⟩
    exact q
  | block m b =>
    simp only [stpX]
    simp only [tokS, cntS, List.length_cons, List.length_append, List.length_nil] at hl hc
    refine ⟨_, rfl, by simp [startD], _, rfl, _, rfl, iteN (by decide +kernel) ⟨_, rfl, _, rfl, iteN (by decide +kernel) ⟨_, rfl, _, rfl, iteY (by decide +kernel) ⟨_, rfl, _, rfl, ?_⟩⟩⟩⟩
    cases m with
    | true => exact iteT ⟨by decide, _, rfl, rfl, b, rfl, h3 _ b hp, _, add_lst (by simp [tokB, strsX]; omega), C, List.Sublist.refl C, q⟩
    | false => exact iteF ⟨by decide, _, rfl, rfl, b, rfl, h3 _ b hp, _, add_lst (by simp [tokB, strsX]; omega), C, List.Sublist.refl C, q⟩
  | either a b =>
    simp only [stpX]
    simp only [tokS, cntS, List.length_cons, List.length_append, List.length_nil] at hl hc
    obtain ⟨ha, hb⟩ := h2 a b hp
    refine ⟨_, rfl, by simp [startD], _, rfl, _, rfl, iteY (by decide +kernel) ⟨by decide, _, rfl, rfl, a, rfl, ha, _, add_lst (by simp [tokB, strsX]; omega), by decide, _, add_lst (by simp [tokB, strsX]; omega), _, rfl, rfl, b, rfl, hb, _, add_lst (by simp [tokB, strsX]; omega), C, List.Sublist.refl C, ?_⟩⟩
    simpa [tokB, strsX, tokS] using q
theorem meets_bodyTok {p : Kx.Stp → Prop} {pb : List Kx.Stp → Prop} (hs : ∀ b s, pb b → s ∈ b → p s) (hc : ∀ b, pb b → cntB b ≤ 4096) : Meets ["body", "tokens", "step"] 1 (spTokB pb) (rdBodyTok (spTokS p)) := by
  rintro ds C Qd _ ⟨b, rfl, hp, q⟩
  have hl := tokI_len b
  have hc := hc b hp
  rw [bodyX_map]
  refine ⟨by decide, by simp [startD], _, rfl, ?_⟩
  refine forD_pre (g := stpX) (fun done sl C' => C' = C ∧ ∃ z, sl = [.va (.lst (b.map stpX)), .ow (.lst ((qO :: tokI done).map .str)), z]) ⟨rfl, _, rfl⟩ ?_ ?_
  · rintro done x rest sl C' N e ⟨rfl, z, rfl⟩ k
    refine ⟨_, rfl, ⟨_, rfl⟩, rfl, x, rfl, hs b x hp (by rw [e]; simp), _, _, rfl, rfl, ?_, k _ _ ⟨rfl, .va (stpX x), ?_⟩⟩
    · have := congrArg (fun l => (tokI l).length) e
      simp only [tokI_app, tokI, List.length_append] at this
      simp [strsX]
      omega
    · simp [tokI_app, tokI, strsX]
  · rintro sl C' ⟨rfl, z, rfl⟩
    refine ⟨⟨_, rfl⟩, _, rfl, by simp; omega, C', List.Sublist.refl C', ?_⟩
    simpa [tokB, strsX] using q
theorem meets_LStepTok {p : Kx.Stp → Prop} {pb : List Kx.Stp → Prop} (h2 : ∀ a b, p (.either a b) → pb a ∧ pb b) (h1 : ∀ a, p (.loop a) → pb a) (h3 : ∀ m a, p (.block m a) → pb a) (hc : ∀ s, p s → cntS s ≤ 4096) : Meets ["step", "word"] 1 (spTokS p) (rdLStepTok (spTokB pb)) := by
  rintro ds C Qd _ ⟨s, rfl, hp, q⟩
  have hl := tokS_len s
  have hc := hc s hp
  cases s with
  | call n =>
    simp only [stpX]
    exact ⟨_, rfl, by decide, _, rfl, _, rfl, iteY (by decide +kernel) ⟨_, rfl, _, rfl, by simp, C, List.Sublist.refl C, q⟩⟩
  | tail n =>
    simp only [stpX]
    exact ⟨_, rfl, by decide, _, rfl, _, rfl, iteY (by decide +kernel) ⟨_, rfl, _, rfl, by simp, C, List.Sublist.refl C, q⟩⟩
  | check n =>
    simp only [stpX]
    exact ⟨_, rfl, by decide, _, rfl, _, rfl, iteY (by decide +kernel) ⟨_, rfl, _, rfl, by simp, C, List.Sublist.refl C, q⟩⟩
  | back =>
    simp only [stpX]
    exact ⟨_, rfl, by decide, _, rfl, _, rfl, iteN (by decide +kernel) ⟨_, rfl, _, rfl, _, rfl, iteY (by decide +kernel) ⟨by simp, C, List.Sublist.refl C, q⟩⟩⟩
  | loop b =>
    simp only [stpX]
    simp only [tokS, cntS, List.length_cons, List.length_append, List.length_nil] at hl hc
    refine ⟨_, rfl, by decide, _, rfl, _, rfl, iteN (by decide +kernel) ⟨_, rfl, _, rfl, _, rfl, iteN (by decide +kernel) ⟨_, rfl, _, rfl, _, rfl, iteN (by decide +kernel) ⟨_, rfl, _, rfl, _, rfl, iteY (by decide +kernel) ⟨by simp [startD], by simp, _, rfl, _, rfl, _, rfl, rfl, b, rfl, h1 b hp, _, add_lst (by simp [tokB, strsX]; omega), C, List.Sublist.refl C, ?_⟩⟩⟩⟩⟩
    exact q
  | block m b =>
    simp only [stpX]
    simp only [tokS, cntS, List.length_cons, List.length_append, List.length_nil] at hl hc
    refine ⟨_, rfl, by decide, _, rfl, _, rfl, iteN (by decide +kernel) ⟨_, rfl, _, rfl, _, rfl, iteN (by decide +kernel) ⟨_, rfl, _, rfl, _, rfl, iteN (by decide +kernel) ⟨_, rfl, _, rfl, _, rfl, iteN (by decide +kernel) ⟨_, rfl, _, rfl, ?_⟩⟩⟩⟩⟩
    cases m with
    | true => exact iteT ⟨by simp [startD], by simp, _, rfl, _, rfl, _, rfl, rfl, b, rfl, h3 _ b hp, _, add_lst (by simp [tokB, strsX]; omega), C, List.Sublist.refl C, q⟩
    | false => exact iteF ⟨by simp [startD], by simp, _, rfl, _, rfl, _, rfl, rfl, b, rfl, h3 _ b hp, _, add_lst (by simp [tokB, strsX]; omega), C, List.Sublist.refl C, q⟩
  | either a b =>
    simp only [stpX]
    simp only [tokS, cntS, List.length_cons, List.length_append, List.length_nil] at hl hc
    obtain ⟨ha, hb⟩ := h2 a b hp
    refine ⟨_, rfl, by decide, _, rfl, _, rfl, iteN (by decide +kernel) ⟨_, rfl, _, rfl, _, rfl, iteN (by decide +kernel) ⟨_, rfl, _, rfl, _, rfl, iteY (by decide +kernel) ⟨by simp, _, rfl, rfl, a, rfl, ha, _, add_lst (by simp [tokB, strsX]; omega), by simp, _, add_lst (by simp [tokB, strsX]; omega), _, rfl, rfl, b, rfl, hb, _, add_lst (by simp [tokB, strsX]; omega), C, List.Sublist.refl C, ?_⟩⟩⟩⟩
    simpa [tokB, strsX, tokS] using q
theorem meets_LBraced {p : Kx.Stp → Prop} {pb : List Kx.Stp → Prop} (hs : ∀ b s, pb b → s ∈ b → p s) (hc : ∀ b, pb b → cntB b ≤ 4096) : Meets ["body", "found", "step"] 1 (spTokB pb) (rdLBraced (spTokS p)) := by
  rintro ds C Qd _ ⟨b, rfl, hp, q⟩
  have hl := tokI_len b
  have hc := hc b hp
  rw [bodyX_map]
  refine ⟨by decide, by simp [startD], _, rfl, ?_⟩
  refine forD_pre (g := stpX) (fun done sl C' => C' = C ∧ ∃ z, sl = [.va (.lst (b.map stpX)), .ow (.lst ((qO :: tokI done).map .str)), z]) ⟨rfl, _, rfl⟩ ?_ ?_
  · rintro done x rest sl C' N e ⟨rfl, z, rfl⟩ k
    have hx : (tokI done).length + (tokS x).length ≤ (tokI b).length := by
      rw [e, tokI_app, List.length_append]
      simp only [tokI, List.length_append]
      omega
    refine ⟨_, rfl, rfl, x, rfl, hs b x hp (by rw [e]; simp), _, add_lst (by simp [strsX]; omega), by simp, k _ _ ⟨rfl, .va (stpX x), ?_⟩⟩
    simp [tokI_app, tokI, strsX]
  · rintro sl C' ⟨rfl, z, rfl⟩
    refine ⟨by simp, _, add_lst (by simp; omega), C', List.Sublist.refl C', ?_⟩
    simpa [tokB, strsX] using q
/-! ### together -/
section
variable {P : Program} {w : World} {K : PySem.W.Frag} {mg : Str → Option Value} {base : Heap}
def nokB (n : Nat) (b : List Kx.Stp) : Prop := nstB b < n ∧ cntB b ≤ 4096
def nokS (n : Nat) (s : Kx.Stp) : Prop := nstS s < n ∧ cntS s ≤ 4096
theorem nok_mem {n : Nat} {b : List Kx.Stp} {s : Kx.Stp} (h : nokB n b) (m : s ∈ b) : nokS n s := by
  have : nstS s ≤ nstB b ∧ cntS s ≤ cntB b := by
    clear h
    induction b with
    | nil => cases m
    | cons t r ih =>
      simp only [nstB, cntB]
      rcases List.mem_cons.mp m with rfl | m
      · exact ⟨Nat.le_max_left .., by omega⟩
      · have := ih m
        exact ⟨Nat.le_trans this.1 (Nat.le_max_right ..), by omega⟩
  exact ⟨Nat.lt_of_le_of_lt this.1 h.1, Nat.le_trans this.2 h.2⟩
theorem nok_either {n : Nat} {a b : List Kx.Stp} (h : nokS (n + 1) (.either a b)) : nokB n a ∧ nokB n b := by
  obtain ⟨h1, h2⟩ := h
  simp only [nstS, cntS] at h1 h2
  have := Nat.le_max_left (nstB a) (nstB b)
  have := Nat.le_max_right (nstB a) (nstB b)
  exact ⟨⟨by omega, by omega⟩, ⟨by omega, by omega⟩⟩
theorem nok_loop {n : Nat} {a : List Kx.Stp} (h : nokS (n + 1) (.loop a)) : nokB n a := by
  obtain ⟨h1, h2⟩ := h
  simp only [nstS, cntS] at h1 h2
  exact ⟨by omega, by omega⟩
theorem nok_block {n : Nat} {m : Bool} {a : List Kx.Stp} (h : nokS (n + 1) (.block m a)) : nokB n a := by
  obtain ⟨h1, h2⟩ := h
  simp only [nstS, cntS] at h1 h2
  exact ⟨by omega, by omega⟩
theorem nok0 {b : List Kx.Stp} : ¬ nokB 0 b := fun h => absurd h.1 (Nat.not_lt_zero _)
theorem nokS0 {b : Kx.Stp} : ¬ nokS 0 b := fun h => absurd h.1 (Nat.not_lt_zero _)
theorem cal_tok {fB fS : Addr} {fdB fdS : FuncData} (FB : DefD K mg "body_tokens" sBodyTok fB fdB) (bB : Binds K fdB ["body"] []) (FS : DefD K mg "step_tokens" sStepTok fS fdS) (bS : Binds K fdS ["step"] []) (hB : Bi mg) :
    ∀ n : Nat, CalD P w K mg base (2 * n + 1) "body_tokens" 1 (spTokB (nokB n)) []
  | 0 => calNo FB bB scBodyTok fun ds C Q ⟨b, _, h, _⟩ => nok0 h
  | n + 1 => by
    have cs : CalD P w K mg base (2 * n + 2) "step_tokens" 1 (spTokS (nokS (n + 1))) [] :=
      calE FS bS scStepTok rfl (by decide) (derStepTok (spTokB (nokB n)) (cal_tok FB bB FS bS hB n) (Nat.le_refl _) hB) (meets_stepTok (fun a b h => nok_either h) (fun a h => nok_loop h) (fun m a h => nok_block h) fun s h => h.2)
    exact calE FB bB scBodyTok rfl (by decide) (derBodyTok _ cs (Nat.le_refl _)) (meets_bodyTok (fun b s h m => nok_mem h m) fun b h => h.2)
theorem cal_braced {fB fS : Addr} {fdB fdS : FuncData} (FB : DefD K mg "_law_braced" sLBraced fB fdB) (bB : Binds K fdB ["body"] []) (FS : DefD K mg "_law_step_tokens" sLStepTok fS fdS) (bS : Binds K fdS ["step"] []) (hB : Bi mg) :
    ∀ n : Nat, CalD P w K mg base (2 * n + 1) "_law_braced" 1 (spTokB (nokB n)) []
  | 0 => calNo FB bB scLBraced fun ds C Q ⟨b, _, h, _⟩ => nok0 h
  | n + 1 => by
    have cs : CalD P w K mg base (2 * n + 2) "_law_step_tokens" 1 (spTokS (nokS (n + 1))) [] :=
      calE FS bS scLStepTok rfl (by decide) (derLStepTok (spTokB (nokB n)) (cal_braced FB bB FS bS hB n) (Nat.le_refl _) hB) (meets_LStepTok (fun a b h => nok_either h) (fun a h => nok_loop h) (fun m a h => nok_block h) fun s h => h.2)
    exact calE FB bB scLBraced rfl (by decide) (derLBraced _ cs (Nat.le_refl _)) (meets_LBraced (fun b s h m => nok_mem h m) fun b h => h.2)
end
end Lx

set_option Elab.async false
set_option maxRecDepth 100000
set_option linter.all false
set_option maxHeartbeats 4000000
namespace Lx
open PySem PySem.Spec PyProof.Rows L2 Evl Kx
open Dl hiding Stp Spec
/-! ### the text of a program -/
theorem join_len (s : Str) : ∀ ws : List Str, (Str.join s ws).length ≤ (ws.map (·.length)).sum + ws.length * s.length
  | [] => by
    show (Str.empty).length ≤ _
    rw [show (Str.empty).length = 0 by decide +kernel]
    exact Nat.zero_le _
  | [x] => by simp [Str.join]
  | x :: y :: r => by
    have := join_len s (y :: r)
    show (x ++ s ++ Str.join s (y :: r)).length ≤ _
    rw [PySem.Str.length_append, PySem.Str.length_append]
    simp only [List.map_cons, List.sum_cons, List.length_cons] at this ⊢
    rw [Nat.succ_mul]
    omega
theorem sum_le {ws : List Str} {m : Nat} (h : ∀ x ∈ ws, x.length ≤ m) : (ws.map (·.length)).sum ≤ ws.length * m := by
  induction ws with
  | nil => simp
  | cons x r ih =>
    have := ih fun y hy => h y (List.mem_cons_of_mem _ hy)
    have := h x List.mem_cons_self
    simp only [List.map_cons, List.sum_cons, List.length_cons, Nat.succ_mul]
    omega
abbrev wR : Str := "rights"
abbrev wO : Str := "owner"
abbrev wF : Str := "function"
def linesOf (q : Prt) : List (List Str) := [wR :: q.rs] ++ q.os.map (fun o => wO :: o.1 :: o.2) ++ q.fs.map (fun f => wF :: f.1 :: f.2.1 :: tokB f.2.2)
def lineT (ts : List Str) : Str := Str.join " " ts
def textOf (q : Prt) : Str := Str.join "\n" ((linesOf q).map lineT)
mutual
/-- every name within a body -/
def allNS (p : Str → Prop) : Kx.Stp → Prop
  | .call n => p n
  | .tail n => p n
  | .check n => p n
  | .back => True
  | .either a b => allNB p a ∧ allNB p b
  | .loop b => allNB p b
  | .block _ b => allNB p b
def allNB (p : Str → Prop) : List Kx.Stp → Prop
  | [] => True
  | s :: r => allNS p s ∧ allNB p r
end
/-- words of a text's lines -/
def wordsT : List Str := ["call", "tail", "check", "back", "either", "or", "loop", "block", "marked", "{", "}", "rights", "owner", "function"]
mutual
theorem tokS_mem {p : Str → Prop} (hw : ∀ x ∈ wordsT, p x) : ∀ {s : Kx.Stp}, allNS p s → ∀ x ∈ tokS s, p x
  | .call n, h, x, m => by
    simp only [tokS, List.mem_cons, List.not_mem_nil, or_false] at m
    rcases m with rfl | rfl
    · exact hw _ (by decide +kernel)
    · simpa only [allNS] using h
  | .tail n, h, x, m => by
    simp only [tokS, List.mem_cons, List.not_mem_nil, or_false] at m
    rcases m with rfl | rfl
    · exact hw _ (by decide +kernel)
    · simpa only [allNS] using h
  | .check n, h, x, m => by
    simp only [tokS, List.mem_cons, List.not_mem_nil, or_false] at m
    rcases m with rfl | rfl
    · exact hw _ (by decide +kernel)
    · simpa only [allNS] using h
  | .back, h, x, m => by
    simp only [tokS, List.mem_cons, List.not_mem_nil, or_false] at m
    subst m
    exact hw _ (by decide +kernel)
  | .either a b, h, x, m => by
    simp only [allNS] at h
    simp only [tokS, List.mem_cons, List.mem_append, List.not_mem_nil, or_false] at m
    rcases m with rfl | rfl | m | rfl | rfl | rfl | m | rfl
    · exact hw _ (by decide +kernel)
    · exact hw _ (by decide +kernel)
    · exact tokI_mem hw h.1 x m
    · exact hw _ (by decide +kernel)
    · exact hw _ (by decide +kernel)
    · exact hw _ (by decide +kernel)
    · exact tokI_mem hw h.2 x m
    · exact hw _ (by decide +kernel)
  | .loop b, h, x, m => by
    simp only [allNS] at h
    simp only [tokS, List.mem_cons, List.mem_append, List.not_mem_nil, or_false] at m
    rcases m with rfl | rfl | m | rfl
    · exact hw _ (by decide +kernel)
    · exact hw _ (by decide +kernel)
    · exact tokI_mem hw h x m
    · exact hw _ (by decide +kernel)
  | .block k b, h, x, m => by
    simp only [allNS] at h
    simp only [tokS, List.mem_cons, List.mem_append, List.not_mem_nil, or_false] at m
    rcases m with rfl | rfl | m | rfl
    · cases k
      · exact hw _ (by decide +kernel)
      · exact hw _ (by decide +kernel)
    · exact hw _ (by decide +kernel)
    · exact tokI_mem hw h x m
    · exact hw _ (by decide +kernel)
theorem tokI_mem {p : Str → Prop} (hw : ∀ x ∈ wordsT, p x) : ∀ {b : List Kx.Stp}, allNB p b → ∀ x ∈ tokI b, p x
  | [], h, x, m => by cases m
  | s :: r, h, x, m => by
    simp only [allNB] at h
    simp only [tokI, List.mem_append] at m
    rcases m with m | m
    · exact tokS_mem hw h.1 x m
    · exact tokI_mem hw h.2 x m
end
theorem tokB_mem {p : Str → Prop} (hw : ∀ x ∈ wordsT, p x) {b : List Kx.Stp} (h : allNB p b) : ∀ x ∈ tokB b, p x := fun x m => by
  simp only [tokB, List.mem_cons, List.mem_append, List.not_mem_nil, or_false] at m
  rcases m with rfl | m | rfl
  · exact hw _ (by decide +kernel)
  · exact tokI_mem hw h x m
  · exact hw _ (by decide +kernel)
/-- a name as a token: not empty, no blank, no brace, no line's end, at most 8 signs -/
def tokOk (x : Str) : Prop := x.length ≤ 8 ∧ 0 < x.length ∧ ∀ c ∈ x.cps.toList, c ≠ 32 ∧ c ≠ 10 ∧ c ≠ 123 ∧ c ≠ 125
/-- parts whose text is told -/
structure TxtOk (n : Nat) (q : Prt) : Prop where
  rl : q.rs.length ≤ 60
  ol : q.os.length ≤ 6
  fl : q.fs.length ≤ 6
  rn : ∀ r ∈ q.rs, tokOk r
  on : ∀ o ∈ q.os, tokOk o.1 ∧ o.2.length ≤ 60 ∧ ∀ r ∈ o.2, tokOk r
  fn : ∀ f ∈ q.fs, tokOk f.1 ∧ tokOk f.2.1 ∧ nstB f.2.2 < n ∧ cntB f.2.2 ≤ 300 ∧ allNB tokOk f.2.2
def shortT (x : Str) : Prop := x.length ≤ 8
theorem words_short : ∀ x ∈ wordsT, shortT x := by
  have : wordsT.all (fun x => decide (x.length ≤ 8)) = true := by decide +kernel
  intro x hx
  have := List.all_eq_true.mp this x hx
  rw [decide_eq_true_eq] at this
  exact this
mutual
theorem allNS_mono {p p' : Str → Prop} (h : ∀ x, p x → p' x) : ∀ {s : Kx.Stp}, allNS p s → allNS p' s
  | .call n, a => by simp only [allNS] at a ⊢; exact h _ a
  | .tail n, a => by simp only [allNS] at a ⊢; exact h _ a
  | .check n, a => by simp only [allNS] at a ⊢; exact h _ a
  | .back, _ => by simp only [allNS]
  | .either b c, a => by simp only [allNS] at a ⊢; exact ⟨allNB_mono h a.1, allNB_mono h a.2⟩
  | .loop b, a => by simp only [allNS] at a ⊢; exact allNB_mono h a
  | .block _ b, a => by simp only [allNS] at a ⊢; exact allNB_mono h a
theorem allNB_mono {p p' : Str → Prop} (h : ∀ x, p x → p' x) : ∀ {s : List Kx.Stp}, allNB p s → allNB p' s
  | [], _ => by simp only [allNB]
  | s :: r, a => by simp only [allNB] at a ⊢; exact ⟨allNS_mono h a.1, allNB_mono h a.2⟩
end
theorem line_mem {n : Nat} {q : Prt} (h : TxtOk n q) : ∀ l ∈ linesOf q, l.length ≤ 1900 ∧ ∀ x ∈ l, shortT x := by
  intro l hl
  simp only [linesOf, List.mem_append, List.mem_cons, List.not_mem_nil, or_false, List.mem_map] at hl
  rcases hl with (rfl | ⟨o, ho, rfl⟩) | ⟨f, hf, rfl⟩
  · have := h.rl
    refine ⟨by simp only [List.length_cons]; omega, fun x hx => ?_⟩
    rcases List.mem_cons.mp hx with rfl | hx
    · exact words_short _ (by decide +kernel)
    · exact (h.rn x hx).1
  · obtain ⟨h1, h2, h3⟩ := h.on o ho
    refine ⟨by simp only [List.length_cons]; omega, fun x hx => ?_⟩
    simp only [List.mem_cons] at hx
    rcases hx with rfl | rfl | hx
    · exact words_short _ (by decide +kernel)
    · exact h1.1
    · exact (h3 x hx).1
  · obtain ⟨h1, h2, h3, h4, h5⟩ := h.fn f hf
    have hl := tokI_len f.2.2
    refine ⟨by simp only [tokB, List.length_cons, List.length_append, List.length_nil]; omega, fun x hx => ?_⟩
    simp only [List.mem_cons] at hx
    rcases hx with rfl | rfl | rfl | hx
    · exact words_short _ (by decide +kernel)
    · exact h1.1
    · exact h2.1
    · exact tokB_mem words_short (allNB_mono (fun x (hx : tokOk x) => hx.1) h5) x hx
theorem line_len {n : Nat} {q : Prt} (h : TxtOk n q) {l : List Str} (hl : l ∈ linesOf q) : (l.map (·.length)).sum + l.length * (" " : Str).length ≤ 17100 := by
  obtain ⟨h1, h2⟩ := line_mem h l hl
  have := sum_le h2
  have : l.length * (" " : Str).length ≤ l.length := by
    rw [show (" " : Str).length = 1 by decide +kernel]
    omega
  omega
theorem lineT_len {n : Nat} {q : Prt} (h : TxtOk n q) {l : List Str} (hl : l ∈ linesOf q) : (lineT l).length ≤ 17100 := Nat.le_trans (join_len _ _) (line_len h hl)
theorem lines_len {n : Nat} {q : Prt} (h : TxtOk n q) : (linesOf q).length ≤ 13 := by
  have := h.ol
  have := h.fl
  simp only [linesOf, List.length_append, List.length_cons, List.length_nil, List.length_map]
  omega
theorem text_len {n : Nat} {q : Prt} (h : TxtOk n q) : (((linesOf q).map lineT).map (·.length)).sum + ((linesOf q).map lineT).length * ("\n" : Str).length ≤ 530000 := by
  have h1 := sum_le (ws := (linesOf q).map lineT) (m := 17100) fun x hx => by
    obtain ⟨l, hl, rfl⟩ := List.mem_map.mp hx
    exact lineT_len h hl
  have h2 := lines_len h
  rw [show ("\n" : Str).length = 1 by decide +kernel]
  rw [List.length_map] at h1 ⊢
  omega
end Lx

set_option Elab.async false
set_option maxRecDepth 100000
set_option linter.all false
set_option maxHeartbeats 4000000
namespace Lx
open PySem PySem.Spec PyProof.Rows L2 Evl Kx
open Dl hiding Stp Spec
/-! ### what the law draws, as data -/
def partsX (q : Prt) : D := .lst [strsX q.rs, .lst (q.os.map ownX), .lst (q.fs.map fnX)]
theorem ofP_parts (q : Prt) : ofP (prtD q) = partsX q := by
  have h1 : ofP (strsD q.rs) = strsX q.rs := by simp only [strsD, ofP, ofA_strs, strsX]
  unfold prtD partsX
  simp only [ofP, ofA]
  rw [h1, show D.lst (ofA (q.os.map ownD)) = ofP (.list (q.os.map ownD)) by simp only [ofP], show D.lst (ofA (q.fs.map Kx.fnD)) = ofP (.list (q.fs.map Kx.fnD)) by simp only [ofP], ofP_owns, ofP_fns]
theorem key_parts (q : Prt) : keyOk (prtD q) = true := by
  unfold prtD
  simp only [keyOk, keyOkA]
  have h1 := key_strs q.rs
  have h2 := key_owns q.os
  have h3 := key_fns q.fs
  simp only [keyOk] at h2 h3
  rw [h1, h2, h3]
  rfl
theorem dq_parts {K : PySem.W.Frag} {G : Hp} {v : V} {q : Prt} (h : Rp K G v (partsX q)) : Dq K G v (prtD q) := by
  rw [← ofP_parts] at h
  exact dq_toP (toP_ofP (key_parts q)) h
theorem gen_wi {K : PySem.W.Frag} {G H G2 H2 : Hp} {C : Cs} {g : Addr} {n m : Nat} (w : WI K G H C) (hg : getC C g = some (.gen n)) (k : KS g G H G2 H2 m) : WI K G2 H2 (putC C g (.gen m)) ∧ Mv G H C G2 H2 (putC C g (.gen m)) := by
  have mk : g ∈ keys C := List.mem_map.mpr ⟨_, getC_mem hg, rfl⟩
  refine ⟨⟨k.x.gh, fun x hx => ?_, by rw [keys_put]; exact w.nd, w.sy.mono (same_ex k.x.gg)⟩, ⟨k.x.gg, fun a o h1 h2 => k.x.hh a o (fun z => h2 (by rw [z]; exact mk)) h1, fun a o h => ?_, k.x.ag, by rw [keys_put]; exact fun a h => .inl h⟩⟩
  · obtain ⟨y, hy, rfl⟩ := List.mem_map.mp hx
    show G2 (if y.1 = g then (g, Cell.gen m) else y).1 = none ∧ CeO K G2 H2 (if y.1 = g then (g, Cell.gen m) else y).1 (if y.1 = g then (g, Cell.gen m) else y).2
    split
    · exact ⟨k.off, k.gen⟩
    · rename_i ne
      obtain ⟨q1, q2⟩ := w.cs y hy
      obtain ⟨o, ho⟩ := q2.is
      exact ⟨(k.x.ag _ _ ho).trans q1, q2.keep k.x.gg ((k.x.hh _ _ ne ho).trans ho.symm)⟩
  · by_cases z : a = g
    · obtain ⟨o', h'⟩ := k.gen.is
      exact ⟨o', by rw [z]; exact h'⟩
    · exact ⟨o, k.x.hh a o z h⟩
def spPgmX (K : PySem.W.Frag) (CP : Addr) (n d : Nat) : Dl.Spec := fun ds C Q => ∃ q, ds = [partsX q] ∧ Good n d q ∧ Q (progX K CP q) C
/-- the script as the law is given it -/
def scriptX (K : PySem.W.Frag) (ns : List Int) : D := .obj fun a G => SqL K G a (ns.map V.int)
theorem sqlG_ex {K : PySem.W.Frag} {H H' : Hp} {a : Addr} {xs : List V} (e : Ex H H') (h : SqL K H a xs) : SqL K H' a xs := by
  rcases h with (h | ⟨o, h⟩) | h
  · exact .inl (.inl (e _ _ h))
  · exact .inl (.inr ⟨o, e _ _ h⟩)
  · exact .inr h
theorem script_rp {K : PySem.W.Frag} {G : Hp} {a : Addr} {ns : List Int} (h : SqL K G a (ns.map V.int)) : Rp K G (.ref a) (scriptX K ns) := .obj h fun _ _ e h => sqlG_ex e h
def spGenX (K : PySem.W.Frag) : Dl.Spec := fun ds C Q => ∃ (ns : List Int) (j : Nat), ds = [scriptX K ns, .int (j : Int)] ∧ ∀ p, p ∉ keys C → Q (.ref p) ((p, .gen (1000 * j)) :: C)
def spPrtX : Dl.Spec := fun ds C Q => ∃ (g : Addr) (n many most : Nat), ds = [.ref g, .int (many : Int), .int (most : Int)] ∧ 1 ≤ many ∧ many ≤ 4 ∧ most ≤ 4 ∧ getC C g = some (.gen n) ∧ n < 2 ^ 39 ∧ ∀ pt, PrtOk many pt → Q (partsX pt) (putC C g (.gen (n + 4000)))
theorem ints_inv {K : PySem.W.Frag} {G : Hp} : ∀ {ns : List Int} {vs : List V}, RpA K G vs (ns.map D.int) → vs = ns.map V.int
  | [], _, .nil => rfl
  | n :: ns, _, .cons a b => by
    cases a
    rw [ints_inv b]
    rfl
section
variable {K : PySem.W.Frag} {CP : Addr} {vs : List V} {H : Hp} {Q : VK} {E : XK}
theorem pgm_X {n d : Nat} (h : spD K 1 (spPgmX K CP n d) vs H Q E) : spPgm K n d CP vs H Q E := by
  obtain ⟨G, C, ds, Qd, w, r, _, ⟨q, rfl, hg, h⟩, k⟩ := h
  cases r with
  | cons r1 rs =>
  cases rs
  have hd := dq_parts r1
  obtain ⟨p, rfl⟩ := dq_ref (ds := [strsD q.rs, .list (q.os.map ownD), .list (q.fs.map Kx.fnD)]) hd
  refine ⟨p, q, rfl, hd.mono (same_ex w.gh), hg, fun p2 H2 M nw pa => ?_⟩
  obtain ⟨w2, mv, em⟩ := new_wi w nw
  exact k (.ref p2) _ _ H2 C w2 mv (prog_rp (pa.mono em)) h
theorem gen_X (h : spD K 2 (spGenX K) vs H Q E) : spGen K vs H Q E := by
  obtain ⟨G, C, ds, Qd, w, r, _, ⟨ns, j, rfl, h⟩, k⟩ := h
  cases r with
  | cons r1 rs =>
  cases rs with
  | cons r2 rs =>
  cases rs
  cases r2
  cases r1 with
  | obj h1 _ =>
  refine ⟨_, ns, j, rfl, sqlG_ex w.gh h1, fun p H' hp hs hg => ?_⟩
  refine k (.ref p) (.ref p) G H' ((p, .gen (1000 * j)) :: C) ⟨fun a o e => hs a o (w.gh a o e), fun x hx => ?_, List.nodup_cons.mpr ⟨w.ne hp, w.nd⟩, w.sy⟩ ⟨Ex.refl G, fun a o e _ => hs a o e, fun a o e => ⟨o, hs a o e⟩, fun _ _ _ => rfl, fun a m => ?_⟩ (.ref p) (h p (w.ne hp))
  · rcases List.mem_cons.mp hx with rfl | hx
    · exact ⟨w.gn hp, hg⟩
    · obtain ⟨q1, q2⟩ := w.cs x hx
      obtain ⟨o, ho⟩ := q2.is
      exact ⟨q1, q2.keep (Ex.refl G) ((hs _ _ ho).trans ho.symm)⟩
  · rcases List.mem_cons.mp m with rfl | m
    · exact .inr hp
    · exact .inl m
theorem prt_X (h : spD K 3 spPrtX vs H Q E) : spPrt K vs H Q E := by
  obtain ⟨G, C, ds, Qd, w, r, _, ⟨g, n, many, most, rfl, h1, h2, h3, hg, hn, h⟩, k⟩ := h
  cases r with
  | cons r1 rs =>
  cases rs with
  | cons r2 rs =>
  cases rs with
  | cons r3 rs =>
  cases rs
  cases r1
  cases r2
  cases r3
  have c := w.cs _ (getC_mem hg)
  refine ⟨g, n, G, many, most, rfl, h1, h2, h3, c.2, hn, w.gh, c.1, fun p G2 H2 pt ks dq ok => ?_⟩
  obtain ⟨w2, mv⟩ := gen_wi w hg ks
  exact k (.ref p) _ G2 H2 _ w2 mv (by rw [← ofP_parts]; exact rp_of dq) (h pt ok)
end
end Lx

set_option Elab.async false
set_option maxRecDepth 100000
set_option linter.all false
set_option maxHeartbeats 4000000
namespace Lx
open PySem PySem.Spec PyProof.Rows L2 Evl Kx
open Dl hiding Stp Spec

def spLines (n : Nat) : Dl.Spec := fun ds C Q => ∃ q, ds = [partsX q] ∧ TxtOk n q ∧ Q (.lst ((linesOf q).map strsX)) C
theorem line_own {o : Own} : strsX (wO :: o.1 :: o.2) = .lst ([.str wO, .str o.1] ++ o.2.map .str) := by simp [strsX]
theorem line_fn {o : Fn} : strsX (wF :: o.1 :: o.2.1 :: tokB o.2.2) = .lst ([.str wF, .str o.1, .str o.2.1] ++ (tokB o.2.2).map .str) := by simp [strsX]
theorem line_rs {rs : List Str} : strsX (wR :: rs) = .lst ([.str wR] ++ rs.map .str) := by simp [strsX]
theorem meets_LLines {n : Nat} : Meets ["parts", "found", "name", "rights", "owner", "body"] 1 (spLines n) (rdLLines (spTokB (nokB n))) := by
  rintro ds C Qd _ ⟨q, rfl, hp, k⟩
  have h1 := hp.rl
  have h2 := hp.ol
  have h3 := hp.fl
  refine ⟨by decide, _, rfl, _, add_lst (by simp; omega), by simp, by simp [startD], _, rfl, _, rfl, ?_⟩
  refine forD_pre (g := ownX) (fun done sl C' => C' = C ∧ ∃ z1 z2, sl = [.va (partsX q), .ow (.lst (([wR :: q.rs] ++ done.map (fun o : Own => wO :: o.1 :: o.2)).map strsX)), z1, z2, .un, .un]) ⟨rfl, .un, .un, by simp [line_rs, startD]⟩ ?_ ?_
  · rintro done x rest sl C' N e ⟨rfl, z1, z2, rfl⟩ kN
    obtain ⟨o1, o2, o3⟩ := hp.on x (by rw [e]; simp)
    have hd : done.length < 6 := by
      have := congrArg List.length e
      simp only [List.length_append, List.length_cons] at this
      omega
    refine ⟨_, rfl, ⟨_, rfl⟩, by simp, _, add_lst (by simp; omega), _, rfl, by simp; omega, kN _ _ ⟨rfl, .va (.str x.1), .va (strsX x.2), ?_⟩⟩
    simp [line_own]
  · rintro sl C' ⟨rfl, z1, z2, rfl⟩
    refine ⟨_, rfl, _, rfl, ?_⟩
    refine forD_pre (g := fnX) (fun done sl C2 => C2 = C' ∧ ∃ z1 z2 z3 z4, sl = [.va (partsX q), .ow (.lst (([wR :: q.rs] ++ q.os.map (fun o : Own => wO :: o.1 :: o.2) ++ done.map (fun f : Fn => wF :: f.1 :: f.2.1 :: tokB f.2.2)).map strsX)), z1, z2, z3, z4]) ⟨rfl, z1, z2, .un, .un, by simp⟩ ?_ ?_
    · rintro done x rest sl C2 N e ⟨rfl, z1, z2, z3, z4, rfl⟩ kN
      obtain ⟨o1, o2, o3, o4, o5⟩ := hp.fn x (by rw [e]; simp)
      have hd : done.length < 6 := by
        have := congrArg List.length e
        simp only [List.length_append, List.length_cons] at this
        omega
      have hl := tokI_len x.2.2
      refine ⟨_, rfl, ⟨_, rfl⟩, by simp, rfl, x.2.2, rfl, ⟨o3, by omega⟩, _, add_lst (by simp [tokB]; omega), _, rfl, by simp; omega, kN _ _ ⟨rfl, .va (.str x.1), z2, .va (.str x.2.1), .va (.lst (bodyX x.2.2)), ?_⟩⟩
      simp [line_fn, strsX]
    · rintro sl C2 ⟨rfl, z1, z2, z3, z4, rfl⟩
      exact ⟨C2, List.Sublist.refl C2, k⟩
def spText (K : PySem.W.Frag) (CP : Addr) (n : Nat) : Dl.Spec := fun ds C Q => ∃ q, ds = [progX K CP q] ∧ TxtOk n q ∧ PrtLe n q ∧ Q (.str (textOf q)) C
theorem join_lines {n : Nat} {q : Prt} (h : TxtOk n q) {l : List Str} (hl : l ∈ linesOf q) : joinD (.str " ") [strsX l] = some (.dat (.str (lineT l))) := by
  have h1 := line_len h hl
  unfold joinD strsX
  simp only [strsOf_map]
  rw [if_pos (by omega)]
  rfl
theorem join_text {n : Nat} {q : Prt} (h : TxtOk n q) : joinD (.str "\n") [strsX ((linesOf q).map lineT)] = some (.dat (.str (textOf q))) := by
  have h1 := text_len h
  unfold joinD strsX
  simp only [strsOf_map]
  rw [if_pos (by omega)]
  rfl
theorem meets_TextOf {K : PySem.W.Frag} {CP : Addr} {n : Nat} : Meets ["program", "lines", "name", "rights", "owner", "body", "tokens"] 1 (spText K CP n) (rdTextOf (spNpX K CP) CP (spRiX K CP) (spOsX K CP) (spTokB (nokB n)) (spFsX K CP n)) := by
  rintro ds C Qd _ ⟨q, rfl, hp, hle, k⟩
  have h1 := hp.rl
  have h2 := hp.ol
  have h3 := hp.fl
  refine ⟨rfl, q, rfl, by decide, recv_prog nl_r, rfl, q, rfl, _, add_lst (by simp; omega), by simp, by simp [startD], recv_prog nl_o, rfl, q, rfl, hle.os, _, rfl, ?_⟩
  refine forD_pre (g := ownX) (fun done sl C' => C' = C ∧ ∃ z1 z2, sl = [.va (progX K CP q), .ow (.lst (([wR :: q.rs] ++ done.map (fun o : Own => wO :: o.1 :: o.2)).map strsX)), z1, z2, .un, .un, .un]) ⟨rfl, .un, .un, by simp [line_rs, startD]⟩ ?_ ?_
  · rintro done x rest sl C' N e ⟨rfl, z1, z2, rfl⟩ kN
    obtain ⟨o1, o2, o3⟩ := hp.on x (by rw [e]; simp)
    have hd : done.length < 6 := by
      have := congrArg List.length e
      simp only [List.length_append, List.length_cons] at this
      omega
    refine ⟨_, rfl, ⟨_, rfl⟩, by simp, _, add_lst (by simp; omega), _, rfl, by simp; omega, kN _ _ ⟨rfl, .va (.str x.1), .va (strsX x.2), ?_⟩⟩
    simp [line_own]
  · rintro sl C' ⟨rfl, z1, z2, rfl⟩
    refine ⟨recv_prog nl_f, rfl, q, rfl, hle, _, rfl, ?_⟩
    refine forD_pre (g := fnX) (fun done sl C2 => C2 = C' ∧ ∃ z1 z2 z3 z4, sl = [.va (progX K CP q), .ow (.lst (([wR :: q.rs] ++ q.os.map (fun o : Own => wO :: o.1 :: o.2) ++ done.map (fun f : Fn => wF :: f.1 :: f.2.1 :: tokB f.2.2)).map strsX)), z1, z2, z3, z4, .un]) ⟨rfl, z1, z2, .un, .un, by simp⟩ ?_ ?_
    · rintro done x rest sl C2 N e ⟨rfl, z1, z2, z3, z4, rfl⟩ kN
      obtain ⟨o1, o2, o3, o4, o5⟩ := hp.fn x (by rw [e]; simp)
      have hd : done.length < 6 := by
        have := congrArg List.length e
        simp only [List.length_append, List.length_cons] at this
        omega
      have hl := tokI_len x.2.2
      refine ⟨_, rfl, ⟨_, rfl⟩, by simp, rfl, x.2.2, rfl, ⟨o3, by omega⟩, _, add_lst (by simp [tokB]; omega), _, rfl, by simp; omega, kN _ _ ⟨rfl, .va (.str x.1), z2, .va (.str x.2.1), .va (.lst (bodyX x.2.2)), ?_⟩⟩
      simp [line_fn, strsX]
    · rintro sl C2 ⟨rfl, z1, z2, z3, z4, rfl⟩
      refine ⟨rfl, _, rfl, ?_, ?_, ?_⟩
      · have := lines_len hp
        rw [List.length_map]
        exact Nat.le_trans this (by decide)
      · intro j hj o
        simp only [List.mem_cons, List.not_mem_nil, or_false] at hj
        subst hj
        simp
      · refine lcD_pre (g := strsX) (xs := linesOf q) (fun done acc sl C3 => C3 = C2 ∧ acc = (done.map lineT).map D.str ∧ sl = [.va (progX K CP q), .va (.lst ((linesOf q).map strsX)), z1, z2, z3, z4, .un]) ⟨rfl, rfl, rfl⟩ ?_ ?_
        · rintro done x rest acc sl C3 N e ⟨rfl, rfl, rfl⟩ kN
          exact ⟨_, rfl, rfl, _, join_lines hp (by rw [e]; simp), kN _ _ _ ⟨rfl, by simp, rfl⟩⟩
        · rintro acc sl C3 ⟨rfl, rfl, rfl⟩
          exact ⟨_, join_text hp, C3, List.Sublist.refl C3, k⟩
end Lx

set_option Elab.async false
set_option maxRecDepth 100000
set_option linter.all false
set_option maxHeartbeats 4000000
namespace Lx
open PySem PySem.Spec PyProof.Rows L2 Evl Kx
open Dl hiding Stp Spec
/-! ### the reader -/
theorem get_put {C : Cs} {a : Addr} {c c0 : Cell} (h : getC C a = some c0) : getC (putC C a c) a = some c := by
  induction C with
  | nil => cases h
  | cons x r ih =>
    show getC ((if x.1 = a then (a, c) else x) :: putC r a c) a = some c
    unfold getC at h
    split at h
    · rename_i e
      rw [if_pos e]
      unfold getC
      rw [if_pos rfl]
    · rename_i e
      rw [if_neg e]
      unfold getC
      rw [if_neg e]
      exact ih h
theorem put_put {C : Cs} {a : Addr} {c c' : Cell} : putC (putC C a c) a c' = putC C a c' := by
  unfold putC
  rw [List.map_map]
  refine List.map_congr_left fun x _ => ?_
  show (if (if x.1 = a then (a, c) else x).1 = a then (a, c') else (if x.1 = a then (a, c) else x)) = if x.1 = a then (a, c') else x
  by_cases h : x.1 = a
  · rw [if_pos h, if_pos h, if_pos rfl]
  · rw [if_neg h, if_neg h]
theorem drop_get {α : Type} {l r : List α} {n : Nat} {x : α} (h : l.drop n = x :: r) : l[n]? = some x ∧ l.drop (n + 1) = r := by
  have h1 : l[n]? = some x := by
    have := congrArg (fun l => l[0]?) h
    simpa using this
  refine ⟨h1, ?_⟩
  have := congrArg (List.drop 1) h
  rw [List.drop_drop] at this
  exact this
theorem drop_app {α : Type} {l a r : List α} {n : Nat} (h : l.drop n = a ++ r) : l.drop (n + a.length) = r := by
  have := congrArg (List.drop a.length) h
  rw [List.drop_drop, List.drop_left] at this
  exact this
def rdF (x : D) (ts : List Str) (n : Nat) (d : Int) : List (Str × D) := [("text", x), ("tokens", strsX ts), ("at", .int (n : Int)), ("depth", .int d)]
section
variable {x : D} {ts : List Str} {n : Nat} {d : Int}
theorem lk_tok : lookF (rdF x ts n d) "tokens" = some (strsX ts) := by
  simp only [rdF, lookF, show ¬ (("text" : Str) = "tokens") by decide +kernel, if_false, if_true]
theorem lk_at : lookF (rdF x ts n d) "at" = some (.int (n : Int)) := by
  simp only [rdF, lookF, show ¬ (("text" : Str) = "at") by decide +kernel, show ¬ (("tokens" : Str) = "at") by decide +kernel, if_false, if_true]
theorem lk_dep : lookF (rdF x ts n d) "depth" = some (.int d) := by
  simp only [rdF, lookF, show ¬ (("text" : Str) = "depth") by decide +kernel, show ¬ (("tokens" : Str) = "depth") by decide +kernel, show ¬ (("at" : Str) = "depth") by decide +kernel, if_false, if_true]
theorem pt_at' : putFD "at" (.int ((n : Int) + 1)) (rdF x ts n d) = rdF x ts (n + 1) d := by
  simp only [rdF, putFD, show ¬ (("text" : Str) = "at") by decide +kernel, show ¬ (("tokens" : Str) = "at") by decide +kernel, if_false, if_true]
  rfl
theorem pt_dep' {d' : Int} : putFD "depth" (.int d') (rdF x ts n d) = rdF x ts n d' := by
  simp only [rdF, putFD, show ¬ (("text" : Str) = "depth") by decide +kernel, show ¬ (("tokens" : Str) = "depth") by decide +kernel, show ¬ (("at" : Str) = "depth") by decide +kernel, if_false, if_true]
theorem lk_m {m : Str} (h : ("text" : Str) ≠ m ∧ ("tokens" : Str) ≠ m ∧ ("at" : Str) ≠ m ∧ ("depth" : Str) ≠ m) : lookF (rdF x ts n d) m = none := by
  simp only [rdF, lookF, if_neg h.1, if_neg h.2.1, if_neg h.2.2.1, if_neg h.2.2.2]
end
theorem m_token : ("text" : Str) ≠ "token" ∧ ("tokens" : Str) ≠ "token" ∧ ("at" : Str) ≠ "token" ∧ ("depth" : Str) ≠ "token" := by decide +kernel
theorem m_skip : ("text" : Str) ≠ "skip" ∧ ("tokens" : Str) ≠ "skip" ∧ ("at" : Str) ≠ "skip" ∧ ("depth" : Str) ≠ "skip" := by decide +kernel
theorem m_body : ("text" : Str) ≠ "read_body" ∧ ("tokens" : Str) ≠ "read_body" ∧ ("at" : Str) ≠ "read_body" ∧ ("depth" : Str) ≠ "read_body" := by decide +kernel
theorem m_step : ("text" : Str) ≠ "read_step" ∧ ("tokens" : Str) ≠ "read_step" ∧ ("at" : Str) ≠ "read_step" ∧ ("depth" : Str) ≠ "read_step" := by decide +kernel
theorem m_owner : ("text" : Str) ≠ "read_owner" ∧ ("tokens" : Str) ≠ "read_owner" ∧ ("at" : Str) ≠ "read_owner" ∧ ("depth" : Str) ≠ "read_owner" := by decide +kernel
theorem m_func : ("text" : Str) ≠ "read_function" ∧ ("tokens" : Str) ≠ "read_function" ∧ ("at" : Str) ≠ "read_function" ∧ ("depth" : Str) ≠ "read_function" := by decide +kernel
/-- a reader stands at a, before the token n -/
def RdAt (CR : Addr) (C : Cs) (a : Addr) (x : D) (ts : List Str) (n : Nat) (d : Int) : Prop := getC C a = some (.ins CR (rdF x ts n d))
def rdTo (CR : Addr) (C : Cs) (a : Addr) (x : D) (ts : List Str) (n : Nat) (d : Int) : Cs := putC C a (.ins CR (rdF x ts n d))
theorem rd_to {CR : Addr} {C : Cs} {a : Addr} {x : D} {ts : List Str} {n m : Nat} {d e : Int} (h : RdAt CR C a x ts n d) : RdAt CR (rdTo CR C a x ts m e) a x ts m e := get_put h
theorem to_to {CR : Addr} {C : Cs} {a : Addr} {x : D} {ts : List Str} {n m : Nat} {d e : Int} : rdTo CR (rdTo CR C a x ts n d) a x ts m e = rdTo CR C a x ts m e := put_put
def spTkn (CR : Addr) : Dl.Spec := fun ds C Q => ∃ a x ts n d w, ds = [.ref a] ∧ RdAt CR C a x ts n d ∧ ts[n]? = some w ∧ ts.length ≤ 50000 ∧ Q (.str w) (rdTo CR C a x ts (n + 1) d)
def spSkp (CR : Addr) : Dl.Spec := fun ds C Q => ∃ a x ts n d w, ds = [.ref a, .str w] ∧ RdAt CR C a x ts n d ∧ ts[n]? = some w ∧ ts.length ≤ 50000 ∧ Q .non (rdTo CR C a x ts (n + 1) d)
theorem meets_Tok {CR : Addr} : Meets ["self"] 1 (spTkn CR) (rdRdTok CR) := by
  rintro ds C Qd _ ⟨a, x, ts, n, d, w, rfl, hr, hw, hl, q⟩
  have hn := (List.getElem?_eq_some_iff.mp hw).1
  refine ⟨a, _, _, rfl, hr, lk_at, a, _, _, rfl, hr, lk_tok, _, rfl, _, rfl, _, rfl, iteN ?_ ⟨a, _, _, rfl, hr, lk_at, _, _, rfl, hr, by simp [rdF], ?_⟩⟩
  · rw [decide_eq_false_iff_not, List.length_map]
    intro z
    injection z with z
    omega
  · rw [pt_at']
    refine ⟨a, _, _, rfl, rd_to hr, lk_tok, a, _, _, rfl, rd_to hr, lk_at, _, rfl, .dat (.str w), ?_, _, List.Sublist.refl _, q⟩
    show (atI (ts.map D.str) (((n + 1 : Nat) : Int) - 1)).map R.dat = _
    rw [show ((n + 1 : Nat) : Int) - 1 = (n : Int) by omega, atI_nat (v := D.str w) (by rw [List.getElem?_map, hw]; rfl)]
    rfl
theorem meets_Skp {CR : Addr} : Meets ["self", "wanted"] 2 (spSkp CR) (rdRdSkip CR (spTkn CR)) := by
  rintro ds C Qd _ ⟨a, x, ts, n, d, w, rfl, hr, hw, hl, q⟩
  refine ⟨⟨_, hr, lk_m m_token⟩, rfl, a, x, ts, n, d, w, rfl, hr, hw, hl, _, rfl, _, rfl, iteN ?_ ⟨_, List.Sublist.refl _, q⟩⟩
  simp
def spRdB (CR : Addr) (m : Nat) : Dl.Spec := fun ds C Q => ∃ a x ts n d b r, ds = [.ref a] ∧ RdAt CR C a x ts n d ∧ ts.drop n = tokB b ++ r ∧ ts.length ≤ 50000 ∧ nstB b < m ∧ d + m ≤ 8 ∧ Q (.lst (bodyX b)) (rdTo CR C a x ts (n + (tokB b).length) d)
def spRdS (CR : Addr) (m : Nat) : Dl.Spec := fun ds C Q => ∃ a x ts n d s w l r C0, ds = [.ref a, .str w] ∧ C = rdTo CR C0 a x ts n d ∧ RdAt CR C a x ts n d ∧ tokS s = w :: l ∧ ts.drop n = l ++ r ∧ ts.length ≤ 50000 ∧ nstS s < m ∧ d + m ≤ 9 ∧ Q (stpX s) (rdTo CR C0 a x ts (n + l.length) d)
theorem tokS_ne (s : Kx.Stp) : ∃ w l, tokS s = w :: l ∧ (w = qC) = False := by
  cases s with
  | block m b => cases m <;> exact ⟨_, _, rfl, eq_false (by decide +kernel)⟩
  | _ => exact ⟨_, _, rfl, eq_false (by decide +kernel)⟩
theorem body_le : ∀ b : List Kx.Stp, b.length ≤ (tokI b).length
  | [] => Nat.zero_le _
  | t :: b => by
    have ih := body_le b
    obtain ⟨w, l, e, _⟩ := tokS_ne t
    simp only [tokI, e, List.cons_append, List.length_cons, List.length_append]
    omega
theorem meets_RdB {CR : Addr} {m : Nat} : Meets ["self", "steps", "word"] 1 (spRdB CR (m + 1)) (rdRdBody CR (spSkp CR) (spTkn CR) (spRdS CR (m + 1))) := by
  rintro ds C Qd _ ⟨a, x, ts, n, d, b, r, rfl, hr, hd, hl, hm, h8, q⟩
  obtain ⟨g0, d0⟩ := drop_get (x := qO) (r := (tokI b ++ [qC]) ++ r) (by rw [hd]; simp [tokB])
  obtain ⟨w0, l0, e0⟩ : ∃ w l, tokI b ++ [qC] = w :: l := by
    cases h : tokI b with
    | nil => exact ⟨_, _, rfl⟩
    | cons w l => exact ⟨_, _, rfl⟩
  have g1 := (drop_get (x := w0) (r := l0 ++ r) (by rw [d0, e0]; rfl)).1
  refine ⟨⟨_, hr, lk_m m_skip⟩, rfl, a, x, ts, n, d, _, rfl, hr, g0, hl, a, _, _, rfl, rd_to hr, lk_dep, _, _, rfl, rd_to hr, by simp [rdF], ?_⟩
  rw [pt_dep']
  show sSeq _ _ _ _ (rdTo CR (rdTo CR C a x ts (n + 1) d) a x ts (n + 1) (d + 1))
  rw [to_to]
  have h1 : RdAt CR (rdTo CR C a x ts (n + 1) (d + 1)) a x ts (n + 1) (d + 1) := rd_to hr
  refine ⟨a, _, _, rfl, h1, lk_dep, _, rfl, _, rfl, iteN (decide_eq_false (by omega)) ⟨by simp, by simp [startD], ⟨_, h1, lk_m m_token⟩, rfl, a, x, ts, n + 1, d + 1, w0, rfl, h1, g1, hl, by simp [startD], ?_⟩⟩
  rw [to_to]
  refine whD_by (n := b.length) (fun m sl C' => ∃ done rest w l, b = done ++ rest ∧ rest.length = m ∧ tokI rest ++ [qC] = w :: l ∧ ts.drop (n + 1 + (tokI done).length + 1) = l ++ r ∧ C' = rdTo CR C a x ts (n + 1 + (tokI done).length + 1) (d + 1) ∧ sl = [.va (.ref a), .ow (.lst (done.map stpX)), .va (.str w)])
    ⟨[], b, w0, l0, rfl, rfl, e0, (drop_get (x := w0) (r := l0 ++ r) (by show List.drop (n + 1) ts = _; rw [d0, e0]; rfl)).2, rfl, rfl⟩ ?_
  rintro k sl C' N ⟨done, rest, w, l, eb, hk, ew, hdr, rfl, rfl⟩ kN
  have h2 : RdAt CR (rdTo CR C a x ts (n + 1 + (tokI done).length + 1) (d + 1)) a x ts (n + 1 + (tokI done).length + 1) (d + 1) := rd_to hr
  cases rest with
  | nil =>
    simp only [tokI, List.nil_append, List.cons.injEq] at ew
    obtain ⟨rfl, rfl⟩ := ew
    rw [List.append_nil] at eb
    subst eb
    refine ⟨_, rfl, _, rfl, iteN (by decide +kernel) ⟨a, _, _, rfl, h2, lk_dep, _, _, rfl, h2, by simp [rdF], _, List.Sublist.refl _, ?_⟩⟩
    rw [pt_dep']
    show Qd (.lst (b.map stpX)) (rdTo CR (rdTo CR C a x ts (n + 1 + (tokI b).length + 1) (d + 1)) a x ts (n + 1 + (tokI b).length + 1) (d + 1 - 1))
    rw [show d + 1 - 1 = d by omega, to_to, ← bodyX_map]
    have : n + (tokB b).length = n + 1 + (tokI b).length + 1 := by simp [tokB]; omega
    rw [this] at q
    exact q
  | cons s rest =>
    obtain ⟨w', l', es, hw⟩ := tokS_ne s
    have : w = w' ∧ l = l' ++ (tokI rest ++ [qC]) := by
      simp only [tokI, es, List.cons_append, List.cons.injEq, List.append_assoc] at ew
      exact ⟨ew.1.symm, ew.2.symm⟩
    obtain ⟨rfl, rfl⟩ := this
    obtain ⟨w2, l2, e2⟩ : ∃ w l, tokI rest ++ [qC] = w :: l := by
      cases h : tokI rest with
      | nil => exact ⟨_, _, rfl⟩
      | cons w l => exact ⟨_, _, rfl⟩
    rw [List.append_assoc] at hdr
    have hd2 := drop_app hdr
    obtain ⟨g2, hd3⟩ := drop_get (x := w2) (r := l2 ++ r) (by rw [hd2, e2]; rfl)
    have hns : nstS s < m + 1 := by
      have h0 : nstS s ≤ nstB b := by
        rw [eb, nstB_app]
        exact Nat.le_trans (Nat.le_max_left _ (nstB rest)) (Nat.le_max_right ..)
      omega
    have hdl : done.length < b.length := by rw [eb]; simp
    have hbl := body_le b
    have htl : (tokI b).length ≤ ts.length := by
      have := congrArg List.length hd
      simp only [tokB, List.length_drop, List.length_append, List.length_cons] at this
      omega
    refine ⟨_, rfl, _, rfl, iteY ?_ ⟨⟨_, rfl⟩, ⟨_, h2, lk_m m_step⟩, rfl, a, x, ts, _, d + 1, s, w, l', _, C, rfl, rfl, h2, es, hdr, hl, hns, by omega, _, rfl, by simp; omega, ⟨_, rd_to hr, lk_m m_token⟩, rfl, a, x, ts, _, d + 1, w2, rfl, rd_to hr, g2, hl, by simp, kN rest.length _ _ (by simp at hk; omega) ⟨done ++ [s], rest, w2, l2, by rw [eb]; simp, rfl, e2, ?_, ?_, ?_⟩⟩⟩
    · simp only [Bool.not_eq_true', decide_eq_false_iff_not]
      rw [hw]
      exact fun z => z
    · rw [tokI_app]
      simp only [tokI, List.append_nil, List.length_append, es, List.length_cons]
      rw [show n + 1 + ((tokI done).length + (l'.length + 1)) + 1 = n + 1 + (tokI done).length + 1 + l'.length + 1 by omega]
      exact hd3
    · rw [to_to, tokI_app]
      simp only [tokI, List.append_nil, List.length_append, es, List.length_cons]
      rw [show n + 1 + ((tokI done).length + (l'.length + 1)) + 1 = n + 1 + (tokI done).length + 1 + l'.length + 1 by omega]
    · simp
theorem cast_le {d : Int} {m k : Nat} (h : d + ((m + 1 : Nat) : Int) ≤ k) : d + (m : Int) ≤ (k : Int) - 1 := by omega
theorem meets_RdS {CR : Addr} {m : Nat} : Meets ["self", "word", "first"] 2 (spRdS CR (m + 1)) (rdRdStep CR (spTkn CR) (spRdB CR m) (spSkp CR)) := by
  rintro ds C Qd _ ⟨a, x, ts, n, d, s, w, l, r, C0, rfl, rfl, hr, es, hd, hl, hm, h8, q⟩
  cases s with
  | call f =>
    simp only [tokS, List.cons.injEq] at es
    obtain ⟨rfl, rfl⟩ := es
    exact ⟨by simp, _, rfl, _, rfl, iteY (by decide +kernel) ⟨⟨_, hr, lk_m m_token⟩, rfl, a, x, ts, n, d, f, rfl, hr, (drop_get hd).1, hl, by simp, _, List.Sublist.refl _, by rw [to_to]; exact q⟩⟩
  | tail f =>
    simp only [tokS, List.cons.injEq] at es
    obtain ⟨rfl, rfl⟩ := es
    exact ⟨by simp, _, rfl, _, rfl, iteY (by decide +kernel) ⟨⟨_, hr, lk_m m_token⟩, rfl, a, x, ts, n, d, f, rfl, hr, (drop_get hd).1, hl, by simp, _, List.Sublist.refl _, by rw [to_to]; exact q⟩⟩
  | check f =>
    simp only [tokS, List.cons.injEq] at es
    obtain ⟨rfl, rfl⟩ := es
    exact ⟨by simp, _, rfl, _, rfl, iteY (by decide +kernel) ⟨⟨_, hr, lk_m m_token⟩, rfl, a, x, ts, n, d, f, rfl, hr, (drop_get hd).1, hl, by simp, _, List.Sublist.refl _, by rw [to_to]; exact q⟩⟩
  | back =>
    simp only [tokS, List.cons.injEq] at es
    obtain ⟨rfl, rfl⟩ := es
    refine ⟨by simp, _, rfl, _, rfl, iteN (by decide +kernel) ⟨_, rfl, _, rfl, iteY (by decide +kernel) ⟨by simp, _, List.Sublist.refl _, ?_⟩⟩⟩
    exact q
  | loop b =>
    simp only [tokS, List.cons.injEq] at es
    obtain ⟨rfl, rfl⟩ := es
    simp only [nstS] at hm
    refine ⟨by simp, _, rfl, _, rfl, iteN (by decide +kernel) ⟨_, rfl, _, rfl, iteN (by decide +kernel) ⟨_, rfl, _, rfl, iteY (by decide +kernel) ⟨⟨_, hr, lk_m m_body⟩, rfl, a, x, ts, n, d, b, r, rfl, hr, hd, hl, by omega, by omega, by simp, _, List.Sublist.refl _, by rw [to_to]; exact q⟩⟩⟩⟩
  | block k b =>
    simp only [tokS, List.cons.injEq] at es
    obtain ⟨rfl, rfl⟩ := es
    simp only [nstS] at hm
    cases k with
    | true =>
      exact ⟨by simp, _, rfl, _, rfl, iteN (by decide +kernel) ⟨_, rfl, _, rfl, iteN (by decide +kernel) ⟨_, rfl, _, rfl, iteN (by decide +kernel) ⟨by simp, _, rfl, _, rfl, iteY (by decide +kernel) ⟨_, rfl, ⟨_, hr, lk_m m_body⟩, rfl, a, x, ts, n, d, b, r, rfl, hr, hd, hl, by omega, by omega, by simp, _, List.Sublist.refl _, by rw [to_to]; exact q⟩⟩⟩⟩⟩
    | false =>
      exact ⟨by simp, _, rfl, _, rfl, iteN (by decide +kernel) ⟨_, rfl, _, rfl, iteN (by decide +kernel) ⟨_, rfl, _, rfl, iteN (by decide +kernel) ⟨by simp, _, rfl, _, rfl, iteY (by decide +kernel) ⟨_, rfl, ⟨_, hr, lk_m m_body⟩, rfl, a, x, ts, n, d, b, r, rfl, hr, hd, hl, by omega, by omega, by simp, _, List.Sublist.refl _, by rw [to_to]; exact q⟩⟩⟩⟩⟩
  | either b c =>
    simp only [tokS, List.cons.injEq] at es
    obtain ⟨rfl, rfl⟩ := es
    simp only [nstS] at hm
    have hb1 := Nat.le_max_left (nstB b) (nstB c)
    have hb2 := Nat.le_max_right (nstB b) (nstB c)
    have hd1 : ts.drop n = tokB b ++ (("or" : Str) :: (tokB c ++ r)) := by rw [hd]; simp [tokB]
    have hd2 := drop_app hd1
    obtain ⟨g2, hd3⟩ := drop_get hd2
    refine ⟨by simp, _, rfl, _, rfl, iteN (by decide +kernel) ⟨_, rfl, _, rfl, iteN (by decide +kernel) ⟨_, rfl, _, rfl, iteN (by decide +kernel) ⟨by simp, _, rfl, _, rfl, iteN (by decide +kernel) ⟨_, rfl, _, rfl, iteN (by decide +kernel) ⟨⟨_, hr, lk_m m_body⟩, rfl, a, x, ts, n, d, b, _, rfl, hr, hd1, hl, by omega, by omega, by simp [startD], ⟨_, rd_to hr, lk_m m_skip⟩, rfl, a, x, ts, _, d, _, rfl, rd_to hr, g2, hl, ?_⟩⟩⟩⟩⟩⟩
    rw [to_to]
    refine ⟨⟨_, rd_to hr, lk_m m_body⟩, rfl, a, x, ts, _, d, c, r, rfl, rd_to hr, hd3, hl, by omega, by omega, by simp, _, List.Sublist.refl _, ?_⟩
    rw [to_to, to_to]
    simp only [List.length_cons, List.length_append, List.length_nil] at q
    rw [show n + (tokB b).length + 1 + (tokB c).length = n + ((tokI b).length + ((tokI c).length + (0 + 1) + 1 + 1 + 1) + 1) by simp [tokB]; omega]
    exact q
/-! lines -/
def spRdO (CR : Addr) : Dl.Spec := fun ds C Q => ∃ a x o C0, ds = [.ref a] ∧ RdAt CR C a x (wO :: o.1 :: o.2) 0 0 ∧ C = rdTo CR C0 a x (wO :: o.1 :: o.2) 0 0 ∧ o.2.length ≤ 40000 ∧ Q (ownX o) (rdTo CR C0 a x (wO :: o.1 :: o.2) 2 0)
theorem meets_RdO {CR : Addr} : Meets ["self", "name"] 1 (spRdO CR) (rdRdOwner CR (spSkp CR) (spTkn CR)) := by
  rintro ds C Qd _ ⟨a, x, o, C0, rfl, hr, rfl, hl, q⟩
  refine ⟨⟨_, hr, lk_m m_skip⟩, rfl, a, x, _, 0, 0, wO, rfl, hr, rfl, by simp; omega, ⟨_, rd_to hr, lk_m m_token⟩, rfl, a, x, _, 1, 0, o.1, rfl, rd_to hr, rfl, by simp; omega, by simp [startD], a, _, _, rfl, rd_to (rd_to hr), lk_tok, a, _, _, rfl, rd_to (rd_to hr), lk_at, _, rfl, _, rfl, by simp, _, List.Sublist.refl _, ?_⟩
  rw [to_to, to_to]
  have e : cutA (((wO :: o.1 :: o.2).map D.str)) (some ((2 : Nat) : Int)) none = o.2.map .str := by
    unfold cutA
    have h1 : HT.sIx ((wO :: o.1 :: o.2).map D.str).length 0 (some ((2 : Nat) : Int)) = 2 := by
      unfold HT.sIx
      simp
    have h2 : HT.sIx ((wO :: o.1 :: o.2).map D.str).length ((wO :: o.1 :: o.2).map D.str).length none = o.2.length + 2 := by
      unfold HT.sIx
      simp
    rw [h1, h2]
    simp
    exact List.take_of_length_le (by simp)
  show Qd (.tup [.str o.1, .lst (cutA (((wO :: o.1 :: o.2).map D.str)) (some ((2 : Nat) : Int)) none)]) _
  rw [e]
  exact q
def spRdF (CR : Addr) (m : Nat) : Dl.Spec := fun ds C Q => ∃ a x f C0, ds = [.ref a] ∧ RdAt CR C a x (wF :: f.1 :: f.2.1 :: tokB f.2.2) 0 0 ∧ C = rdTo CR C0 a x (wF :: f.1 :: f.2.1 :: tokB f.2.2) 0 0 ∧ (tokB f.2.2).length ≤ 40000 ∧ nstB f.2.2 < m ∧ m ≤ 8 ∧ ∀ n, Q (fnX f) (rdTo CR C0 a x (wF :: f.1 :: f.2.1 :: tokB f.2.2) n 0)
theorem meets_RdF {CR : Addr} {m : Nat} : Meets ["self", "name", "owner", "body"] 1 (spRdF CR m) (rdRdFunc CR (spSkp CR) (spTkn CR) (spRdB CR m)) := by
  rintro ds C Qd _ ⟨a, x, f, C0, rfl, hr, rfl, hl, hm, h8, q⟩
  refine ⟨⟨_, hr, lk_m m_skip⟩, rfl, a, x, _, 0, 0, wF, rfl, hr, rfl, by simp; omega, ⟨_, rd_to hr, lk_m m_token⟩, rfl, a, x, _, 1, 0, f.1, rfl, rd_to hr, rfl, by simp; omega, by simp [startD], ⟨_, rd_to (rd_to hr), lk_m m_token⟩, rfl, a, x, _, 2, 0, f.2.1, rfl, rd_to (rd_to hr), rfl, by simp; omega, by simp [startD], ?_⟩
  rw [to_to, to_to, to_to]
  have h3 : RdAt CR (rdTo CR C0 a x (wF :: f.1 :: f.2.1 :: tokB f.2.2) 3 0) a x (wF :: f.1 :: f.2.1 :: tokB f.2.2) 3 0 := by
    have := rd_to (m := 3) (e := 0) hr
    rw [to_to] at this
    exact this
  refine ⟨⟨_, h3, lk_m m_body⟩, rfl, a, x, _, 3, 0, f.2.2, [], rfl, h3, by simp, by simp; omega, hm, by omega, by simp [startD], a, _, _, rfl, rd_to h3, lk_at, a, _, _, rfl, rd_to h3, lk_tok, _, rfl, _, rfl, _, rfl, iteN (decide_eq_false ?_) ⟨by simp, _, List.Sublist.refl _, ?_⟩⟩
  · simp
    omega
  · rw [to_to]
    exact q _
def spRdI (CR : Addr) : Dl.Spec := fun ds C Q => ∃ a x ts, ds = [.ref a, x, strsX ts] ∧ getC C a = some (.ins CR []) ∧ Q .non (rdTo CR C a x ts 0 0)
theorem meets_RdI {CR : Addr} : Meets ["self", "text", "tokens"] 3 (spRdI CR) (rdRdInit CR) := by
  rintro ds C Qd _ ⟨a, x, ts, rfl, hg, q⟩
  have l1 : putFD "text" x [] = [(("text" : Str), x)] := rfl
  have l2 : putFD "tokens" (strsX ts) [("text", x)] = [(("text" : Str), x), (("tokens" : Str), strsX ts)] := by
    simp only [putFD, show ¬ (("text" : Str) = "tokens") by decide +kernel, if_false]
  have l3 : putFD "at" (.int 0) [("text", x), ("tokens", strsX ts)] = [(("text" : Str), x), (("tokens" : Str), strsX ts), (("at" : Str), .int 0)] := by
    simp only [putFD, show ¬ (("text" : Str) = "at") by decide +kernel, show ¬ (("tokens" : Str) = "at") by decide +kernel, if_false]
  have l4 : putFD "depth" (.int 0) [("text", x), ("tokens", strsX ts), ("at", .int 0)] = rdF x ts 0 0 := by
    simp only [putFD, show ¬ (("text" : Str) = "depth") by decide +kernel, show ¬ (("tokens" : Str) = "depth") by decide +kernel, show ¬ (("at" : Str) = "depth") by decide +kernel, if_false]
    rfl
  refine ⟨a, _, rfl, hg, by decide, a, _, rfl, get_put hg, ?_, a, _, rfl, get_put (get_put hg), ?_, a, _, rfl, get_put (get_put (get_put hg)), ?_, _, List.Sublist.refl _, ?_⟩
  · rw [l1]; simp
  · rw [l1, l2]; simp
  · rw [l1, l2, l3]; simp
  · rw [l1, l2, l3, l4, put_put, put_put, put_put]
    exact q
end Lx

set_option Elab.async false
set_option maxRecDepth 100000
set_option linter.all false
set_option maxHeartbeats 2000000
/-! KitTk: a line's tokens between blanks and braces, read back. -/
namespace Tk
open PySem PySem.Spec PyProof.Rows TL
theorem repl_one (k : Nat) (z : List Nat) : ∀ l : List Nat, StrLaws.replL [k] z l = l.flatMap fun c => if c = k then z else [c]
  | [] => StrLaws.replL_nil
  | c :: r => by
    rw [List.flatMap_cons]
    by_cases h : c = k
    · subst h
      rw [StrLaws.replL_hit (by simp) (by simp), if_pos rfl, List.length_singleton, List.drop_succ_cons, List.drop_zero, repl_one c z r]
    · rw [StrLaws.replL_miss (by simp [h]), if_neg h, repl_one k z r]
      rfl
def wordsL (l : List Nat) : List (List Nat) := (spl [32] 0 [] l).filter (fun w => !w.isEmpty)
theorem spl_sp {acc l : List Nat} : spl [32] 0 acc (32 :: l) = acc :: spl [32] 0 [] l := spl_hit (by rfl)
theorem spl_no {acc l : List Nat} {c : Nat} (h : c ≠ 32) : spl [32] 0 acc (c :: l) = spl [32] 0 (acc ++ [c]) l := spl_miss (pre_of_head _ _ h)
theorem spl_w {acc l : List Nat} : ∀ {w : List Nat}, (∀ c ∈ w, c ≠ 32) → spl [32] 0 acc (w ++ l) = spl [32] 0 (acc ++ w) l
  | [], _ => by rw [List.append_nil, List.nil_append]
  | c :: w, h => by
    rw [List.cons_append, spl_no (h c List.mem_cons_self), spl_w fun x hx => h x (List.mem_cons_of_mem _ hx), List.append_assoc]
    rfl
theorem words_sp {l : List Nat} : wordsL (32 :: l) = wordsL l := by
  unfold wordsL
  rw [spl_sp]
  rfl
theorem words_w {w l : List Nat} (hn : w ≠ []) (h : ∀ c ∈ w, c ≠ 32) : wordsL (w ++ 32 :: l) = w :: wordsL l := by
  unfold wordsL
  rw [spl_w h, List.nil_append, spl_sp, List.filter_cons_of_pos (by cases w with | nil => exact absurd rfl hn | cons => rfl)]
theorem words_end {w : List Nat} (hn : w ≠ []) (h : ∀ c ∈ w, c ≠ 32) : wordsL w = [w] := by
  have e := spl_w (acc := []) (l := []) h
  rw [List.append_nil, List.nil_append, spl_nil] at e
  unfold wordsL
  rw [e]
  cases w with
  | nil => exact absurd rfl hn
  | cons => rfl
def brc (c : Nat) : List Nat := if c = 123 then [32, 123, 32] else if c = 125 then [32, 125, 32] else [c]
def flat (l : List Nat) : List Nat := l.flatMap brc
def plain (w : List Nat) : Prop := w ≠ [] ∧ ∀ c ∈ w, c ≠ 32 ∧ c ≠ 10 ∧ c ≠ 123 ∧ c ≠ 125
/-- tokens with blanks between them; p: a word stands right before -/
inductive Sp : List (List Nat) → Bool → List Nat → Prop
  | nil {p : Bool} : Sp [] p []
  | blank {ts : List (List Nat)} {p : Bool} {l : List Nat} : Sp ts false l → Sp ts p (32 :: l)
  | brace {ts : List (List Nat)} {p : Bool} {l : List Nat} {c : Nat} : c = 123 ∨ c = 125 → Sp ts false l → Sp ([c] :: ts) p (c :: l)
  | word {ts : List (List Nat)} {l w : List Nat} : plain w → Sp ts true l → Sp (w :: ts) false (w ++ l)
theorem flat_plain : ∀ {w : List Nat}, (∀ c ∈ w, c ≠ 32 ∧ c ≠ 10 ∧ c ≠ 123 ∧ c ≠ 125) → flat w = w
  | [], _ => rfl
  | c :: w, h => by
    obtain ⟨_, _, h1, h2⟩ := h c List.mem_cons_self
    show brc c ++ flat w = c :: w
    rw [flat_plain fun x hx => h x (List.mem_cons_of_mem _ hx)]
    unfold brc
    rw [if_neg h1, if_neg h2]
    rfl
theorem flat_app (a b : List Nat) : flat (a ++ b) = flat a ++ flat b := List.flatMap_append ..
theorem sp_words {ts : List (List Nat)} {p : Bool} {l : List Nat} (h : Sp ts p l) : (p = false → wordsL (flat l) = ts) ∧ (∀ w, plain w → p = true → wordsL (w ++ flat l) = w :: ts) := by
  induction h with
  | nil => exact ⟨fun _ => rfl, fun w hw _ => by rw [show flat [] = [] from rfl, List.append_nil, words_end hw.1 fun c hc => (hw.2 c hc).1]⟩
  | @blank ts p l h ih =>
    have e : flat (32 :: l) = 32 :: flat l := rfl
    refine ⟨fun _ => by rw [e, words_sp, ih.1 rfl], fun w hw _ => by rw [e, words_w hw.1 fun c hc => (hw.2 c hc).1, ih.1 rfl]⟩
  | @brace ts p l c hc h ih =>
    have e : flat (c :: l) = 32 :: ([c] ++ 32 :: flat l) := by
      rcases hc with rfl | rfl <;> rfl
    have ne : ∀ x ∈ [c], x ≠ 32 := fun x hx => by
      simp only [List.mem_cons, List.not_mem_nil, or_false] at hx
      subst hx
      rcases hc with rfl | rfl <;> decide
    refine ⟨fun _ => by rw [e, words_sp, words_w (by simp) ne, ih.1 rfl], fun w hw _ => by rw [e, words_w hw.1 fun c hc => (hw.2 c hc).1, words_w (by simp) ne, ih.1 rfl]⟩
  | @word ts l w hw h ih =>
    refine ⟨fun _ => by rw [flat_app, flat_plain hw.2, ih.2 w hw rfl], fun _ _ z => by cases z⟩
/-! ### as texts -/
def tokF (z : Str) : List Str := (Txt.split (Txt.replace (Txt.replace z "{" " { ") "}" " } ") " ").filter fun p => (p.length : Int) != 0
theorem flat_two (l : List Nat) : (l.flatMap fun c => if c = 123 then [32, 123, 32] else [c]).flatMap (fun c => if c = 125 then [32, 125, 32] else [c]) = flat l := by
  induction l with
  | nil => rfl
  | cons c r ih =>
    rw [List.flatMap_cons, List.flatMap_append, ih]
    show _ = brc c ++ flat r
    congr 1
    unfold brc
    by_cases h : c = 123
    · subst h
      rfl
    · rw [if_neg h, if_neg h]
      simp
theorem tok_tl (z : Str) : (Txt.split (Txt.replace (Txt.replace z "{" " { ") "}" " } ") " ").map tl = spl [32] 0 [] (flat (tl z)) := by
  rw [split_spl _ " " (by decide +kernel) (kind_ok (by decide +kernel))]
  congr 1
  rw [show tl (Txt.replace (Txt.replace z "{" " { ") "}" " } ") = StrLaws.replL (tl "}") (tl " } ") (tl (Txt.replace z "{" " { ")) from StrLaws.replace_list (by decide +kernel),
    show tl (Txt.replace z "{" " { ") = StrLaws.replL (tl "{") (tl " { ") (tl z) from StrLaws.replace_list (by decide +kernel), show tl "}" = [125] by decide +kernel, show tl " } " = [32, 125, 32] by decide +kernel,
    show tl "{" = [123] by decide +kernel, show tl " { " = [32, 123, 32] by decide +kernel, repl_one, repl_one, flat_two]
theorem filter_tl (l : List Str) : (l.filter fun p => (p.length : Int) != 0).map tl = (l.map tl).filter fun w => !w.isEmpty := by
  induction l with
  | nil => rfl
  | cons x r ih =>
    have e : ((x.length : Int) != 0) = !(tl x).isEmpty := by
      rw [len_tl]
      cases tl x with
      | nil => rfl
      | cons c t =>
        simp
        omega
    rw [List.map_cons, List.filter_cons, List.filter_cons, e]
    split
    · rw [List.map_cons, ih]
    · exact ih
/-- THE READ-BACK of a line -/
theorem tokF_sp {z : Str} {ts : List Str} (h : Sp (ts.map tl) false (tl z)) : tokF z = ts := by
  refine map_tl_inj ?_
  unfold tokF
  rw [filter_tl, tok_tl]
  exact (sp_words h).1 rfl
end Tk
namespace Tk
open PySem PySem.Spec PyProof.Rows TL
theorem tl_braced (z : Str) : tl (Txt.replace (Txt.replace z "{" " { ") "}" " } ") = flat (tl z) := by
  rw [show tl (Txt.replace (Txt.replace z "{" " { ") "}" " } ") = StrLaws.replL (tl "}") (tl " } ") (tl (Txt.replace z "{" " { ")) from StrLaws.replace_list (by decide +kernel),
    show tl (Txt.replace z "{" " { ") = StrLaws.replL (tl "{") (tl " { ") (tl z) from StrLaws.replace_list (by decide +kernel), show tl "}" = [125] by decide +kernel, show tl " } " = [32, 125, 32] by decide +kernel,
    show tl "{" = [123] by decide +kernel, show tl " { " = [32, 123, 32] by decide +kernel, repl_one, repl_one, flat_two]
theorem flat_len : ∀ l : List Nat, (flat l).length ≤ 3 * l.length
  | [] => Nat.zero_le _
  | c :: r => by
    have := flat_len r
    have h : (brc c).length ≤ 3 := by
      unfold brc
      split
      · simp
      · split <;> simp
    show (brc c ++ flat r).length ≤ _
    rw [List.length_append, List.length_cons]
    omega
theorem braced_len (z : Str) : (Txt.replace (Txt.replace z "{" " { ") "}" " } ").length ≤ 3 * z.length := by
  rw [len_tl, tl_braced, len_tl z]
  exact flat_len _
theorem spl_len (S : List Nat) : ∀ (l : List Nat) (k : Nat) (acc : List Nat), (spl S k acc l).length ≤ l.length + 1
  | [], k, acc => by rw [spl_nil]; simp
  | c :: r, 0, acc => by
    show (if pre S (c :: r) = true then acc :: spl S (S.length - 1) [] r else spl S 0 (acc ++ [c]) r).length ≤ _
    split
    · have := spl_len S r (S.length - 1) []
      simp only [List.length_cons]
      omega
    · have := spl_len S r 0 (acc ++ [c])
      simp only [List.length_cons]
      omega
  | c :: r, k + 1, acc => by
    have := spl_len S r k acc
    show (spl S k acc r).length ≤ _
    simp only [List.length_cons]
    omega
theorem parts_len (z : Str) : (Txt.split (Txt.replace (Txt.replace z "{" " { ") "}" " } ") " ").length ≤ 3 * z.length + 1 := by
  have e := congrArg List.length (tok_tl z)
  rw [List.length_map] at e
  rw [e]
  have := spl_len [32] (flat (tl z)) 0 []
  have := flat_len (tl z)
  rw [len_tl z]
  omega
theorem part_len (z : Str) : ∀ p ∈ Txt.split (Txt.replace (Txt.replace z "{" " { ") "}" " } ") " ", p.length ≤ 3 * z.length := by
  have key : ∀ (l : List Nat) (k : Nat) (acc : List Nat), ∀ p ∈ spl [32] k acc l, p.length ≤ acc.length + l.length := by
    intro l
    induction l with
    | nil =>
      intro k acc p hp
      rw [spl_nil] at hp
      simp only [List.mem_cons, List.not_mem_nil, or_false] at hp
      subst hp
      simp
    | cons c r ih =>
      intro k acc p hp
      cases k with
      | zero =>
        have e : spl [32] 0 acc (c :: r) = if pre [32] (c :: r) = true then acc :: spl [32] 0 [] r else spl [32] 0 (acc ++ [c]) r := rfl
        rw [e] at hp
        split at hp
        · rcases List.mem_cons.mp hp with rfl | hp
          · simp
          · have := ih 0 [] p hp
            simp only [List.length_nil, List.length_cons] at this ⊢
            omega
        · have := ih 0 _ p hp
          simp only [List.length_append, List.length_cons, List.length_nil] at this ⊢
          omega
      | succ k =>
        have := ih k acc p hp
        simp only [List.length_cons]
        omega
  intro p hp
  have hm : tl p ∈ spl [32] 0 [] (flat (tl z)) := by rw [← tok_tl]; exact List.mem_map.mpr ⟨p, hp, rfl⟩
  have := key _ _ _ _ hm
  have := flat_len (tl z)
  rw [len_tl p, len_tl z]
  simp only [List.length_nil] at *
  omega
end Tk

set_option Elab.async false
set_option maxRecDepth 100000
set_option linter.all false
set_option maxHeartbeats 4000000
namespace Lx
open PySem PySem.Spec PyProof.Rows L2 Evl Kx
open Dl hiding Stp Spec
section
variable {P : Program} {w : World} {K : PySem.W.Frag} {mg : Str → Option Value} {base : Heap} {f : Addr} {fd : FuncData}
abbrev sTokOf : Stmt := top 38
theorem scTokOf : FnScope ["line", "parts", "part"] ["line"] (defScope sTokOf) := ⟨rfl, rfl, rfl, by decide +kernel, rfl, by decide +kernel, by decide +kernel⟩
def rdTokOf : TSD := sSeq (sSet 1 (dMt "str" splitD (dRepl "}" " } " (dRepl "{" " { " (dVar 0))) (dCons (dC (.str " ")) dNil))) (sRet (dLcL (dVar 1) (.one 2) (dTru (dVar 2)) (dVar 2) [2]))
theorem derTokOf {k : Nat} : DerT P w K mg base ["line", "parts", "part"] "tokens_of" sTokOf f k rdTokOf := fun cdv A outer s H Ex G0 H0 C0 hr =>
  dt_cons (dt_set (i := 1) scTokOf.nd rfl (Or.inl rfl) (dt_split (dt_replT (dt_replC (dv 0))) de_str))
    (PSsT.of (ds_one (ds_ret (de_lcL (own := [("part", 2)]) (tg := .one 2) rfl scTokOf.nd (dv 1) (blkOk_by (own := [("part", 2)]) (N := ["line", "parts", "part"]) (sc := defScope sTokOf) (by decide +kernel))
      (fun _ _ _ _ _ => pg_name (i := 2) scTokOf.nd rfl (Or.inl rfl)) (fun _ _ _ _ _ => dts_one (dt_tru (dv 2))) (fun _ _ _ _ _ => dv 2) (by decide)))))
theorem filt1 {α : Type} {p : α → Bool} {x : α} {l : List α} (h : p x = true) : (l ++ [x]).filter p = l.filter p ++ [x] := by
  rw [List.filter_append, List.filter_cons_of_pos h]
  rfl
theorem filt0 {α : Type} {p : α → Bool} {x : α} {l : List α} (h : ¬ p x = true) : (l ++ [x]).filter p = l.filter p := by
  rw [List.filter_append, List.filter_cons_of_neg h]
  simp
def spTokOf : Dl.Spec := fun ds C Q => ∃ z : Str, ds = [.str z] ∧ z.length ≤ 29000 ∧ Q (strsX (Tk.tokF z)) C
theorem meets_TokOf : MeetsT ["line", "parts", "part"] 1 spTokOf rdTokOf := by
  rintro ds C Qd _ ⟨z, rfl, hz, q⟩
  have hr : (Txt.replace z "{" " { ").length ≤ 4 * z.length + 3 := by
    have := TK.replace_len z "{" " { "
    rw [show (" { " : Str).length = 3 by decide +kernel] at this
    omega
  have h2 := Tk.braced_len z
  have h3 := Tk.parts_len z
  have h4 := Tk.part_len z
  refine ⟨z, rfl, ?_, _, rfl, ?_, rfl, .new (.lst ((Txt.split (Txt.replace (Txt.replace z "{" " { ") "}" " } ") " ").map .str)), ?_, by simp [startD], _, rfl, ?_, ?_, ?_⟩
  · rw [show (" { " : Str).length = 3 by decide +kernel]
    omega
  · rw [show (" } " : Str).length = 3 by decide +kernel]
    omega
  · exact if_pos ⟨by decide +kernel, by omega⟩
  · rw [List.length_map]
    omega
  · intro j hj o
    simp only [List.mem_cons, List.not_mem_nil, or_false] at hj
    subst hj
    simp [startD]
  · refine lcD_pre (g := D.str) (xs := Txt.split (Txt.replace (Txt.replace z "{" " { ") "}" " } ") " ") (fun done acc sl C3 => C3 = C ∧ acc = (done.filter fun p => (p.length : Int) != 0).map D.str ∧ sl = [.va (.str z), .va (.lst ((Txt.split (Txt.replace (Txt.replace z "{" " { ") "}" " } ") " ").map .str)), .un]) ⟨rfl, rfl, rfl⟩ ?_ ?_
    · rintro done x rest acc sl C3 N e ⟨rfl, rfl, rfl⟩ kN
      have hx := h4 x (by rw [e]; simp)
      refine ⟨_, rfl, (x.length : Int) != 0, if_pos (by omega), ?_⟩
      refine ite2 (fun h => ?_) (fun h => ?_)
      · exact kN _ _ _ ⟨rfl, by rw [filt1 (p := fun p : Str => (p.length : Int) != 0) h, List.map_append]; rfl, rfl⟩
      · exact kN _ _ _ ⟨rfl, by rw [filt0 (p := fun p : Str => (p.length : Int) != 0) h], rfl⟩
    · rintro acc sl C3 ⟨rfl, rfl, rfl⟩
      exact q
end
/-! ### the class -/
structure MethX (K : PySem.W.Frag) (CC : Addr) (m qual : Str) (st : Stmt) (ps : List Str) : Prop where
  ex : ∃ f fd, Meth K CC m f ∧ Fun K m qual st f fd ∧ Binds K fd ps []
structure DefX (K : PySem.W.Frag) (mg : Str → Option Value) (x : Str) (st : Stmt) (ps : List Str) : Prop where
  ex : ∃ f fd, DefD K mg x st f fd ∧ Binds K fd ps []
structure RdTxt (K : PySem.W.Frag) (mg : Str → Option Value) (CR : Addr) : Prop where
  cl : Cls K CR
  nx : NoAttr K CR "text"
  nt : NoAttr K CR "tokens"
  na : NoAttr K CR "at"
  nd : NoAttr K CR "depth"
  mgc : mg "Reader" = some (.ref CR)
  ini : ∃ f fd, Mk K CR f ∧ Fun K "__init__" "Reader.__init__" sRdInit f fd ∧ Binds K fd ["self", "text", "tokens"] []
  own : MethX K CR "read_owner" "Reader.read_owner" sRdOwner ["self"]
  fun' : MethX K CR "read_function" "Reader.read_function" sRdFunc ["self"]
  tok : MethX K CR "token" "Reader.token" sRdTok ["self"]
  skp : MethX K CR "skip" "Reader.skip" sRdSkip ["self", "wanted"]
  bod : MethX K CR "read_body" "Reader.read_body" sRdBody ["self"]
  stp : MethX K CR "read_step" "Reader.read_step" sRdStep ["self", "word"]
section
variable {P : Program} {w : World} {K : PySem.W.Frag} {mg : Str → Option Value} {base : Heap} {CR : Addr}
theorem mt_tok (T : RdTxt K mg CR) (hB : Bi mg) : MetD P w K mg base 1 CR "token" 1 (spTkn CR) := by
  obtain ⟨f, fd, me, F, b⟩ := T.tok.ex
  exact metE T.cl me F b scRdTok rfl (by decide) (derRdTok (k := 0) CR T.cl T.na hB T.nt) meets_Tok
theorem mt_skp (T : RdTxt K mg CR) (hB : Bi mg) : MetD P w K mg base 2 CR "skip" 2 (spSkp CR) := by
  obtain ⟨f, fd, me, F, b⟩ := T.skp.ex
  exact metE T.cl me F b scRdSkip rfl (by decide) (derRdSkip (k := 1) CR _ (mt_tok T hB) (Nat.le_refl _)) meets_Skp
theorem mt_bod (T : RdTxt K mg CR) (hB : Bi mg) (g8 : ∃ u, mg "MOST_OPEN" = some u ∧ RelV (.int 8) u) : ∀ m : Nat, MetD P w K mg base (2 * m + 3) CR "read_body" 1 (spRdB CR m)
  | 0 => by
    obtain ⟨f, fd, me, F, b⟩ := T.bod.ex
    refine metNo T.cl me F b scRdBody fun ds C Q h => ?_
    obtain ⟨a, x, ts, n, d, b, r, _, _, _, _, hm, _⟩ := h
    omega
  | m + 1 => by
    obtain ⟨f, fd, me, F, b⟩ := T.stp.ex
    have ms : MetD P w K mg base (2 * m + 4) CR "read_step" 2 (spRdS CR (m + 1)) := metE T.cl me F b scRdStep rfl (by decide) (derRdStep (k := 2 * m + 3) CR _ _ _ (mt_tok T hB) (by omega) (mt_bod T hB g8 m) (Nat.le_refl _) (mt_skp T hB) (by omega)) meets_RdS
    obtain ⟨f, fd, me, F, b⟩ := T.bod.ex
    exact metE T.cl me F b scRdBody rfl (by decide) (derRdBody (k := 2 * m + 4) CR _ _ _ (mt_skp T hB) (by omega) T.cl T.nd g8 (mt_tok T hB) (by omega) ms (Nat.le_refl _)) meets_RdB
theorem mt_own (T : RdTxt K mg CR) (hB : Bi mg) : MetD P w K mg base 3 CR "read_owner" 1 (spRdO CR) := by
  obtain ⟨f, fd, me, F, b⟩ := T.own.ex
  exact metE T.cl me F b scRdOwner rfl (by decide) (derRdOwner (k := 2) CR _ _ (mt_skp T hB) (Nat.le_refl _) (mt_tok T hB) (by omega) T.cl T.nt T.na) meets_RdO
theorem mt_fun (T : RdTxt K mg CR) (hB : Bi mg) (g8 : ∃ u, mg "MOST_OPEN" = some u ∧ RelV (.int 8) u) (m : Nat) : MetD P w K mg base (2 * m + 4) CR "read_function" 1 (spRdF CR m) := by
  obtain ⟨f, fd, me, F, b⟩ := T.fun'.ex
  exact metE T.cl me F b scRdFunc rfl (by decide) (derRdFunc (k := 2 * m + 3) CR _ _ _ (mt_skp T hB) (by omega) (mt_tok T hB) (by omega) (mt_bod T hB g8 m) (Nat.le_refl _) T.cl T.na hB T.nt) meets_RdF
theorem mk_rd (T : RdTxt K mg CR) : C8.Mak P w K mg base 1 "Reader" CR (spD K 3 (spRdI CR)) [] := by
  obtain ⟨f, fd, M, F, b⟩ := T.ini
  exact makE M T.mgc F b scRdInit rfl (by decide) (derRdInit (k := 0) CR T.cl T.nx T.nt T.na T.nd) meets_RdI
theorem cal_tokOf (D : DefX K mg "tokens_of" sTokOf ["line"]) : CalD P w K mg base 1 "tokens_of" 1 spTokOf [] := by
  obtain ⟨f, fd, F, b⟩ := D.ex
  exact calET F b scTokOf (by decide +kernel) (by decide) rfl (by decide) (derTokOf (k := 0)) meets_TokOf
end
end Lx

set_option Elab.async false
set_option maxRecDepth 100000
set_option linter.all false
set_option maxHeartbeats 4000000
namespace Lx
open PySem PySem.Spec PyProof.Rows L2 Evl Kx
open Dl hiding Stp Spec
section
variable {P : Program} {w : World} {K : PySem.W.Frag} {mg : Str → Option Value} {base : Heap} {f : Addr} {fd : FuncData}
abbrev sReadPgm : Stmt := top 37
theorem scReadPgm : FnScope ["text", "line", "tokens", "lines", "words", "order", "owners", "functions", "rights"] ["text"] (defScope sReadPgm) := ⟨rfl, rfl, rfl, by decide +kernel, rfl, by decide +kernel, by decide +kernel⟩
def rdReadPgm (sp_tokens_of : Dl.Spec) (aReader : Addr) (spReader : Dl.Spec) (sp_read_owner : Dl.Spec) (sp_read_function : Dl.Spec) (aP : Addr) (okP : Prt → Prop) : TSD := (sSeq (sIf (dNot (dTru (dFk isiV (dCons (dVar 0) (dCons (dC (.ty "str")) dNil))))) (fun _ _ _ => False) sNext) (sSeq (sSet 3 (dLcL (dLcL (dMt "str" splitD (dVar 0) (dCons (dC (.str "\n")) dNil)) (.one 1) dYes (dCall 1 sp_tokens_of [] (dCons (dVar 1) dNil)) [1]) (.one 2) (dTru (dVar 2)) (dVar 2) [2])) (sSeq (sSet 4 (dLcL (dVar 3) (.one 2) dYes (dOp ixD (dVar 2) (dC (.int 0))) [2])) (sSeq (sSet 5 (dOp addD (dOp addD (dLst (dCons (dC (.str "rights")) dNil)) (dOp mulD (dLst (dCons (dC (.str "owner")) dNil)) (dMt "list" countD (dVar 4) (dCons (dC (.str "owner")) dNil)))) (dOp mulD (dLst (dCons (dC (.str "function")) dNil)) (dMt "list" countD (dVar 4) (dCons (dC (.str "function")) dNil))))) (sSeq (sIf (dTest (dOp (fun d e => (neDD d e).map fun b => .dat (.bl b)) (dVar 4) (dVar 5))) (fun _ _ _ => False) sNext) (sSeq (sSet 6 (dLcL (dVar 3) (.one 2) (dTest (dOp (fun d e => (eqDD d e).map fun b => .dat (.bl b)) (dOp ixD (dVar 2) (dC (.int 0))) (dC (.str "owner")))) (dMeth aReader "read_owner" 1 sp_read_owner [] (dMake aReader 3 spReader (dCons (dVar 0) (dCons (dVar 2) dNil))) dNil) [2])) (sSeq (sSet 7 (dLcL (dVar 3) (.one 2) (dTest (dOp (fun d e => (eqDD d e).map fun b => .dat (.bl b)) (dOp ixD (dVar 2) (dC (.int 0))) (dC (.str "function")))) (dMeth aReader "read_function" 1 sp_read_function [] (dMake aReader 3 spReader (dCons (dVar 0) (dCons (dVar 2) dNil))) dNil) [2])) (sSeq (sSet 8 (dSl (dOp ixD (dVar 3) (dC (.int 0))) (dSo (dC (.int 1))) dNo)) (sRet (dMakeP K aP okP (dCons (dVar 8) (dCons (dVar 6) (dCons (dVar 7) dNil)))))))))))))
theorem derReadPgm {k kP kReader k_read_function k_read_owner k_tokens_of : Nat} (sp_tokens_of : Dl.Spec) (aReader : Addr) (spReader : Dl.Spec) (sp_read_owner : Dl.Spec) (sp_read_function : Dl.Spec) (aP : Addr) (okP : Prt → Prop) (hB : Bi mg) (c_tokens_of : CalD P w K mg base k_tokens_of "tokens_of" 1 sp_tokens_of []) (hk_tokens_of : k_tokens_of ≤ k) (MReader : C8.Mak P w K mg base kReader "Reader" aReader (spD K 3 spReader) []) (hkReader : kReader + 1 ≤ k) (m_read_owner : MetD P w K mg base k_read_owner aReader "read_owner" 1 sp_read_owner) (hk_read_owner : k_read_owner ≤ k) (m_read_function : MetD P w K mg base k_read_function aReader "read_function" 1 sp_read_function) (hk_read_function : k_read_function ≤ k) (cP : MakP P w K mg base kP aP okP) (hkP : kP ≤ k) : DerD P w K mg base ["text", "line", "tokens", "lines", "words", "order", "owners", "functions", "rights"] "read_program" sReadPgm f k (rdReadPgm (K := K) sp_tokens_of aReader spReader sp_read_owner sp_read_function aP okP) := fun cdv A outer s H Ex G0 H0 C0 hr => (ds_cons (ds_if (dt_not (dt_tru (de_bk (isi_S (K := K)) m_isi (by rfl) hB.isi PyProof.Rows.boot_isinstance (da_cons (dv 0) (da_cons (de_bltn (by rfl) hB.str (by decide +kernel)) da_nil))))) ds_never ds_nil) (ds_cons (ds_setLcL (i := 3) (own := [("tokens", 2)]) (tg := (.one 2)) rfl scReadPgm.nd rfl rfl (sw_true rfl rfl rfl (by decide +kernel)) (de_lcL (own := [("line", 1)]) (tg := (.one 1)) rfl scReadPgm.nd (de_mtd PySem.F.plainAttrs_str PySem.F.slot_str_split PySem.F.type_str_split o_split m_split (dv 0) (da_cons de_str da_nil)) (blkOk_by (own := [("line", 1)]) (N := ["text", "line", "tokens", "lines", "words", "order", "owners", "functions", "rights"]) (sc := defScope sReadPgm) (by decide +kernel)) (fun _ _ _ _ _ => (pg_name (i := 1) scReadPgm.nd rfl (Or.inl rfl))) (fun _ _ _ _ _ => dts_nil) (fun _ _ _ _ _ => (de_c c_tokens_of hr hk_tokens_of (by rfl) (da_cons (dv 1) da_nil))) (by decide)) (blkOk_by (own := [("tokens", 2)]) (N := ["text", "line", "tokens", "lines", "words", "order", "owners", "functions", "rights"]) (sc := defScope sReadPgm) (by decide +kernel)) (fun _ _ _ _ _ => (pg_name (i := 2) scReadPgm.nd rfl (Or.inl rfl))) (fun _ _ _ _ _ => (dts_one (dt_tru (dv 2)))) (fun _ _ _ _ _ => (dv 2)) (by decide)) (ds_cons (ds_setLcL (i := 4) (own := [("tokens", 2)]) (tg := (.one 2)) rfl scReadPgm.nd rfl rfl (sw_true rfl rfl rfl (by decide +kernel)) (dv 3) (blkOk_by (own := [("tokens", 2)]) (N := ["text", "line", "tokens", "lines", "words", "order", "owners", "functions", "rights"]) (sc := defScope sReadPgm) (by decide +kernel)) (fun _ _ _ _ _ => (pg_name (i := 2) scReadPgm.nd rfl (Or.inl rfl))) (fun _ _ _ _ _ => dts_nil) (fun _ _ _ _ _ => (de_ix (K := K) (dv 2) de_int (fun _ _ => rfl))) (by decide)) (ds_cons (ds_set (i := 5) scReadPgm.nd rfl (Or.inl rfl) (de_op o_add m_add (de_op o_add m_add (de_lst (da_cons de_str da_nil)) (de_op o_mul m_mul (de_lst (da_cons de_str da_nil)) (de_mtd PySem.F.plainAttrs_list PySem.F.slot_list_count PySem.F.type_list_count (mt_countSK (room_units1 hr)) m_count (dv 4) (da_cons de_str da_nil)))) (de_op o_mul m_mul (de_lst (da_cons de_str da_nil)) (de_mtd PySem.F.plainAttrs_list PySem.F.slot_list_count PySem.F.type_list_count (mt_countSK (room_units1 hr)) m_count (dv 4) (da_cons de_str da_nil))))) (ds_cons (ds_if (dt_cmp (o_ne hr.units) m_ne (dv 4) (dv 5) (nomark _)) ds_never ds_nil) (ds_cons (ds_setLcL (i := 6) (own := [("tokens", 2)]) (tg := (.one 2)) rfl scReadPgm.nd rfl rfl (sw_true rfl rfl rfl (by decide +kernel)) (dv 3) (blkOk_by (own := [("tokens", 2)]) (N := ["text", "line", "tokens", "lines", "words", "order", "owners", "functions", "rights"]) (sc := defScope sReadPgm) (by decide +kernel)) (fun _ _ _ _ _ => (pg_name (i := 2) scReadPgm.nd rfl (Or.inl rfl))) (fun _ _ _ _ _ => (dts_one (dt_cmp (o_eq hr.units) m_eq (de_ix (K := K) (dv 2) de_int (fun _ _ => rfl)) de_str (nomark _)))) (fun _ _ _ _ _ => (de_mt0 m_read_owner hr hk_read_owner (de_mk MReader hr hkReader (by rfl) (da_cons (dv 0) (da_cons (dv 2) da_nil))))) (by decide)) (ds_cons (ds_setLcL (i := 7) (own := [("tokens", 2)]) (tg := (.one 2)) rfl scReadPgm.nd rfl rfl (sw_true rfl rfl rfl (by decide +kernel)) (dv 3) (blkOk_by (own := [("tokens", 2)]) (N := ["text", "line", "tokens", "lines", "words", "order", "owners", "functions", "rights"]) (sc := defScope sReadPgm) (by decide +kernel)) (fun _ _ _ _ _ => (pg_name (i := 2) scReadPgm.nd rfl (Or.inl rfl))) (fun _ _ _ _ _ => (dts_one (dt_cmp (o_eq hr.units) m_eq (de_ix (K := K) (dv 2) de_int (fun _ _ => rfl)) de_str (nomark _)))) (fun _ _ _ _ _ => (de_mt0 m_read_function hr hk_read_function (de_mk MReader hr hkReader (by rfl) (da_cons (dv 0) (da_cons (dv 2) da_nil))))) (by decide)) (ds_cons (ds_set (i := 8) scReadPgm.nd rfl (Or.inl rfl) (de_sl (de_ix (K := K) (dv 3) de_int (fun _ _ => rfl)) (do_some de_int) do_none)) (ds_one (ds_try (ds_one (ds_ret (de_makeP cP hr hkP (by rfl) (da_cons (dv 8) (da_cons (dv 6) (da_cons (dv 7) da_nil))))))))))))))))
end
end Lx

set_option Elab.async false
set_option maxRecDepth 100000
set_option linter.all false
set_option maxHeartbeats 4000000
namespace Lx
open PySem PySem.Spec PyProof.Rows L2 Evl Kx
open Dl hiding Stp Spec
/-! ### read_program -/
inductive Ln where
  | r (rs : List Str) | o (o : Own) | f (f : Fn)
def lnT : Ln → List Str
  | .r rs => wR :: rs
  | .o o => wO :: o.1 :: o.2
  | .f f => wF :: f.1 :: f.2.1 :: tokB f.2.2
def lnH : Ln → Str
  | .r _ => wR
  | .o _ => wO
  | .f _ => wF
def lnO : Ln → List Own
  | .o o => [o]
  | _ => []
def lnF : Ln → List Fn
  | .f f => [f]
  | _ => []
def lns (q : Prt) : List Ln := [.r q.rs] ++ q.os.map .o ++ q.fs.map .f
theorem lines_lns (q : Prt) : linesOf q = (lns q).map lnT := by
  unfold linesOf lns
  rw [List.map_append, List.map_append, List.map_map, List.map_map]
  rfl
theorem lns_h (q : Prt) : (lns q).map lnH = [wR] ++ List.replicate q.os.length wO ++ List.replicate q.fs.length wF := by
  unfold lns
  rw [List.map_append, List.map_append, List.map_map, List.map_map]
  congr 1
  · congr 1
    exact List.map_const' ..
  · exact List.map_const' ..
theorem lns_o (q : Prt) : (lns q).flatMap lnO = q.os := by
  unfold lns
  rw [List.flatMap_append, List.flatMap_append]
  have h1 : (q.os.map Ln.o).flatMap lnO = q.os := by
    induction q.os with
    | nil => rfl
    | cons x r ih => rw [List.map_cons, List.flatMap_cons, ih]; rfl
  have h2 : (q.fs.map Ln.f).flatMap lnO = [] := by
    induction q.fs with
    | nil => rfl
    | cons x r ih => rw [List.map_cons, List.flatMap_cons, ih]; rfl
  rw [h1, h2]
  simp [lnO]
theorem lns_f (q : Prt) : (lns q).flatMap lnF = q.fs := by
  unfold lns
  rw [List.flatMap_append, List.flatMap_append]
  have h1 : (q.os.map Ln.o).flatMap lnF = [] := by
    induction q.os with
    | nil => rfl
    | cons x r ih => rw [List.map_cons, List.flatMap_cons, ih]; rfl
  have h2 : (q.fs.map Ln.f).flatMap lnF = q.fs := by
    induction q.fs with
    | nil => rfl
    | cons x r ih => rw [List.map_cons, List.flatMap_cons, ih]; rfl
  rw [h1, h2]
  simp [lnF]
theorem ix_hd {d : D} {ds : List D} : ixD (.lst (d :: ds)) (.int 0) = some (.dat d) := by
  show (atI (d :: ds) ((0 : Nat) : Int)).map R.dat = _
  rw [atI_nat (j := 0) (v := d) rfl]
  rfl
theorem ix0 {l : Ln} : ixD (strsX (lnT l)) (.int 0) = some (.dat (.str (lnH l))) := by cases l <;> exact ix_hd
theorem toA_strs (xs : List Str) : toA (xs.map D.str) = some (xs.map PyData.str) := by
  induction xs with
  | nil => rfl
  | cons x r ih => simp only [List.map_cons, toA, toP, ih]
theorem count_o {a b : Nat} : countD (.lst ((([wR] ++ List.replicate a wO ++ List.replicate b wF) : List Str).map D.str)) [.str "owner"] = some (.dat (.int (a : Int))) := by
  unfold countD
  simp only [toA_strs]
  congr 3
  simp only [List.map_append, List.map_replicate, List.countP_append, List.countP_replicate, List.map_cons, List.map_nil, List.countP_cons, List.countP_nil]
  rw [show eqS (.str wO) "owner" = true by decide +kernel, show eqS (.str wF) "owner" = false by decide +kernel, show eqS (.str wR) "owner" = false by decide +kernel]
  simp
theorem count_f {a b : Nat} : countD (.lst ((([wR] ++ List.replicate a wO ++ List.replicate b wF) : List Str).map D.str)) [.str "function"] = some (.dat (.int (b : Int))) := by
  unfold countD
  simp only [toA_strs]
  congr 3
  simp only [List.map_append, List.map_replicate, List.countP_append, List.countP_replicate, List.map_cons, List.map_nil, List.countP_cons, List.countP_nil]
  rw [show eqS (.str wO) "function" = false by decide +kernel, show eqS (.str wF) "function" = true by decide +kernel, show eqS (.str wR) "function" = false by decide +kernel]
  simp
theorem mul_rep {x : D} {n : Nat} (h : n ≤ 1000) : mulD (.lst [x]) (.int (n : Int)) = some (.new (.lst (List.replicate n x))) := by
  have e : (List.replicate (n : Int).toNat [x]).flatten = List.replicate n x := by
    rw [Int.toNat_natCast]
    clear h
    induction n with
    | zero => rfl
    | succ n ih => rw [List.replicate_succ, List.replicate_succ, List.flatten_cons, ih]; rfl
  exact (if_pos (c := -(2 ^ 62) ≤ (n : Int) ∧ (n : Int) ≤ 100000 ∧ [x].length * (n : Int).toNat ≤ 100000) ⟨by omega, by omega, by simp; omega⟩).trans (by rw [e])
theorem layS7 {xs : List Str} (h : ∀ x ∈ xs, PyData.strOk x = true) : PyData.canLayAll0 (xs.map PyData.str) = true := by
  induction xs with
  | nil => rfl
  | cons x r ih => simp only [List.map_cons, PyData.canLayAll0, PyData.canLay0, ih fun y hy => h y (List.mem_cons_of_mem _ hy), h x List.mem_cons_self, Bool.and_self]
theorem depS7 (xs : List Str) : PyData.depthAll (xs.map PyData.str) ≤ 1 := by
  induction xs with
  | nil => simp [PyData.depthAll]
  | cons x r ih =>
    simp only [List.map_cons, PyData.depthAll, PyData.depth]
    omega
theorem shpS7 {xs : List Str} (h : ∀ x ∈ xs, PyData.strOk x = true) : SeqAt.shaped (strsD xs) = true := by
  unfold SeqAt.shaped strsD
  have := depS7 xs
  rw [Bool.and_eq_true]
  refine ⟨by simp only [PyData.canLay0]; exact layS7 h, ?_⟩
  rw [decide_eq_true_eq]
  simp only [PyData.depth]
  omega
theorem ne_strs {xs : List Str} (h : ∀ x ∈ xs, PyData.strOk x = true) : neDD (strsX xs) (strsX xs) = some false := by
  unfold neDD strsX
  simp only [toP, toA_strs, Option.map_some]
  have h := shpS7 h
  have hn := shaped_noDict h
  unfold strsD at h hn
  rw [if_pos (by simp only [h, hn, Bool.not_false, Bool.and_self])]
  rw [eqv_self hn]
  rfl
end Lx

set_option Elab.async false
set_option maxRecDepth 100000
set_option linter.all false
set_option maxHeartbeats 4000000
namespace Lx
open PySem PySem.Spec PyProof.Rows L2 Evl Kx
open Dl hiding Stp Spec
/-- a text that is read: its lines as they stand -/
structure RawOk (raw : List Str) (q : Prt) : Prop where
  ne : raw ≠ []
  ln : ∀ l ∈ raw, 10 ∉ TL.tl l ∧ l.length ≤ 29000
  len : (Str.join "\n" raw).length ≤ 1000000
  num : raw.length ≤ 90000
  tok : (raw.map Tk.tokF).filter (fun ts => !ts.isEmpty) = linesOf q
theorem RawOk.split {raw : List Str} {q : Prt} (h : RawOk raw q) : Txt.split (Str.join "\n" raw) "\n" = raw := by
  rw [← TL.join_eq]
  exact TL.split_join (s := 10) (S := []) (by decide +kernel) (by decide +kernel) h.ne fun p hp => (h.ln p hp).1
def spRead (K : PySem.W.Frag) (CP : Addr) (n : Nat) (okP : Prt → Prop) : Dl.Spec := fun ds C Q => ∃ raw q, ds = [.str (Str.join "\n" raw)] ∧ RawOk raw q ∧ TxtOk n q ∧ okP q ∧ Q (progX K CP q) C
theorem get_new {C : Cs} {p : Addr} {c : Cell} : getC ((p, c) :: C) p = some c := by
  unfold getC
  rw [if_pos rfl]
theorem put_new {C : Cs} {p : Addr} {c c0 : Cell} (h : p ∉ keys C) : putC ((p, c0) :: C) p c = (p, c) :: C := by
  unfold putC
  rw [List.map_cons, if_pos rfl]
  congr 1
  refine (List.map_congr_left fun x hx => ?_).trans (List.map_id _)
  have : x.1 ≠ p := fun z => h (by rw [← z]; exact List.mem_map.mpr ⟨x, hx, rfl⟩)
  rw [if_neg this]
  rfl
theorem meets_Read {K : PySem.W.Frag} {CP CR : Addr} {n : Nat} {okP : Prt → Prop} (h8 : n ≤ 8) : Meets ["text", "line", "tokens", "lines", "words", "order", "owners", "functions", "rights"] 1 (spRead K CP n okP)
    (rdReadPgm (K := K) spTokOf CR (spRdI CR) (spRdO CR) (spRdF CR n) CP okP) := by
  rintro ds C Qd _ ⟨raw, q, rfl, hraw, hq, hok, k⟩
  have hsp := hraw.split
  have hll := lines_len hq
  have hlm := line_mem hq
  rw [lines_lns] at hll hlm
  have hol := hq.ol
  have hfl := hq.fl
  refine ⟨_, rfl, true, rfl, iteN rfl ⟨rfl, .new (.lst (raw.map .str)), ?_, _, rfl, ?_, ?_, ?_⟩⟩
  · rw [← hsp]
    conv => lhs; rw [hsp]
    have : splitD (.str (Str.join "\n" raw)) [.str "\n"] = some (.new (.lst ((Txt.split (Str.join "\n" raw) "\n").map .str))) := if_pos ⟨by decide +kernel, hraw.len⟩
    exact this
  · rw [List.length_map]
    exact hraw.num
  · intro j hj o
    simp only [List.mem_cons, List.not_mem_nil, or_false] at hj
    subst hj
    simp [startD]
  refine lcD_pre (g := D.str) (xs := raw) (fun done acc sl C3 => C3 = C ∧ acc = (done.map Tk.tokF).map strsX ∧ sl = [.va (.str (Str.join "\n" raw)), .un, .un, .un, .un, .un, .un, .un, .un]) ⟨rfl, rfl, rfl⟩ ?_ ?_
  · rintro done x rest acc sl C3 N e ⟨rfl, rfl, rfl⟩ kN
    exact ⟨_, rfl, rfl, x, rfl, (hraw.ln x (by rw [e]; simp)).2, kN _ _ _ ⟨rfl, by simp, rfl⟩⟩
  rintro acc sl C3 ⟨rfl, rfl, rfl⟩
  refine ⟨_, rfl, by rw [List.length_map, List.length_map]; exact hraw.num, by intro j hj o; simp only [List.mem_cons, List.not_mem_nil, or_false] at hj; subst hj; simp [reS], ?_⟩
  refine lcD_pre (g := strsX) (xs := raw.map Tk.tokF) (fun done acc sl C4 => C4 = C3 ∧ acc = (done.filter fun ts => !ts.isEmpty).map strsX ∧ sl = [.va (.str (Str.join "\n" raw)), .un, .un, .un, .un, .un, .un, .un, .un]) ⟨rfl, rfl, rfl⟩ ?_ ?_
  · rintro done x rest acc sl C4 N e ⟨rfl, rfl, rfl⟩ kN
    refine ⟨_, rfl, !x.isEmpty, by cases x <;> rfl, ?_⟩
    refine ite2 (fun h => ?_) (fun h => ?_)
    · exact kN _ _ _ ⟨rfl, by rw [filt1 (p := fun ts : List Str => !ts.isEmpty) h, List.map_append]; rfl, rfl⟩
    · exact kN _ _ _ ⟨rfl, by rw [filt0 (p := fun ts : List Str => !ts.isEmpty) h], rfl⟩
  rintro acc sl C4 ⟨rfl, rfl, rfl⟩
  rw [hraw.tok, lines_lns, List.map_map]
  refine ⟨by simp [reS], ?_⟩
  have hlen : ((lns q).map (strsX ∘ lnT)).length ≤ 90000 := by
    rw [List.length_map] at hll ⊢
    omega
  refine ⟨_, rfl, hlen, by intro j hj o; simp only [List.mem_cons, List.not_mem_nil, or_false] at hj; subst hj; simp [reS], ?_⟩
  refine lcD_pre (g := strsX ∘ lnT) (xs := lns q) (fun done acc sl C5 => C5 = C4 ∧ acc = (done.map lnH).map D.str ∧ sl = [.va (.str (Str.join "\n" raw)), .un, .un, .va (.lst ((lns q).map (strsX ∘ lnT))), .un, .un, .un, .un, .un]) ⟨rfl, rfl, rfl⟩ ?_ ?_
  · rintro done x rest acc sl C5 N e ⟨rfl, rfl, rfl⟩ kN
    exact ⟨_, rfl, _, ix0, kN _ _ _ ⟨rfl, by simp, rfl⟩⟩
  rintro acc sl C5 ⟨rfl, rfl, rfl⟩
  rw [lns_h]
  have hord : [D.str wR] ++ List.replicate q.os.length (D.str wO) ++ List.replicate q.fs.length (D.str wF) = ([wR] ++ List.replicate q.os.length wO ++ List.replicate q.fs.length wF).map D.str := by simp
  have hne : neDD (.lst (([wR] ++ List.replicate q.os.length wO ++ List.replicate q.fs.length wF).map D.str)) (.lst ([D.str wR] ++ List.replicate q.os.length (D.str wO) ++ List.replicate q.fs.length (D.str wF))) = some false := by
    rw [hord]
    refine ne_strs fun x hx => ?_
    simp only [List.mem_append, List.mem_cons, List.not_mem_nil, or_false, List.mem_replicate] at hx
    rcases hx with (rfl | ⟨_, rfl⟩) | ⟨_, rfl⟩
    · decide +kernel
    · decide +kernel
    · decide +kernel
  refine ⟨by simp [reS], by decide, by decide, rfl, _, count_o, _, mul_rep (by omega), _, add_lst (by simp; omega), by decide, rfl, _, count_f, _, mul_rep (by omega), _, add_lst (by simp; omega), by simp [reS], .dat (.bl false), congrArg (Option.map fun b => R.dat (.bl b)) hne, false, rfl, iteN rfl ?_⟩
  refine ⟨_, rfl, hlen, by intro j hj o; simp only [List.mem_cons, List.not_mem_nil, or_false] at hj; subst hj; simp [reS], ?_⟩
  refine lcD_pre (g := strsX ∘ lnT) (xs := lns q) (fun done acc sl C6 => C5.Sublist C6 ∧ acc = (done.flatMap lnO).map ownX ∧ sl = [.va (.str (Str.join "\n" raw)), .un, .un, .va (.lst ((lns q).map (strsX ∘ lnT))), .ow (.lst (([wR] ++ List.replicate q.os.length wO ++ List.replicate q.fs.length wF).map D.str)), .ow (.lst ([D.str wR] ++ List.replicate q.os.length (D.str wO) ++ List.replicate q.fs.length (D.str wF))), .un, .un, .un]) ⟨List.Sublist.refl _, rfl, rfl⟩ ?_ ?_
  · rintro done x rest acc sl C6 N e ⟨hs, rfl, rfl⟩ kN
    refine ⟨_, rfl, _, ix0, _, rfl, _, rfl, ?_⟩
    cases x with
    | r rs => exact iteN (show decide (wR = ("owner" : Str)) = false by decide +kernel) (kN _ _ _ ⟨hs, by simp [lnO], rfl⟩)
    | f g => exact iteN (show decide (wF = ("owner" : Str)) = false by decide +kernel) (kN _ _ _ ⟨hs, by simp [lnO], rfl⟩)
    | o o =>
      have ho : o ∈ q.os := by rw [← lns_o q, e]; simp [lnO]
      refine iteY (show decide (wO = ("owner" : Str)) = true by decide +kernel) fun p hp => ⟨rfl, p, _, lnT (.o o), rfl, get_new, rfl, ⟨_, get_put get_new, lk_m m_owner⟩, rfl, p, _, o, _, rfl, get_put get_new, rfl, by have := (hq.on o ho).2.1; omega, kN _ _ _ ⟨?_, ?_, rfl⟩⟩
      · show C5.Sublist (putC ((p, .ins CR []) :: C6) p _)
        rw [put_new hp]
        exact hs.cons _
      · simp [lnO]
  rintro acc sl C6 ⟨hs6, rfl, rfl⟩
  rw [lns_o]
  refine ⟨by simp [reS], _, rfl, hlen, by intro j hj o; simp only [List.mem_cons, List.not_mem_nil, or_false] at hj; subst hj; simp [reS], ?_⟩
  refine lcD_pre (g := strsX ∘ lnT) (xs := lns q) (fun done acc sl C7 => C5.Sublist C7 ∧ acc = (done.flatMap lnF).map fnX ∧ sl = [.va (.str (Str.join "\n" raw)), .un, .un, .va (.lst ((lns q).map (strsX ∘ lnT))), .ow (.lst (([wR] ++ List.replicate q.os.length wO ++ List.replicate q.fs.length wF).map D.str)), .ow (.lst ([D.str wR] ++ List.replicate q.os.length (D.str wO) ++ List.replicate q.fs.length (D.str wF))), .ow (.lst (q.os.map ownX)), .un, .un]) ⟨hs6, rfl, rfl⟩ ?_ ?_
  · rintro done x rest acc sl C7 N e ⟨hs, rfl, rfl⟩ kN
    refine ⟨_, rfl, _, ix0, _, rfl, _, rfl, ?_⟩
    cases x with
    | r rs => exact iteN (show decide (wR = ("function" : Str)) = false by decide +kernel) (kN _ _ _ ⟨hs, by simp [lnF], rfl⟩)
    | o g => exact iteN (show decide (wO = ("function" : Str)) = false by decide +kernel) (kN _ _ _ ⟨hs, by simp [lnF], rfl⟩)
    | f g =>
      have hg : g ∈ q.fs := by rw [← lns_f q, e]; simp [lnF]
      obtain ⟨g1, g2, g3, g4, g5⟩ := hq.fn g hg
      have gl := tokI_len g.2.2
      refine iteY (show decide (wF = ("function" : Str)) = true by decide +kernel) fun p hp => ⟨rfl, p, _, lnT (.f g), rfl, get_new, rfl, ⟨_, get_put get_new, lk_m m_func⟩, rfl, p, _, g, _, rfl, get_put get_new, rfl, by simp [tokB]; omega, g3, h8, fun m => kN _ _ _ ⟨?_, ?_, rfl⟩⟩
      · show C5.Sublist (putC ((p, .ins CR []) :: C7) p _)
        rw [put_new hp]
        exact hs.cons _
      · simp [lnF]
  rintro acc sl C7 ⟨hs7, rfl, rfl⟩
  rw [lns_f]
  refine ⟨by simp [reS], .dat (strsX (wR :: q.rs)), ?_, 1, rfl, .new (.lst (q.rs.map .str)), ?_, by simp [reS], q, rfl, hok, C5, hs7, k⟩
  · exact ix_hd
  · show some (R.new (.lst (cutA ((wR :: q.rs).map D.str) (some 1) none))) = _
    have e : cutA ((wR :: q.rs).map D.str) (some 1) none = q.rs.map .str := by
      unfold cutA
      have h1 : HT.sIx ((wR :: q.rs).map D.str).length 0 (some 1) = 1 := by
        unfold HT.sIx
        simp
      have h2 : HT.sIx ((wR :: q.rs).map D.str).length ((wR :: q.rs).map D.str).length none = q.rs.length + 1 := by
        unfold HT.sIx
        simp
      rw [h1, h2]
      simp
      exact List.take_of_length_le (by simp)
    rw [e]
end Lx

set_option Elab.async false
set_option maxRecDepth 100000
set_option linter.all false
set_option maxHeartbeats 4000000
namespace Lx
open PySem PySem.Spec PyProof.Rows L2 Evl Kx
open Dl hiding Stp Spec
section
variable {P : Program} {w : World} {K : PySem.W.Frag} {mg : Str → Option Value} {base : Heap} {f : Addr} {fd : FuncData}
abbrev sLDeep : Stmt := top 57
theorem scLDeep : FnScope ["kind", "body", "turn", "wraps", "parts", "tokens", "due"] [] (defScope sLDeep) := ⟨rfl, rfl, rfl, by decide +kernel, rfl, by decide +kernel, by decide +kernel⟩
def rdLDeep (sp_law_lines : Dl.Spec) (sp_read_program : Dl.Spec) (sp_law_program : Dl.Spec) (aP : Addr) (sp_text_of : Dl.Spec) : TSD := (sSeq (sForR (dCons (dC (.int 4)) dNil) (.one 0) (sSeq (sSet 1 (dLst (dCons (dTup (dCons (dC (.str "back")) dNil)) dNil))) (sForR (dCons (dC (.int 7)) dNil) (.one 2) (sSeq (sSet 3 (dLst (dCons (dTup (dCons (dC (.str "loop")) (dCons (dVar 1) dNil))) (dCons (dTup (dCons (dC (.str "block")) (dCons (dC (.bl true)) (dCons (dVar 1) dNil)))) (dCons (dTup (dCons (dC (.str "either")) (dCons (dVar 1) (dCons (dLst dNil) dNil)))) (dCons (dTup (dCons (dC (.str "either")) (dCons (dLst (dCons (dTup (dCons (dC (.str "back")) dNil)) dNil)) (dCons (dVar 1) dNil)))) dNil)))))) (sSeq (sSet 1 (dLst (dCons (dOp ixD (dVar 3) (dVar 0)) dNil))) (sSeq (sSet 4 (dLst (dCons (dLst (dCons (dC (.str "a")) dNil)) (dCons (dLst (dCons (dTup (dCons (dC (.str "o")) (dCons (dLst dNil) dNil))) dNil)) (dCons (dLst (dCons (dTup (dCons (dC (.str "f")) (dCons (dC (.str "o")) (dCons (dVar 1) dNil)))) dNil)) dNil))))) (sSeq (sSet 6 (dMt "str" joinD (dC (.str "\n")) (dCons (dLcL (dCall 1 sp_law_lines [] (dCons (dVar 4) dNil)) (.one 5) dYes (dMt "str" joinD (dC (.str " ")) (dCons (dVar 5) dNil)) [5]) dNil))) (sIf (dOr (dTest (dOp (fun d e => (neDD d e).map fun b => .dat (.bl b)) (dCall 1 sp_text_of [] (dCons (dCall 1 sp_law_program [] (dCons (dVar 4) dNil)) dNil)) (dVar 6))) (dTest (dEqP K aP true (dCall 1 sp_read_program [] (dCons (dVar 6) dNil)) (dCall 1 sp_law_program [] (dCons (dVar 4) dNil))))) (sRet (dC (.bl false))) sNext)))))))) (sSeq (sSet 4 (dLst (dCons (dLst (dCons (dC (.str "net")) dNil)) (dCons (dLst (dCons (dTup (dCons (dC (.str "o")) (dCons (dLst dNil) dNil))) dNil)) (dCons (dLst (dCons (dTup (dCons (dC (.str "f")) (dCons (dC (.str "o")) (dCons (dOp mulD (dLst (dCons (dTup (dCons (dC (.str "check")) (dCons (dC (.str "net")) dNil))) dNil)) (dC (.int 250))) dNil)))) dNil)) dNil))))) (sRet (dEqP K aP false (dCall 1 sp_read_program [] (dCons (dCall 1 sp_text_of [] (dCons (dCall 1 sp_law_program [] (dCons (dVar 4) dNil)) dNil)) dNil)) (dCall 1 sp_law_program [] (dCons (dVar 4) dNil))))))
theorem derLDeep {k k_law_lines k_law_program k_read_program k_text_of : Nat} (sp_law_lines : Dl.Spec) (sp_read_program : Dl.Spec) (sp_law_program : Dl.Spec) (aP : Addr) (sp_text_of : Dl.Spec) (c_law_lines : CalD P w K mg base k_law_lines "_law_lines" 1 sp_law_lines []) (hk_law_lines : k_law_lines ≤ k) (c_read_program : CalD P w K mg base k_read_program "read_program" 1 sp_read_program []) (hk_read_program : k_read_program ≤ k) (c_law_program : CalD P w K mg base k_law_program "_law_program" 1 sp_law_program []) (hk_law_program : k_law_program ≤ k) (hE : EqP P w K mg base aP) (hk2 : 2 ≤ k) (c_text_of : CalD P w K mg base k_text_of "text_of" 1 sp_text_of []) (hk_text_of : k_text_of ≤ k) (hB : Bi mg) : DerD P w K mg base ["kind", "body", "turn", "wraps", "parts", "tokens", "due"] "_law_deep_right" sLDeep f k (rdLDeep (K := K) sp_law_lines sp_read_program sp_law_program aP sp_text_of) := fun cdv A outer s H Ex G0 H0 C0 hr => (ds_cons (ds_forR (tg := (.one 0)) PassesOwn.never rfl (by rfl) hB.range de_int (pg_name (i := 0) scLDeep.nd rfl (Or.inl rfl)) (ds_cons (ds_set (i := 1) scLDeep.nd rfl (Or.inl rfl) (de_lst (da_cons (de_tup (da_cons de_str da_nil)) da_nil))) (ds_one (ds_forR (tg := (.one 2)) PassesOwn.never rfl (by rfl) hB.range de_int (pg_name (i := 2) scLDeep.nd rfl (Or.inl rfl)) (ds_cons (ds_set (i := 3) scLDeep.nd rfl (Or.inl rfl) (de_lst (da_cons (de_tup (da_cons de_str (da_cons (dv 1) da_nil))) (da_cons (de_tup (da_cons de_str (da_cons de_bl (da_cons (dv 1) da_nil)))) (da_cons (de_tup (da_cons de_str (da_cons (dv 1) (da_cons (de_lst da_nil) da_nil)))) (da_cons (de_tup (da_cons de_str (da_cons (de_lst (da_cons (de_tup (da_cons de_str da_nil)) da_nil)) (da_cons (dv 1) da_nil)))) da_nil)))))) (ds_cons (ds_set (i := 1) scLDeep.nd rfl (Or.inl rfl) (de_lst (da_cons (de_ix (K := K) (dv 3) (dv 0) (fun _ _ => rfl)) da_nil))) (ds_cons (ds_set (i := 4) scLDeep.nd rfl (Or.inl rfl) (de_lst (da_cons (de_lst (da_cons de_str da_nil)) (da_cons (de_lst (da_cons (de_tup (da_cons de_str (da_cons (de_lst da_nil) da_nil))) da_nil)) (da_cons (de_lst (da_cons (de_tup (da_cons de_str (da_cons de_str (da_cons (dv 1) da_nil)))) da_nil)) da_nil))))) (ds_cons (ds_set (i := 6) scLDeep.nd rfl (Or.inl rfl) (de_mtd PySem.F.plainAttrs_str PySem.F.slot_str_join PySem.F.type_str_join o_join m_join de_str (da_cons (de_lcL (own := [("tokens", 5)]) (tg := (.one 5)) rfl scLDeep.nd (de_c c_law_lines hr hk_law_lines (by rfl) (da_cons (dv 4) da_nil)) (blkOk_by (own := [("tokens", 5)]) (N := ["kind", "body", "turn", "wraps", "parts", "tokens", "due"]) (sc := defScope sLDeep) (by decide +kernel)) (fun _ _ _ _ _ => (pg_name (i := 5) scLDeep.nd rfl (Or.inl rfl))) (fun _ _ _ _ _ => dts_nil) (fun _ _ _ _ _ => (de_mtd PySem.F.plainAttrs_str PySem.F.slot_str_join PySem.F.type_str_join o_join m_join de_str (da_cons (dv 5) da_nil))) (by decide)) da_nil))) (ds_one (ds_if (PW.pt (dw_or (dt_cmp (o_ne hr.units) m_ne (de_c c_text_of hr hk_text_of (by rfl) (da_cons (de_c c_law_program hr hk_law_program (by rfl) (da_cons (dv 4) da_nil)) da_nil)) (dv 6) (nomark _)) (dw_or1 (dt_neP hE hr (by omega) (de_c c_read_program hr hk_read_program (by rfl) (da_cons (dv 6) da_nil)) (de_c c_law_program hr hk_law_program (by rfl) (da_cons (dv 4) da_nil)))))) (ds_one (ds_ret de_bl)) ds_nil)))))))))) (ds_cons (ds_set (i := 4) scLDeep.nd rfl (Or.inl rfl) (de_lst (da_cons (de_lst (da_cons de_str da_nil)) (da_cons (de_lst (da_cons (de_tup (da_cons de_str (da_cons (de_lst da_nil) da_nil))) da_nil)) (da_cons (de_lst (da_cons (de_tup (da_cons de_str (da_cons de_str (da_cons (de_op o_mul m_mul (de_lst (da_cons (de_tup (da_cons de_str (da_cons de_str da_nil))) da_nil)) de_int) da_nil)))) da_nil)) da_nil))))) (ds_one (ds_ret (de_eqP hE hr (by omega) (de_c c_read_program hr hk_read_program (by rfl) (da_cons (de_c c_text_of hr hk_text_of (by rfl) (da_cons (de_c c_law_program hr hk_law_program (by rfl) (da_cons (dv 4) da_nil)) da_nil)) da_nil)) (de_c c_law_program hr hk_law_program (by rfl) (da_cons (dv 4) da_nil)))))))
abbrev sLaw : Stmt := top 58
theorem scLaw : FnScope ["script", "index", "generator", "parts", "program", "lines", "tokens", "due", "text", "told", "odd", "caught", "error", "rows", "words"] ["script"] (defScope sLaw) := ⟨rfl, rfl, rfl, by decide +kernel, rfl, by decide +kernel, by decide +kernel⟩
def rdLaw (sp_law_generator : Dl.Spec) (sp_law_parts : Dl.Spec) (sp_law_random : Dl.Spec) (sp_law_program : Dl.Spec) (sp_law_lines : Dl.Spec) (sp_text_of : Dl.Spec) (sp_read_program : Dl.Spec) (aP : Addr) (aProgram : Addr) (sp_functions : Dl.Spec) (sp_law_spaced : Dl.Spec) (sx_text_of : SpecX) (aInvalidProgram : Addr) (sp_law_deep_right : Dl.Spec) (okP : Prt → Prop) : TSD := (sSeq (sForR (dCons (dC (.int 4)) dNil) (.one 1) (sSeq (sSet 2 (dCall 2 sp_law_generator [] (dCons (dVar 0) (dCons (dVar 1) dNil)))) (sSeq (sSet 3 (dCall 3 sp_law_parts [] (dCons (dVar 2) (dCons (dOp addD (dC (.int 1)) (dCall 2 sp_law_random [] (dCons (dVar 2) (dCons (dC (.int 4)) dNil)))) (dCons (dC (.int 4)) dNil))))) (sSeq (sPar 4 5 (dCall 1 sp_law_program [] (dCons (dVar 3) dNil)) (dCall 1 sp_law_lines [] (dCons (dVar 3) dNil))) (sSeq (sSet 7 (dMt "str" joinD (dC (.str "\n")) (dCons (dLcL (dVar 5) (.one 6) dYes (dMt "str" joinD (dC (.str " ")) (dCons (dVar 6) dNil)) [6]) dNil))) (sSeq (sIf (dOr (dTest (dOp (fun d e => (neDD d e).map fun b => .dat (.bl b)) (dCall 1 sp_text_of [] (dCons (dVar 4) dNil)) (dVar 7))) (dTest (dOp (fun d e => (neDD d e).map fun b => .dat (.bl b)) (dCall 1 sp_text_of [] (dCons (dCall 1 sp_law_program [] (dCons (dVar 3) dNil)) dNil)) (dVar 7)))) (sRet (dC (.bl false))) sNext) (sSeq (sForL (dLst (dCons (dVar 7) (dCons (dCall 2 sp_law_spaced [] (dCons (dVar 2) (dCons (dVar 5) dNil))) (dCons (dCall 2 sp_law_spaced [] (dCons (dVar 2) (dCons (dVar 5) dNil))) (dCons (dOp addD (dVar 7) (dC (.str "\n"))) dNil))))) (.one 8) (sSeq (sSet 9 (dCall 1 sp_read_program [] (dCons (dVar 8) dNil))) (sSeq (sIf (dOr (dNot (dTru (isiP K aP (fun _ => True) (dCons (dVar 9) (dCons (dC (.ref aP)) dNil))))) (dOr (dTest (dEqP K aP true (dVar 9) (dVar 4))) (dTest (dOp (fun d e => (neDD d e).map fun b => .dat (.bl b)) (dCall 1 sp_text_of [] (dCons (dVar 9) dNil)) (dVar 7))))) (sRet (dC (.bl false))) sNext) (sIf (dTest (dOp (fun d e => (neDD d e).map fun b => .dat (.bl b)) (dF1 reprD (dMeth aProgram "functions" 1 sp_functions [] (dVar 9) dNil)) (dF1 reprD (dOp ixD (dVar 3) (dC (.int 2)))))) (sRet (dC (.bl false))) sNext)))) (sForL (dLst (dCons (dC .non) (dCons (dC (.int 3)) (dCons (dLst dNil) (dCons (dTup dNil) (dCons dDic (dCons (dC (.str "rights a")) (dCons (dC (.bl true)) dNil)))))))) (.one 10) (sSeq (sSet 11 (dC .non)) (sSeq (sCatch K "value" 1 sx_text_of (fun CE => PySem.W.exmOne K (.ref CE) (.ref aInvalidProgram) = some true) 12 11 (dCons (dVar 10) dNil)) (sIf (dOr (dTest (dOp isN (dVar 11) (dC .non))) (dTest (dOp (fun d e => (neDD d e).map fun b => .dat (.bl b)) (dF1 reprD (dXat K "value" (dVar 11))) (dF1 reprD (dVar 10))))) (sRet (dC (.bl false))) sNext))))))))))) (sSeq (sIf (dNot (dTru (dCall 0 sp_law_deep_right [] dNil))) (sRet (dC (.bl false))) sNext) (sSeq (sSet 13 (dLst (dCons (dC (.str "rights check or")) (dCons (dC (.str "owner owner or")) (dCons (dC (.str "owner call")) (dCons (dC (.str "function call owner {call call check or}")) dNil)))))) (sSeq (sExpr (dApp 13 (dC (.str "function or call{either{}or{tail or}loop{block{marked{back}}}}")))) (sSeq (sSet 9 (dLst (dCons (dTup (dCons (dC (.str "either")) (dCons (dLst dNil) (dCons (dLst (dCons (dTup (dCons (dC (.str "tail")) (dCons (dC (.str "or")) dNil))) dNil)) dNil)))) (dCons (dTup (dCons (dC (.str "loop")) (dCons (dLst (dCons (dTup (dCons (dC (.str "block")) (dCons (dC (.bl false)) (dCons (dLst (dCons (dTup (dCons (dC (.str "block")) (dCons (dC (.bl true)) (dCons (dLst (dCons (dTup (dCons (dC (.str "back")) dNil)) dNil)) dNil)))) dNil)) dNil)))) dNil)) dNil))) dNil)))) (sSeq (sSet 14 (dLst (dCons (dTup (dCons (dC (.str "call")) (dCons (dC (.str "owner")) (dCons (dLst (dCons (dTup (dCons (dC (.str "call")) (dCons (dC (.str "call")) dNil))) (dCons (dTup (dCons (dC (.str "check")) (dCons (dC (.str "or")) dNil))) dNil))) dNil)))) (dCons (dTup (dCons (dC (.str "or")) (dCons (dC (.str "call")) (dCons (dVar 9) dNil)))) dNil)))) (sRet (dEqP K aP false (dCall 1 sp_read_program [] (dCons (dMt "str" joinD (dC (.str "\n\n")) (dCons (dVar 13) dNil)) dNil)) (dMakeP K aP okP (dCons (dLst (dCons (dC (.str "check")) (dCons (dC (.str "or")) dNil))) (dCons (dLst (dCons (dTup (dCons (dC (.str "owner")) (dCons (dLst (dCons (dC (.str "or")) dNil)) dNil))) (dCons (dTup (dCons (dC (.str "call")) (dCons (dLst dNil) dNil))) dNil))) (dCons (dVar 14) dNil))))))))))))
theorem derLaw {k kP k_functions k_law_deep_right k_law_generator k_law_lines k_law_parts k_law_program k_law_random k_law_spaced k_read_program k_text_of k_x_text_of : Nat} (sp_law_generator : Dl.Spec) (sp_law_parts : Dl.Spec) (sp_law_random : Dl.Spec) (sp_law_program : Dl.Spec) (sp_law_lines : Dl.Spec) (sp_text_of : Dl.Spec) (sp_read_program : Dl.Spec) (aP : Addr) (aProgram : Addr) (sp_functions : Dl.Spec) (sp_law_spaced : Dl.Spec) (sx_text_of : SpecX) (aInvalidProgram : Addr) (sp_law_deep_right : Dl.Spec) (okP : Prt → Prop) (c_law_generator : CalD P w K mg base k_law_generator "_law_generator" 2 sp_law_generator []) (hk_law_generator : k_law_generator ≤ k) (c_law_parts : CalD P w K mg base k_law_parts "_law_parts" 3 sp_law_parts []) (hk_law_parts : k_law_parts ≤ k) (c_law_random : CalD P w K mg base k_law_random "_law_random" 2 sp_law_random []) (hk_law_random : k_law_random ≤ k) (c_law_program : CalD P w K mg base k_law_program "_law_program" 1 sp_law_program []) (hk_law_program : k_law_program ≤ k) (c_law_lines : CalD P w K mg base k_law_lines "_law_lines" 1 sp_law_lines []) (hk_law_lines : k_law_lines ≤ k) (c_text_of : CalD P w K mg base k_text_of "text_of" 1 sp_text_of []) (hk_text_of : k_text_of ≤ k) (c_read_program : CalD P w K mg base k_read_program "read_program" 1 sp_read_program []) (hk_read_program : k_read_program ≤ k) (hE : EqP P w K mg base aP) (hk2 : 2 ≤ k) (hB : Bi mg) (m_functions : MetD P w K mg base k_functions aProgram "functions" 1 sp_functions) (hk_functions : k_functions ≤ k) (c_law_spaced : CalD P w K mg base k_law_spaced "_law_spaced" 2 sp_law_spaced []) (hk_law_spaced : k_law_spaced ≤ k) (x_text_of : CalX P w K mg base k_x_text_of "text_of" "value" 1 sx_text_of) (hk_x_text_of : k_x_text_of ≤ k) (mInvalidProgram : mg "InvalidProgram" = some (.ref aInvalidProgram)) (c_law_deep_right : CalD P w K mg base k_law_deep_right "_law_deep_right" 0 sp_law_deep_right []) (hk_law_deep_right : k_law_deep_right ≤ k) (cP : MakP P w K mg base kP aP okP) (hkP : kP ≤ k) : DerG P w K mg base ["script", "index", "generator", "parts", "program", "lines", "tokens", "due", "text", "told", "odd", "caught", "error", "rows", "words"] "law" sLaw f k (rdLaw (K := K) sp_law_generator sp_law_parts sp_law_random sp_law_program sp_law_lines sp_text_of sp_read_program aP aProgram sp_functions sp_law_spaced sx_text_of aInvalidProgram sp_law_deep_right okP) := fun cdv A outer s H Ex G0 H0 C0 hg hr => (ds_cons (ds_forR (tg := (.one 1)) PassesOwn.never rfl (by rfl) hB.range de_int (pg_name (i := 1) scLaw.nd rfl (Or.inl rfl)) (ds_cons (ds_set (i := 2) scLaw.nd rfl (Or.inl rfl) (de_c c_law_generator hr hk_law_generator (by rfl) (da_cons (dv 0) (da_cons (dv 1) da_nil)))) (ds_cons (ds_set (i := 3) scLaw.nd rfl (Or.inl rfl) (de_c c_law_parts hr hk_law_parts (by rfl) (da_cons (dv 2) (da_cons (de_op o_add m_add de_int (de_c c_law_random hr hk_law_random (by rfl) (da_cons (dv 2) (da_cons de_int da_nil)))) (da_cons de_int da_nil))))) (ds_cons (ds_par (i := 4) (j := 5) rfl scLaw.nd rfl rfl (by decide) rfl rfl (de_c c_law_program hr hk_law_program (by rfl) (da_cons (dv 3) da_nil)) (de_c c_law_lines hr hk_law_lines (by rfl) (da_cons (dv 3) da_nil))) (ds_cons (ds_set (i := 7) scLaw.nd rfl (Or.inl rfl) (de_mtd PySem.F.plainAttrs_str PySem.F.slot_str_join PySem.F.type_str_join o_join m_join de_str (da_cons (de_lcL (own := [("tokens", 6)]) (tg := (.one 6)) rfl scLaw.nd (dv 5) (blkOk_by (own := [("tokens", 6)]) (N := ["script", "index", "generator", "parts", "program", "lines", "tokens", "due", "text", "told", "odd", "caught", "error", "rows", "words"]) (sc := defScope sLaw) (by decide +kernel)) (fun _ _ _ _ _ => (pg_name (i := 6) scLaw.nd rfl (Or.inl rfl))) (fun _ _ _ _ _ => dts_nil) (fun _ _ _ _ _ => (de_mtd PySem.F.plainAttrs_str PySem.F.slot_str_join PySem.F.type_str_join o_join m_join de_str (da_cons (dv 6) da_nil))) (by decide)) da_nil))) (ds_cons (ds_if (PW.pt (dw_or (dt_cmp (o_ne hr.units) m_ne (de_c c_text_of hr hk_text_of (by rfl) (da_cons (dv 4) da_nil)) (dv 7) (nomark _)) (dw_or1 (dt_cmp (o_ne hr.units) m_ne (de_c c_text_of hr hk_text_of (by rfl) (da_cons (de_c c_law_program hr hk_law_program (by rfl) (da_cons (dv 3) da_nil)) da_nil)) (dv 7) (nomark _))))) (ds_one (ds_ret de_bl)) ds_nil) (ds_cons (ds_forL (tg := (.one 8)) PassesOwn.never rfl (de_lst (da_cons (dv 7) (da_cons (de_c c_law_spaced hr hk_law_spaced (by rfl) (da_cons (dv 2) (da_cons (dv 5) da_nil))) (da_cons (de_c c_law_spaced hr hk_law_spaced (by rfl) (da_cons (dv 2) (da_cons (dv 5) da_nil))) (da_cons (de_op o_add m_add (dv 7) de_str) da_nil))))) (pg_name (i := 8) scLaw.nd rfl (Or.inl rfl)) (ds_cons (ds_set (i := 9) scLaw.nd rfl (Or.inl rfl) (de_c c_read_program hr hk_read_program (by rfl) (da_cons (dv 8) da_nil))) (ds_cons (ds_if (PW.pt (dw_or (dt_not (dt_tru (de_isiP (ok := fun _ => True) hE.T hE.I hB.isi (by rfl) (da_cons (dv 9) (da_cons (de_cls (by rfl) hE.T.mgC) da_nil))))) (dw_or (dt_neP hE hr (by omega) (dv 9) (dv 4)) (dw_or1 (dt_cmp (o_ne hr.units) m_ne (de_c c_text_of hr hk_text_of (by rfl) (da_cons (dv 9) da_nil)) (dv 7) (nomark _)))))) (ds_one (ds_ret de_bl)) ds_nil) (ds_one (ds_if (dt_cmp (o_ne hr.units) m_ne (de_b1 (o_repr (dg hg) hr.units) m_repr (by rfl) hB.repr PyProof.Rows.boot_repr (de_mt0 m_functions hr hk_functions (dv 9))) (de_b1 (o_repr (dg hg) hr.units) m_repr (by rfl) hB.repr PyProof.Rows.boot_repr (de_ix (K := K) (dv 3) de_int (fun _ _ => rfl))) (nomark _)) (ds_one (ds_ret de_bl)) ds_nil))))) (ds_one (ds_forL (tg := (.one 10)) PassesOwn.never rfl (de_lst (da_cons de_non (da_cons de_int (da_cons (de_lst da_nil) (da_cons (de_tup da_nil) (da_cons de_dic (da_cons de_str (da_cons de_bl da_nil)))))))) (pg_name (i := 10) scLaw.nd rfl (Or.inl rfl)) (ds_cons (ds_set (i := 11) scLaw.nd rfl (Or.inl rfl) de_non) (ds_cons (ds_catchC (i := 12) (j := 11) rfl rfl rfl scLaw.nd rfl rfl rfl rfl ⟨rfl, by decide, .inl mInvalidProgram⟩ takes0 x_text_of hr hk_x_text_of (fun _ _ => by rfl) (fun _ _ => (da_cons (dv 10) da_nil)) (by decide) (fun _ _ _ _ _ => pss_one (ps_set (i := 11) scLaw.nd rfl (Or.inl rfl) (pv 12)))) (ds_one (ds_if (PW.pt (dw_or (dt_cmp op_isN m_isN (dv 11) de_non (nomark _)) (dw_or1 (dt_cmp (o_ne hr.units) m_ne (de_b1 (o_repr (dg hg) hr.units) m_repr (by rfl) hB.repr PyProof.Rows.boot_repr (de_xat (dv 11))) (de_b1 (o_repr (dg hg) hr.units) m_repr (by rfl) hB.repr PyProof.Rows.boot_repr (dv 10)) (nomark _))))) (ds_one (ds_ret de_bl)) ds_nil))))))))))))) (ds_cons (ds_if (dt_not (dt_tru (de_c0 c_law_deep_right hr hk_law_deep_right (by rfl)))) (ds_one (ds_ret de_bl)) ds_nil) (ds_cons (ds_set (i := 13) scLaw.nd rfl (Or.inl rfl) (de_lst (da_cons de_str (da_cons de_str (da_cons de_str (da_cons de_str da_nil)))))) (ds_cons (ds_expr (de_app (i := 13) (pv 13) de_str)) (ds_cons (ds_set (i := 9) scLaw.nd rfl (Or.inl rfl) (de_lst (da_cons (de_tup (da_cons de_str (da_cons (de_lst da_nil) (da_cons (de_lst (da_cons (de_tup (da_cons de_str (da_cons de_str da_nil))) da_nil)) da_nil)))) (da_cons (de_tup (da_cons de_str (da_cons (de_lst (da_cons (de_tup (da_cons de_str (da_cons de_bl (da_cons (de_lst (da_cons (de_tup (da_cons de_str (da_cons de_bl (da_cons (de_lst (da_cons (de_tup (da_cons de_str da_nil)) da_nil)) da_nil)))) da_nil)) da_nil)))) da_nil)) da_nil))) da_nil)))) (ds_cons (ds_set (i := 14) scLaw.nd rfl (Or.inl rfl) (de_lst (da_cons (de_tup (da_cons de_str (da_cons de_str (da_cons (de_lst (da_cons (de_tup (da_cons de_str (da_cons de_str da_nil))) (da_cons (de_tup (da_cons de_str (da_cons de_str da_nil))) da_nil))) da_nil)))) (da_cons (de_tup (da_cons de_str (da_cons de_str (da_cons (dv 9) da_nil)))) da_nil)))) (ds_one (ds_ret (de_eqP hE hr (by omega) (de_c c_read_program hr hk_read_program (by rfl) (da_cons (de_mtd PySem.F.plainAttrs_str PySem.F.slot_str_join PySem.F.type_str_join o_join m_join de_str (da_cons (dv 13) da_nil)) da_nil)) (de_makeP cP hr hkP (by rfl) (da_cons (de_lst (da_cons de_str (da_cons de_str da_nil))) (da_cons (de_lst (da_cons (de_tup (da_cons de_str (da_cons (de_lst (da_cons de_str da_nil)) da_nil))) (da_cons (de_tup (da_cons de_str (da_cons (de_lst da_nil) da_nil))) da_nil))) (da_cons (dv 14) da_nil)))))))))))))
end
end Lx

set_option Elab.async false
set_option maxRecDepth 100000
set_option linter.all false
set_option maxHeartbeats 4000000
namespace Lx
open PySem PySem.Spec PyProof.Rows L2 Evl Kx
def strOkB : PyData → Bool
  | .str z => decide (z.length ≤ sizeLine)
  | _ => true
theorem strOk_of {d : PyData} (h : strOkB d = true) : strOk d := by
  rintro z rfl
  exact of_decide_eq_true h
def headOkB : PyData → Bool
  | .tuple (x :: _) => strOkB x
  | _ => true
theorem headOk_of {d : PyData} (h : headOkB d = true) : headOk d := by
  rintro x r rfl
  exact strOk_of h
theorem strs_unS (rs : List Str) : (items (strsD rs)).map unS = rs := by simp [strsD, items, unS, List.map_map, Function.comp_def]
theorem own_head (os : List Own) : (os.map ownD).map headS = os.map (·.1) := by simp [List.map_map, Function.comp_def, ownD, headS]
end Lx

set_option Elab.async false
set_option maxRecDepth 100000
set_option linter.all false
set_option maxHeartbeats 4000000
namespace Lx
open PySem PySem.Spec PyProof.Rows L2 Evl Kx
/-! ### equal data without numbers are the same -/
mutual
def pureD : PyData → Bool
  | .none => true
  | .bool _ => true
  | .int _ => false
  | .str _ => true
  | .list xs => pureA xs
  | .tuple xs => pureA xs
  | .dict _ => false
def pureA : List PyData → Bool
  | [] => true
  | x :: xs => pureD x && pureA xs
end
mutual
theorem eqv_eq : ∀ {d e : PyData}, pureD d = true → pureD e = true → PyData.eqv d e = true → d = e
  | .none, .none, _, _, _ => rfl
  | .bool a, .bool b, _, _, h => by simp only [PyData.eqv, beq_iff_eq] at h; rw [h]
  | .str a, .str b, _, _, h => by simp only [PyData.eqv, beq_iff_eq] at h; rw [h]
  | .list xs, .list ys, p, q, h => by
    simp only [pureD] at p q
    simp only [PyData.eqv] at h
    rw [eqvA_eq p q h]
  | .tuple xs, .tuple ys, p, q, h => by
    simp only [pureD] at p q
    simp only [PyData.eqv] at h
    rw [eqvA_eq p q h]
  | .int _, _, p, _, _ => by simp only [pureD] at p; cases p
  | .dict _, _, p, _, _ => by simp only [pureD] at p; cases p
  | _, .int _, _, q, _ => by simp only [pureD] at q; cases q
  | _, .dict _, _, q, _ => by simp only [pureD] at q; cases q
  | .none, .bool _, _, _, h => by simp only [PyData.eqv] at h; cases h
  | .none, .str _, _, _, h => by simp only [PyData.eqv] at h; cases h
  | .none, .list _, _, _, h => by simp only [PyData.eqv] at h; cases h
  | .none, .tuple _, _, _, h => by simp only [PyData.eqv] at h; cases h
  | .bool _, .none, _, _, h => by simp only [PyData.eqv] at h; cases h
  | .bool _, .str _, _, _, h => by simp only [PyData.eqv] at h; cases h
  | .bool _, .list _, _, _, h => by simp only [PyData.eqv] at h; cases h
  | .bool _, .tuple _, _, _, h => by simp only [PyData.eqv] at h; cases h
  | .str _, .none, _, _, h => by simp only [PyData.eqv] at h; cases h
  | .str _, .bool _, _, _, h => by simp only [PyData.eqv] at h; cases h
  | .str _, .list _, _, _, h => by simp only [PyData.eqv] at h; cases h
  | .str _, .tuple _, _, _, h => by simp only [PyData.eqv] at h; cases h
  | .list _, .none, _, _, h => by simp only [PyData.eqv] at h; cases h
  | .list _, .bool _, _, _, h => by simp only [PyData.eqv] at h; cases h
  | .list _, .str _, _, _, h => by simp only [PyData.eqv] at h; cases h
  | .list _, .tuple _, _, _, h => by simp only [PyData.eqv] at h; cases h
  | .tuple _, .none, _, _, h => by simp only [PyData.eqv] at h; cases h
  | .tuple _, .bool _, _, _, h => by simp only [PyData.eqv] at h; cases h
  | .tuple _, .str _, _, _, h => by simp only [PyData.eqv] at h; cases h
  | .tuple _, .list _, _, _, h => by simp only [PyData.eqv] at h; cases h
theorem eqvA_eq : ∀ {xs ys : List PyData}, pureA xs = true → pureA ys = true → PyData.eqvAll xs ys = true → xs = ys
  | [], [], _, _, _ => rfl
  | x :: xs, y :: ys, p, q, h => by
    simp only [pureA, Bool.and_eq_true] at p q
    simp only [PyData.eqvAll, Bool.and_eq_true] at h
    rw [eqv_eq p.1 q.1 h.1, eqvA_eq p.2 q.2 h.2]
  | [], _ :: _, _, _, h => by simp only [PyData.eqvAll] at h; cases h
  | _ :: _, [], _, _, h => by simp only [PyData.eqvAll] at h; cases h
end
theorem pureA_of : ∀ {xs : List PyData}, (∀ x ∈ xs, pureD x = true) → pureA xs = true
  | [], _ => by simp only [pureA]
  | x :: xs, h => by simp only [pureA, h x (List.mem_cons_self ..), pureA_of fun y hy => h y (List.mem_cons_of_mem _ hy), Bool.and_self]
theorem pure_strs (ss : List Str) : pureD (strsD ss) = true := by
  simp only [strsD, pureD]
  exact pureA_of fun x hx => by
    obtain ⟨s, _, rfl⟩ := List.mem_map.mp hx
    simp only [pureD]
theorem pure_own (o : Own) : pureD (ownD o) = true := by
  simp only [ownD, pureD, pureA, pure_strs, Bool.and_self]
mutual
theorem pure_stp : ∀ s : Stp, pureD (stpD s) = true
  | .call _ => by simp only [stpD, pureD, pureA, Bool.and_self]
  | .tail _ => by simp only [stpD, pureD, pureA, Bool.and_self]
  | .check _ => by simp only [stpD, pureD, pureA, Bool.and_self]
  | .back => by simp only [stpD, pureD, pureA, Bool.and_self]
  | .either a b => by simp only [stpD, pureD, pureA, pure_body a, pure_body b, Bool.and_self]
  | .loop b => by simp only [stpD, pureD, pureA, pure_body b, Bool.and_self]
  | .block _ b => by simp only [stpD, pureD, pureA, pure_body b, Bool.and_self]
theorem pure_body : ∀ b : List Stp, pureA (bodyD b) = true
  | [] => by simp only [bodyD, pureA]
  | s :: r => by simp only [bodyD, pureA, pure_stp s, pure_body r, Bool.and_self]
end
theorem pure_fn (g : Fn) : pureD (fnD g) = true := by
  simp only [fnD, pureD, pureA, pure_body, Bool.and_self]
mutual
theorem stp_inj : ∀ {s t : Stp}, stpD s = stpD t → s = t
  | .call a, t, h => by
    cases t with
    | call b => simp [stpD] at h; rw [h]
    | tail b => simp [stpD] at h; exact absurd h.1 (by decide +kernel)
    | check b => simp [stpD] at h; exact absurd h.1 (by decide +kernel)
    | _ => simp [stpD] at h
  | .tail a, t, h => by
    cases t with
    | call b => simp [stpD] at h; exact absurd h.1 (by decide +kernel)
    | tail b => simp [stpD] at h; rw [h]
    | check b => simp [stpD] at h; exact absurd h.1 (by decide +kernel)
    | _ => simp [stpD] at h
  | .check a, t, h => by
    cases t with
    | call b => simp [stpD] at h; exact absurd h.1 (by decide +kernel)
    | tail b => simp [stpD] at h; exact absurd h.1 (by decide +kernel)
    | check b => simp [stpD] at h; rw [h]
    | _ => simp [stpD] at h
  | .back, t, h => by cases t <;> simp_all [stpD]
  | .either a b, t, h => by
    cases t with
    | either c d =>
      simp only [stpD, PyData.tuple.injEq, List.cons.injEq, PyData.list.injEq, and_true, true_and] at h
      rw [body_inj h.1, body_inj h.2]
    | _ => simp [stpD] at h
  | .loop b, t, h => by
    cases t with
    | loop d =>
      simp only [stpD, PyData.tuple.injEq, List.cons.injEq, PyData.list.injEq, and_true, true_and] at h
      rw [body_inj h]
    | _ => simp [stpD] at h
  | .block m b, t, h => by
    cases t with
    | block n d =>
      simp only [stpD, PyData.tuple.injEq, List.cons.injEq, PyData.list.injEq, PyData.bool.injEq, and_true, true_and] at h
      rw [h.1, body_inj h.2]
    | _ => simp [stpD] at h
theorem body_inj : ∀ {a b : List Stp}, bodyD a = bodyD b → a = b
  | [], [], _ => rfl
  | [], _ :: _, h => by simp only [bodyD] at h; cases h
  | _ :: _, [], h => by simp only [bodyD] at h; cases h
  | s :: a, t :: b, h => by
    simp only [bodyD, List.cons.injEq] at h
    rw [stp_inj h.1, body_inj h.2]
end
theorem map_inj {α : Type} {f : α → PyData} (hf : ∀ a b, f a = f b → a = b) : ∀ {xs ys : List α}, xs.map f = ys.map f → xs = ys
  | [], [], _ => rfl
  | [], _ :: _, h => by cases h
  | _ :: _, [], h => by cases h
  | x :: xs, y :: ys, h => by
    simp only [List.map_cons, List.cons.injEq] at h
    rw [hf _ _ h.1, map_inj hf h.2]
theorem strs_inj {a b : List Str} (h : strsD a = strsD b) : a = b := by
  simp only [strsD, PyData.list.injEq] at h
  exact map_inj (fun a b h => by simpa using h) h
theorem own_inj (a b : Own) (h : ownD a = ownD b) : a = b := by
  simp only [ownD, PyData.tuple.injEq, List.cons.injEq, PyData.str.injEq, and_true] at h
  exact Prod.ext h.1 (strs_inj h.2)
theorem fn_inj (a b : Fn) (h : fnD a = fnD b) : a = b := by
  simp only [fnD, PyData.tuple.injEq, List.cons.injEq, PyData.str.injEq, PyData.list.injEq, and_true] at h
  exact Prod.ext h.1 (Prod.ext h.2.1 (body_inj h.2.2))
theorem same_eq {q o : Prt} (h : sameP q o = true) : q.rs = o.rs ∧ q.os = o.os ∧ q.fs = o.fs := by
  unfold sameP at h
  simp only [Bool.and_eq_true] at h
  refine ⟨strs_inj (eqv_eq (pure_strs _) (pure_strs _) h.1.1), ?_, ?_⟩
  · have := eqv_eq (by simp only [pureD]; exact pureA_of fun x hx => by obtain ⟨s, _, rfl⟩ := List.mem_map.mp hx; exact pure_own s) (by simp only [pureD]; exact pureA_of fun x hx => by obtain ⟨s, _, rfl⟩ := List.mem_map.mp hx; exact pure_own s) h.1.2
    exact map_inj own_inj (by simpa using this)
  · have := eqv_eq (by simp only [pureD]; exact pureA_of fun x hx => by obtain ⟨s, _, rfl⟩ := List.mem_map.mp hx; exact pure_fn s) (by simp only [pureD]; exact pureA_of fun x hx => by obtain ⟨s, _, rfl⟩ := List.mem_map.mp hx; exact pure_fn s) h.2
    exact map_inj fn_inj (by simpa using this)
theorem rev_ne {α : Type} {l : List α} (hn : l.Nodup) (h : 1 < l.length) : l.reverse ≠ l := fun e => by
  have h0 : l[0]? = l.reverse[0]? := by rw [e]
  rw [List.getElem?_reverse (by omega)] at h0
  have h1 : 0 < l.length := by omega
  have h2 : l.length - 1 - 0 < l.length := by omega
  rw [List.getElem?_eq_getElem h1, List.getElem?_eq_getElem h2] at h0
  exact (List.pairwise_iff_getElem.mp hn) 0 (l.length - 1 - 0) h1 h2 (by omega) (Option.some.inj h0)
end Lx

set_option Elab.async false
set_option maxRecDepth 100000
set_option linter.all false
set_option maxHeartbeats 4000000
namespace Lx
open PySem PySem.Spec PyProof.Rows L2 Evl Kx
def rightsN : List Str := rights3 ++ ([("zz" : Str), "a", "check", "or"])
def namesO : List Str := names3 ++ ([("zz" : Str), "o", "owner", "call"])
def namesG : List Str := names4 ++ ([("zz" : Str), "f", "call", "or"])
structure Nice (q : Prt) : Prop where
  rn : q.rs.Nodup
  re : 1 ≤ q.rs.length
  rl : q.rs.length ≤ 5
  rm : ∀ r ∈ q.rs, r ∈ rightsN
  on : (q.os.map (·.1)).Nodup
  oe : 1 ≤ q.os.length
  ol : q.os.length ≤ 5
  om : ∀ o ∈ q.os, o.1 ∈ namesO ∧ o.2.Nodup ∧ ∀ r ∈ o.2, r ∈ q.rs
  fn : (q.fs.map (·.1)).Nodup
  fe : 1 ≤ q.fs.length
  fl : q.fs.length ≤ 6
  fm : ∀ g ∈ q.fs, g.1 ∈ namesG ∧ g.2.1 ∈ q.os.map (·.1) ∧ Kx.okB q.rs (q.fs.map (·.1)) false g.2.2 = true ∧ nstB g.2.2 ≤ 7 ∧ cntB g.2.2 ≤ 300
def goodS (x : Str) : Bool := strOkB (.str x) && nameD (.str x) && PySem.PyData.strOk x
theorem all_names : ((rightsN ++ namesO ++ namesG).all goodS) = true := by decide +kernel
theorem good_of {x : Str} (h : x ∈ rightsN ∨ x ∈ namesO ∨ x ∈ namesG) : strOk (.str x) ∧ nameD (.str x) = true ∧ PySem.PyData.strOk x = true := by
  have := List.all_eq_true.mp all_names x (by
    simp only [List.mem_append]
    rcases h with h | h | h
    · exact .inl (.inl h)
    · exact .inl (.inr h)
    · exact .inr h)
  simp only [goodS, Bool.and_eq_true] at this
  exact ⟨strOk_of this.1.1, this.1.2, this.2⟩
mutual
theorem dep_stp : ∀ s : Stp, (stpD s).depth ≤ 2 * nstS s + 2
  | .call _ => by simp [stpD, PyData.depth, PyData.depthAll]
  | .tail _ => by simp [stpD, PyData.depth, PyData.depthAll]
  | .check _ => by simp [stpD, PyData.depth, PyData.depthAll]
  | .back => by simp [stpD, PyData.depth, PyData.depthAll]
  | .either a b => by
    have h1 := dep_body a
    have h2 := dep_body b
    simp only [stpD, PyData.depth, PyData.depthAll, nstS]
    omega
  | .loop b => by
    have h2 := dep_body b
    simp only [stpD, PyData.depth, PyData.depthAll, nstS]
    omega
  | .block _ b => by
    have h2 := dep_body b
    simp only [stpD, PyData.depth, PyData.depthAll, nstS]
    omega
theorem dep_body : ∀ b : List Stp, PyData.depthAll (bodyD b) ≤ 2 * nstB b + 2
  | [] => by simp [bodyD, PyData.depthAll]
  | s :: r => by
    have h1 := dep_stp s
    have h2 := dep_body r
    simp only [bodyD, PyData.depthAll, nstB]
    omega
end
mutual
theorem lay_stp {rs ns : List Str} (hr : ∀ r ∈ rs, PySem.PyData.strOk r = true) (hn : ∀ r ∈ ns, PySem.PyData.strOk r = true) : ∀ {mk : Bool} {s : Stp}, okS rs ns mk s = true → (stpD s).canLay0 = true
  | _, .call n, h => by
    simp only [okS, decide_eq_true_eq] at h
    have w : PySem.PyData.strOk ("call" : Str) = true := by decide +kernel
    simp only [stpD, PyData.canLay0, PyData.canLayAll0, hn n h, w, Bool.and_self]
  | _, .tail n, h => by
    simp only [okS, Bool.and_eq_true, decide_eq_true_eq] at h
    have w : PySem.PyData.strOk ("tail" : Str) = true := by decide +kernel
    simp only [stpD, PyData.canLay0, PyData.canLayAll0, hn n h.1, w, Bool.and_self]
  | _, .check r, h => by
    simp only [okS, decide_eq_true_eq] at h
    have w : PySem.PyData.strOk ("check" : Str) = true := by decide +kernel
    simp only [stpD, PyData.canLay0, PyData.canLayAll0, hr r h, w, Bool.and_self]
  | _, .back, h => by
    have w : PySem.PyData.strOk ("back" : Str) = true := by decide +kernel
    simp only [stpD, PyData.canLay0, PyData.canLayAll0, w, Bool.and_self]
  | _, .either a b, h => by
    simp only [okS, Bool.and_eq_true] at h
    have w : PySem.PyData.strOk ("either" : Str) = true := by decide +kernel
    simp only [stpD, PyData.canLay0, PyData.canLayAll0, lay_body hr hn h.1, lay_body hr hn h.2, w, Bool.and_self]
  | _, .loop b, h => by
    simp only [okS] at h
    have w : PySem.PyData.strOk ("loop" : Str) = true := by decide +kernel
    simp only [stpD, PyData.canLay0, PyData.canLayAll0, lay_body hr hn h, w, Bool.and_self]
  | _, .block m b, h => by
    simp only [okS] at h
    have w : PySem.PyData.strOk ("block" : Str) = true := by decide +kernel
    simp only [stpD, PyData.canLay0, PyData.canLayAll0, lay_body hr hn h, w, Bool.and_self]
theorem lay_body {rs ns : List Str} (hr : ∀ r ∈ rs, PySem.PyData.strOk r = true) (hn : ∀ r ∈ ns, PySem.PyData.strOk r = true) : ∀ {mk : Bool} {b : List Stp}, Kx.okB rs ns mk b = true → PyData.canLayAll0 (bodyD b) = true
  | _, [], _ => by simp only [bodyD, PyData.canLayAll0]
  | _, s :: r, h => by
    simp only [Kx.okB, Bool.and_eq_true] at h
    simp only [bodyD, PyData.canLayAll0, lay_stp hr hn h.1, lay_body hr hn h.2, Bool.and_self]
end
theorem layA_of : ∀ {xs : List PyData}, (∀ x ∈ xs, x.canLay0 = true) → PyData.canLayAll0 xs = true
  | [], _ => by simp only [PyData.canLayAll0]
  | x :: xs, h => by simp only [PyData.canLayAll0, h x (List.mem_cons_self ..), layA_of fun y hy => h y (List.mem_cons_of_mem _ hy), Bool.and_self]
theorem depA_of {n : Nat} : ∀ {xs : List PyData}, (∀ x ∈ xs, x.depth ≤ n) → PyData.depthAll xs ≤ n
  | [], _ => by simp only [PyData.depthAll]; omega
  | x :: xs, h => by
    have h1 := h x (List.mem_cons_self ..)
    have h2 := depA_of fun y hy => h y (List.mem_cons_of_mem _ hy)
    simp only [PyData.depthAll]
    omega
theorem dep_strs (ss : List Str) : (strsD ss).depth ≤ 2 := by
  have : PyData.depthAll (ss.map PyData.str) ≤ 1 := depA_of fun x hx => by
    obtain ⟨s, _, rfl⟩ := List.mem_map.mp hx
    simp [PyData.depth]
  simp only [strsD, PyData.depth]
  omega
theorem lay_strs {ss : List Str} (h : ∀ s ∈ ss, PySem.PyData.strOk s = true) : (strsD ss).canLay0 = true := by
  simp only [strsD, PyData.canLay0]
  exact layA_of fun x hx => by
    obtain ⟨s, hs, rfl⟩ := List.mem_map.mp hx
    simp only [PyData.canLay0, h s hs]
theorem dep_own (o : Own) : (ownD o).depth ≤ 4 := by
  have := dep_strs o.2
  simp only [ownD, PyData.depth, PyData.depthAll]
  omega
theorem dep_fn {g : Fn} (h : nstB g.2.2 ≤ 7) : (fnD g).depth ≤ 19 := by
  have := dep_body g.2.2
  simp only [fnD, PyData.depth, PyData.depthAll]
  omega
theorem Nice.good {q : Prt} (n : Nice q) : Good 18 7 q := by
  have ns : ∀ x ∈ q.fs.map (·.1), x ∈ namesG := fun x hx => by
    obtain ⟨g, hg, rfl⟩ := List.mem_map.mp hx
    exact (n.fm g hg).1
  have lr : ∀ r ∈ q.rs, PySem.PyData.strOk r = true := fun r hr => (good_of (.inl (n.rm r hr))).2.2
  have ln : ∀ r ∈ q.fs.map (·.1), PySem.PyData.strOk r = true := fun r hr => (good_of (.inr (.inr (ns r hr)))).2.2
  refine ⟨⟨fun x hx => ?_, fun x hx => ?_, fun x hx => ?_⟩, ?_, ⟨by have := n.ol; omega, by have := n.fl; omega, fun g hg => ⟨(n.fm g hg).2.2.2.1, by have := (n.fm g hg).2.2.2.2; omega⟩⟩, ⟨?_, ?_, ?_⟩⟩
  · obtain ⟨r, hr, rfl⟩ := List.mem_map.mp hx
    exact (good_of (.inl (n.rm r hr))).1
  · obtain ⟨o, ho, rfl⟩ := List.mem_map.mp hx
    intro y r e
    cases e
    exact (good_of (.inr (.inl (n.om o ho).1))).1
  · obtain ⟨g, hg, rfl⟩ := List.mem_map.mp hx
    refine ⟨fun y r e => ?_, dep_fn (n.fm g hg).2.2.2.1⟩
    cases e
    exact (good_of (.inr (.inr (n.fm g hg).1))).1
  · have s1 : sizeF 5 (strsD q.rs) = true := by
      simp only [strsD, sizeF, List.length_map, decide_eq_true n.re, decide_eq_true n.rl, Bool.and_self]
    have s2 : sizeF 5 (.list (q.os.map ownD)) = true := by
      simp only [sizeF, List.length_map, decide_eq_true n.oe, decide_eq_true n.ol, Bool.and_self]
    have s3 : sizeF 6 (.list (q.fs.map fnD)) = true := by
      simp only [sizeF, List.length_map, decide_eq_true n.fe, decide_eq_true n.fl, Bool.and_self]
    have b1 : rBad [] (items (strsD q.rs)) = none := rBad_ok (fun s hs => (good_of (.inl (n.rm s hs))).2.1) (by simpa using n.rn)
    have b2 : oBad ((items (strsD q.rs)).map unS) [] (items (.list (q.os.map ownD))) = none := by
      rw [strs_unS]
      exact oBad_ok (fun o ho => ⟨(good_of (.inr (.inl (n.om o ho).1))).2.1, (n.om o ho).2⟩) (by simpa using n.on)
    have b3 : fBad ((items (.list (q.os.map ownD))).map headS) (namesF (items (.list (q.fs.map fnD)))) ((items (strsD q.rs)).map unS) [] (items (.list (q.fs.map fnD))) = none := by
      rw [strs_unS]
      show fBad ((q.os.map ownD).map headS) (namesF (q.fs.map fnD)) q.rs [] (q.fs.map fnD) = none
      rw [own_head, namesF_ok fun g hg => (good_of (.inr (.inr (n.fm g hg).1))).2.1]
      exact fBad_ok (fun g hg => ⟨(good_of (.inr (.inr (n.fm g hg).1))).2.1, (n.fm g hg).2.1, (n.fm g hg).2.2.1⟩) (by simpa using n.fn)
    simp only [faultF, s1, b1, s2, b2, s3, b3, Bool.true_eq_false, if_false]
  · unfold SeqAt.shaped
    have := dep_strs q.rs
    rw [lay_strs lr, decide_eq_true (by omega)]
    rfl
  · unfold SeqAt.shaped
    have h1 : PyData.depthAll (q.os.map ownD) ≤ 4 := depA_of fun x hx => by
      obtain ⟨o, ho, rfl⟩ := List.mem_map.mp hx
      exact dep_own o
    have h2 : PyData.canLayAll0 (q.os.map ownD) = true := layA_of fun x hx => by
      obtain ⟨o, ho, rfl⟩ := List.mem_map.mp hx
      simp only [ownD, PyData.canLay0, PyData.canLayAll0, (good_of (.inr (.inl (n.om o ho).1))).2.2, lay_strs fun s hs => lr s ((n.om o ho).2.2 s hs), Bool.and_self]
    rw [show (PyData.list _).canLay0 = true by simp only [PyData.canLay0]; exact h2, decide_eq_true (show (PyData.list _).depth ≤ 64 by simp only [PyData.depth]; omega)]
    rfl
  · unfold SeqAt.shaped
    have h1 : PyData.depthAll (q.fs.map fnD) ≤ 19 := depA_of fun x hx => by
      obtain ⟨g, hg, rfl⟩ := List.mem_map.mp hx
      exact dep_fn (n.fm g hg).2.2.2.1
    have h2 : PyData.canLayAll0 (q.fs.map fnD) = true := layA_of fun x hx => by
      obtain ⟨g, hg, rfl⟩ := List.mem_map.mp hx
      have ho : PySem.PyData.strOk g.2.1 = true := by
        obtain ⟨o, ho, e⟩ := List.mem_map.mp (n.fm g hg).2.1
        rw [← e]
        exact (good_of (.inr (.inl (n.om o ho).1))).2.2
      simp only [fnD, PyData.canLay0, PyData.canLayAll0, (good_of (.inr (.inr (n.fm g hg).1))).2.2, ho, lay_body lr ln (n.fm g hg).2.2.1, Bool.and_self]
    rw [show (PyData.list _).canLay0 = true by simp only [PyData.canLay0]; exact h2, decide_eq_true (show (PyData.list _).depth ≤ 64 by simp only [PyData.depth]; omega)]
    rfl
end Lx

set_option Elab.async false
set_option maxRecDepth 100000
set_option linter.all false
set_option maxHeartbeats 4000000
namespace Lx
open PySem PySem.Spec PyProof.Rows L2 Evl Kx
theorem take_nd {α : Type} {l : List α} {n : Nat} (h : l.Nodup) : (l.take n).Nodup := (List.take_sublist n l).nodup h
theorem PrtOk.nice {m : Nat} {q : Prt} (h : PrtOk m q) (h1 : 1 ≤ m) (h4 : m ≤ 4) : Nice q := by
  obtain ⟨k, hk, hr⟩ := h.rs
  have hlf : q.fs.length = m := by
    have := congrArg List.length h.ns
    rw [List.length_map, List.length_take] at this
    have e : names4.length = 4 := rfl
    omega
  refine ⟨?_, ?_, ?_, fun r hr' => ?_, h.os.nd, ?_, by have := h.os.le; omega, fun o ho => ?_, ?_, by omega, by omega, fun g hg => ?_⟩
  · rw [hr]; exact take_nd (by decide)
  · rw [hr, List.length_take]; have e : rights3.length = 3 := rfl; omega
  · rw [hr, List.length_take]; omega
  · rw [hr] at hr'
    exact List.mem_append_left _ (List.mem_of_mem_take hr')
  · exact List.length_pos_iff.mpr h.os.ne
  · obtain ⟨a, b, c⟩ := h.os.ok o ho
    exact ⟨List.mem_append_left _ a, b, c⟩
  · rw [h.ns]; exact take_nd (by decide)
  · obtain ⟨a, b, c, d⟩ := h.fs g hg
    refine ⟨?_, a, by rw [h.ns]; exact b, by omega, by omega⟩
    have : g.1 ∈ q.fs.map (·.1) := List.mem_map.mpr ⟨g, hg, rfl⟩
    rw [h.ns] at this
    exact List.mem_append_left _ (List.mem_of_mem_take this)
end Lx

set_option Elab.async false
set_option maxRecDepth 100000
set_option linter.all false
set_option maxHeartbeats 4000000
namespace Lx
open PySem PySem.Spec PyProof.Rows L2 Evl Kx
/-! ### parts may be shown, compared, spoilt -/
def wordsB : List Str := ["call", "tail", "check", "back", "either", "loop", "block"]
def shS (x : Str) : Bool := (PyData.str x).showable && decide ((reprText x).length ≤ 20)
theorem all_sh : ((rightsN ++ namesO ++ namesG ++ wordsB).all shS) = true := by decide +kernel
def ShowB (d : PyData) (n : Nat) : Prop := d.showable = true ∧ bnd d ≤ n
def ShowA (ds : List PyData) (n : Nat) : Prop := PyData.showableAll ds = true ∧ bndA ds ≤ n
theorem sh_of {x : Str} (h : x ∈ rightsN ∨ x ∈ namesO ∨ x ∈ namesG ∨ x ∈ wordsB) : ShowB (.str x) 20 := by
  have := List.all_eq_true.mp all_sh x (by
    simp only [List.mem_append]
    rcases h with h | h | h | h
    · exact .inl (.inl (.inl h))
    · exact .inl (.inl (.inr h))
    · exact .inl (.inr h)
    · exact .inr h)
  simp only [shS, Bool.and_eq_true, decide_eq_true_eq] at this
  exact ⟨this.1, by simp only [bnd]; exact this.2⟩
theorem sh_w {x : Str} (h : x ∈ wordsB) : ShowB (.str x) 20 := sh_of (.inr (.inr (.inr h)))
theorem shA_nil : ShowA [] 0 := ⟨by simp only [PyData.showableAll], by simp only [bndA]; omega⟩
theorem shA_cons {d : PyData} {ds : List PyData} {m n k : Nat} (h : ShowB d m) (hs : ShowA ds n) (e : m + 2 + n ≤ k) : ShowA (d :: ds) k :=
  ⟨by simp only [PyData.showableAll, h.1, hs.1, Bool.and_self], by have := h.2; have := hs.2; simp only [bndA]; omega⟩
theorem sh_lst {ds : List PyData} {n k : Nat} (hs : ShowA ds n) (e : n + 2 ≤ k) : ShowB (.list ds) k := ⟨by simp only [PyData.showable, hs.1], by have := hs.2; simp only [bnd]; omega⟩
theorem sh_tup {ds : List PyData} {n k : Nat} (hs : ShowA ds n) (e : n + 3 ≤ k) : ShowB (.tuple ds) k := ⟨by simp only [PyData.showable, hs.1], by have := hs.2; simp only [bnd]; omega⟩
theorem shA_all {m : Nat} : ∀ {ds : List PyData}, (∀ d ∈ ds, ShowB d m) → ShowA ds (ds.length * (m + 2))
  | [], _ => by rw [List.length_nil, Nat.zero_mul]; exact shA_nil
  | d :: ds, h => shA_cons (h d (List.mem_cons_self ..)) (shA_all fun x hx => h x (List.mem_cons_of_mem _ hx)) (by rw [List.length_cons, Nat.add_mul]; omega)
mutual
theorem sh_stp {rs ns : List Str} (hr : ∀ r ∈ rs, r ∈ rightsN) (hn : ∀ r ∈ ns, r ∈ namesG) : ∀ {mk : Bool} {s : Stp}, okS rs ns mk s = true → ShowB (stpD s) (62 * cntS s - 2)
  | _, .call n, h => by
    simp only [okS, decide_eq_true_eq] at h
    exact sh_tup (shA_cons (sh_w (by decide +kernel)) (shA_cons (sh_of (.inr (.inr (.inl (hn n h))))) shA_nil (Nat.le_refl _)) (Nat.le_refl _)) (by simp only [cntS]; omega)
  | _, .tail n, h => by
    simp only [okS, Bool.and_eq_true, decide_eq_true_eq] at h
    exact sh_tup (shA_cons (sh_w (by decide +kernel)) (shA_cons (sh_of (.inr (.inr (.inl (hn n h.1))))) shA_nil (Nat.le_refl _)) (Nat.le_refl _)) (by simp only [cntS]; omega)
  | _, .check r, h => by
    simp only [okS, decide_eq_true_eq] at h
    exact sh_tup (shA_cons (sh_w (by decide +kernel)) (shA_cons (sh_of (.inl (hr r h))) shA_nil (Nat.le_refl _)) (Nat.le_refl _)) (by simp only [cntS]; omega)
  | _, .back, h => sh_tup (shA_cons (sh_w (by decide +kernel)) shA_nil (Nat.le_refl _)) (by simp only [cntS]; omega)
  | _, .either a b, h => by
    simp only [okS, Bool.and_eq_true] at h
    exact sh_tup (shA_cons (sh_w (by decide +kernel)) (shA_cons (sh_lst (sh_body hr hn h.1) (Nat.le_refl _)) (shA_cons (sh_lst (sh_body hr hn h.2) (Nat.le_refl _)) shA_nil (Nat.le_refl _)) (Nat.le_refl _)) (Nat.le_refl _)) (by simp only [cntS]; omega)
  | _, .loop b, h => by
    simp only [okS] at h
    exact sh_tup (shA_cons (sh_w (by decide +kernel)) (shA_cons (sh_lst (sh_body hr hn h) (Nat.le_refl _)) shA_nil (Nat.le_refl _)) (Nat.le_refl _)) (by simp only [cntS]; omega)
  | _, .block m b, h => by
    simp only [okS] at h
    exact sh_tup (shA_cons (sh_w (by decide +kernel)) (shA_cons (m := 5) ⟨by simp only [PyData.showable], by simp only [bnd]; omega⟩ (shA_cons (sh_lst (sh_body hr hn h) (Nat.le_refl _)) shA_nil (Nat.le_refl _)) (Nat.le_refl _)) (Nat.le_refl _)) (by simp only [cntS]; omega)
theorem sh_body {rs ns : List Str} (hr : ∀ r ∈ rs, r ∈ rightsN) (hn : ∀ r ∈ ns, r ∈ namesG) : ∀ {mk : Bool} {b : List Stp}, Kx.okB rs ns mk b = true → ShowA (bodyD b) (62 * cntB b)
  | _, [], _ => by simp only [bodyD, cntB]; exact shA_nil
  | _, s :: r, h => by
    simp only [Kx.okB, Bool.and_eq_true] at h
    have := cnt_one s
    simp only [bodyD]
    exact shA_cons (sh_stp hr hn h.1) (sh_body hr hn h.2) (by simp only [cntB]; omega)
end
theorem sh_strs {ss : List Str} (h : ∀ s ∈ ss, ShowB (.str s) 20) (hl : ss.length ≤ 5) : ShowB (strsD ss) 200 :=
  sh_lst (shA_all fun d hd => by obtain ⟨s, hs, rfl⟩ := List.mem_map.mp hd; exact h s hs) (by rw [List.length_map]; omega)
theorem nd_len : ∀ {l m : List Str}, l.Nodup → (∀ x ∈ l, x ∈ m) → l.length ≤ m.length
  | [], m, _, _ => Nat.zero_le _
  | x :: l, m, h, s => by
    obtain ⟨h1, h2⟩ := List.nodup_cons.mp h
    have hx := s x (List.mem_cons_self ..)
    have := nd_len (m := m.erase x) h2 fun y hy => (List.mem_erase_of_ne fun e => h1 (by rw [← e]; exact hy)).mpr (s y (List.mem_cons_of_mem _ hy))
    rw [List.length_erase_of_mem hx] at this
    have := List.length_pos_of_mem hx
    rw [List.length_cons]
    omega
theorem Nice.show {q : Prt} (n : Nice q) : ShowB (prtD q) 200000 ∧ (prtD q).depth ≤ 24 := by
  have h1 : ShowB (strsD q.rs) 200 := sh_strs (fun r hr => sh_of (.inl (n.rm r hr))) n.rl
  have h2 : ShowB (.list (q.os.map ownD)) 5000 := sh_lst (shA_all (m := 300) fun d hd => by
    obtain ⟨o, ho, rfl⟩ := List.mem_map.mp hd
    obtain ⟨a, b, c⟩ := n.om o ho
    exact sh_tup (shA_cons (sh_of (.inr (.inl a))) (shA_cons (sh_strs (fun r hr => sh_of (.inl (n.rm r (c r hr)))) (Nat.le_trans (nd_len b c) n.rl)) shA_nil (Nat.le_refl _)) (Nat.le_refl _)) (by omega)) (by rw [List.length_map]; have := n.ol; omega)
  have h3 : ShowB (.list (q.fs.map fnD)) 150000 := sh_lst (shA_all (m := 19000) fun d hd => by
    obtain ⟨g, hg, rfl⟩ := List.mem_map.mp hd
    obtain ⟨a, b, c, _, e⟩ := n.fm g hg
    obtain ⟨o, ho, e2⟩ := List.mem_map.mp b
    refine sh_tup (shA_cons (sh_of (.inr (.inr (.inl a)))) (shA_cons (m := 20) (e2 ▸ sh_of (.inr (.inl (n.om o ho).1))) (shA_cons (sh_lst (sh_body n.rm (fun x hx => ?_) c) (Nat.le_refl _)) shA_nil (Nat.le_refl _)) (Nat.le_refl _)) (Nat.le_refl _)) (by omega)
    obtain ⟨g', hg', rfl⟩ := List.mem_map.mp hx
    exact (n.fm g' hg').1) (by rw [List.length_map]; have := n.fl; omega)
  refine ⟨sh_lst (shA_cons h1 (shA_cons h2 (shA_cons h3 shA_nil (Nat.le_refl _)) (Nat.le_refl _)) (Nat.le_refl _)) (by omega), ?_⟩
  have d1 := dep_strs q.rs
  have d2 : PyData.depthAll (q.os.map ownD) ≤ 4 := depA_of fun x hx => by
    obtain ⟨o, ho, rfl⟩ := List.mem_map.mp hx
    exact dep_own o
  have d3 : PyData.depthAll (q.fs.map fnD) ≤ 19 := depA_of fun x hx => by
    obtain ⟨g, hg, rfl⟩ := List.mem_map.mp hx
    exact dep_fn (n.fm g hg).2.2.2.1
  simp only [prtD, PyData.depth, PyData.depthAll]
  simp only [strsD, PyData.depth] at d1
  simp only [strsD, PyData.depth]
  omega
theorem Nice.shaped {q : Prt} (n : Nice q) : SeqAt.shaped (prtD q) = true := by
  obtain ⟨s1, s2, s3⟩ := n.good.sh
  have hd := n.show.2
  unfold SeqAt.shaped at *
  simp only [Bool.and_eq_true, decide_eq_true_eq] at *
  exact ⟨by simp only [prtD, PyData.canLay0, PyData.canLayAll0, Bool.and_eq_true]; simp only [strsD, PyData.canLay0] at *; exact ⟨s1.1, s2.1, s3.1, trivial⟩, by omega⟩
/-! ### spoilt -/
end Lx

set_option Elab.async false
set_option maxRecDepth 100000
set_option linter.all false
set_option maxHeartbeats 4000000
namespace Lx
open PySem PySem.Spec PyProof.Rows L2 Evl Kx
open Dl hiding Stp Spec
/-! ### programs that are drawn have good texts -/
def tokOkB (x : Str) : Bool := decide (x.length ≤ 8) && decide (0 < x.length) && x.cps.toList.all fun c => c != 32 && c != 10 && c != 123 && c != 125
theorem tokOk_of {x : Str} (h : tokOkB x = true) : tokOk x := by
  unfold tokOkB at h
  simp only [Bool.and_eq_true, decide_eq_true_eq, List.all_eq_true, bne_iff_ne, ne_eq] at h
  exact ⟨h.1.1, h.1.2, fun c hc => ⟨(h.2 c hc).1.1.1, (h.2 c hc).1.1.2, (h.2 c hc).1.2, (h.2 c hc).2⟩⟩
theorem all_tok : ((rightsN ++ namesO ++ namesG).all tokOkB) = true := by decide +kernel
theorem tok_of {x : Str} (h : x ∈ rightsN ∨ x ∈ namesO ∨ x ∈ namesG) : tokOk x := tokOk_of (List.all_eq_true.mp all_tok x (by
    simp only [List.mem_append]
    rcases h with h | h | h
    · exact .inl (.inl h)
    · exact .inl (.inr h)
    · exact .inr h))
mutual
theorem all_ok {rs ns : List Str} (hr : ∀ r ∈ rs, tokOk r) (hn : ∀ r ∈ ns, tokOk r) : ∀ {mk : Bool} {s : Kx.Stp}, okS rs ns mk s = true → allNS tokOk s
  | _, .call n, h => by simp only [okS, decide_eq_true_eq] at h; simp only [allNS]; exact hn _ h
  | _, .tail n, h => by simp only [okS, Bool.and_eq_true, decide_eq_true_eq] at h; simp only [allNS]; exact hn _ h.1
  | _, .check n, h => by simp only [okS, decide_eq_true_eq] at h; simp only [allNS]; exact hr _ h
  | _, .back, _ => by simp only [allNS]
  | _, .either a b, h => by simp only [okS, Bool.and_eq_true] at h; simp only [allNS]; exact ⟨all_okB hr hn h.1, all_okB hr hn h.2⟩
  | _, .loop a, h => by simp only [okS] at h; simp only [allNS]; exact all_okB hr hn h
  | _, .block m a, h => by simp only [okS] at h; simp only [allNS]; exact all_okB hr hn h
theorem all_okB {rs ns : List Str} (hr : ∀ r ∈ rs, tokOk r) (hn : ∀ r ∈ ns, tokOk r) : ∀ {mk : Bool} {b : List Kx.Stp}, Kx.okB rs ns mk b = true → allNB tokOk b
  | _, [], _ => by simp only [allNB]
  | _, s :: r, h => by simp only [Kx.okB, Bool.and_eq_true] at h; simp only [allNB]; exact ⟨all_ok hr hn h.1, all_okB hr hn h.2⟩
end
theorem Nice.txt {q : Prt} (n : Nice q) : TxtOk 8 q := by
  have hr : ∀ r ∈ q.rs, tokOk r := fun r hr => tok_of (.inl (n.rm r hr))
  have hn : ∀ r ∈ q.fs.map (·.1), tokOk r := fun r hr => by
    obtain ⟨g, hg, rfl⟩ := List.mem_map.mp hr
    exact tok_of (.inr (.inr (n.fm g hg).1))
  refine ⟨by have := n.rl; omega, by have := n.ol; omega, n.fl, hr, fun o ho => ?_, fun g hg => ?_⟩
  · obtain ⟨a, b, c⟩ := n.om o ho
    exact ⟨tok_of (.inr (.inl a)), by have := nd_len b c; have := n.rl; omega, fun r hr' => hr r (c r hr')⟩
  · obtain ⟨a, b, c, d, e⟩ := n.fm g hg
    refine ⟨tok_of (.inr (.inr a)), ?_, by omega, e, all_okB hr hn c⟩
    obtain ⟨o, ho, e⟩ := List.mem_map.mp b
    rw [← e]
    exact tok_of (.inr (.inl (n.om o ho).1))
/-! ### lines as tokens between blanks -/
def gTok (x : Str) : Prop := Tk.plain (TL.tl x) ∨ TL.tl x = [123] ∨ TL.tl x = [125]
theorem gTok_of {x : Str} (h : tokOk x) : gTok x := .inl ⟨fun z => by
  have := h.2.1
  rw [TL.len_tl, z] at this
  exact absurd this (Nat.lt_irrefl 0), h.2.2⟩
def gTokB (x : Str) : Bool := tokOkB x || TL.tl x == [123] || TL.tl x == [125]
theorem words_g : ∀ x ∈ wordsT, gTok x := by
  have : wordsT.all gTokB = true := by decide +kernel
  intro x hx
  have := List.all_eq_true.mp this x hx
  unfold gTokB at this
  simp only [Bool.or_eq_true, beq_iff_eq] at this
  rcases this with (h | h) | h
  · exact gTok_of (tokOk_of h)
  · exact .inr (.inl h)
  · exact .inr (.inr h)
theorem line_g {n : Nat} {q : Prt} (h : TxtOk n q) : ∀ l ∈ linesOf q, l ≠ [] ∧ ∀ x ∈ l, gTok x := by
  intro l hl
  simp only [linesOf, List.mem_append, List.mem_cons, List.not_mem_nil, or_false, List.mem_map] at hl
  rcases hl with (rfl | ⟨o, ho, rfl⟩) | ⟨f, hf, rfl⟩
  · refine ⟨by simp, fun x hx => ?_⟩
    rcases List.mem_cons.mp hx with rfl | hx
    · exact words_g _ (by decide +kernel)
    · exact gTok_of (h.rn x hx)
  · obtain ⟨h1, h2, h3⟩ := h.on o ho
    refine ⟨by simp, fun x hx => ?_⟩
    simp only [List.mem_cons] at hx
    rcases hx with rfl | rfl | hx
    · exact words_g _ (by decide +kernel)
    · exact gTok_of h1
    · exact gTok_of (h3 x hx)
  · obtain ⟨h1, h2, h3, h4, h5⟩ := h.fn f hf
    refine ⟨by simp, fun x hx => ?_⟩
    simp only [List.mem_cons] at hx
    rcases hx with rfl | rfl | rfl | hx
    · exact words_g _ (by decide +kernel)
    · exact gTok_of h1
    · exact gTok_of h2
    · exact tokB_mem words_g (allNB_mono (fun x hx => gTok_of hx) h5) x hx
theorem sp_tok {x : Str} {ts : List (List Nat)} {l : List Nat} (h : gTok x) (hs : ∀ p, Tk.Sp ts p l) : Tk.Sp (TL.tl x :: ts) false (TL.tl x ++ l) := by
  rcases h with h | h | h
  · exact .word h (hs true)
  · rw [h]
    exact .brace (.inl rfl) (hs false)
  · rw [h]
    exact .brace (.inr rfl) (hs false)
theorem sp_join : ∀ {l : List Str}, l ≠ [] → (∀ x ∈ l, gTok x) → Tk.Sp (l.map TL.tl) false (TL.tl (Str.join " " l))
  | [], h, _ => absurd rfl h
  | [x], _, h => by
    show Tk.Sp [TL.tl x] false (TL.tl x)
    have := sp_tok (ts := []) (l := []) (h x (by simp)) fun p => .nil
    rw [List.append_nil] at this
    exact this
  | x :: y :: r, _, h => by
    show Tk.Sp _ false (TL.tl (x ++ " " ++ Str.join " " (y :: r)))
    rw [TL.tl_append, TL.tl_append, List.append_assoc, show TL.tl (" " : Str) = [32] by decide +kernel]
    exact sp_tok (h x (by simp)) fun p => .blank (sp_join (by simp) fun z hz => h z (List.mem_cons_of_mem _ hz))
theorem no10_join : ∀ {l : List Str}, (∀ x ∈ l, gTok x) → 10 ∉ TL.tl (Str.join " " l)
  | [], _ => by decide +kernel
  | [x], h => by
    have := h x (by simp)
    show 10 ∉ TL.tl x
    rcases this with h | h | h
    · exact fun z => (h.2 10 z).2.1 rfl
    · rw [h]; decide
    · rw [h]; decide
  | x :: y :: r, h => by
    show 10 ∉ TL.tl (x ++ " " ++ Str.join " " (y :: r))
    have ih := no10_join (l := y :: r) fun z hz => h z (List.mem_cons_of_mem _ hz)
    have hx : 10 ∉ TL.tl x := by
      rcases h x (by simp) with h | h | h
      · exact fun z => (h.2 10 z).2.1 rfl
      · rw [h]; decide
      · rw [h]; decide
    rw [TL.tl_append, TL.tl_append, show TL.tl (" " : Str) = [32] by decide +kernel]
    simp only [List.mem_append, List.mem_cons, List.not_mem_nil, or_false, not_or]
    exact ⟨⟨hx, by decide⟩, ih⟩
theorem tok_line {n : Nat} {q : Prt} (h : TxtOk n q) : ((linesOf q).map lineT).map Tk.tokF = linesOf q := by
  rw [List.map_map]
  refine (List.map_congr_left fun l hl => ?_).trans (List.map_id _)
  obtain ⟨a, b⟩ := line_g h l hl
  exact Tk.tokF_sp (sp_join a b)
theorem filter_lines {n : Nat} {q : Prt} (h : TxtOk n q) : (linesOf q).filter (fun ts => !ts.isEmpty) = linesOf q := List.filter_eq_self.mpr fun l hl => by
  have := (line_g h l hl).1
  cases l with
  | nil => exact absurd rfl this
  | cons => rfl
theorem raw_due {n : Nat} {q : Prt} (h : TxtOk n q) : RawOk ((linesOf q).map lineT) q := by
  refine ⟨by unfold linesOf; simp, fun l hl => ?_, Nat.le_trans (join_len _ _) (Nat.le_trans (text_len h) (by decide)), ?_, by rw [tok_line h, filter_lines h]⟩
  · obtain ⟨t, ht, rfl⟩ := List.mem_map.mp hl
    exact ⟨no10_join (line_g h t ht).2, Nat.le_trans (lineT_len h ht) (by decide)⟩
  · have := lines_len h
    rw [List.length_map]
    omega
abbrev qE : Str := ""
theorem join_snoc : ∀ {l : List Str}, l ≠ [] → Str.join "\n" (l ++ [qE]) = Str.join "\n" l ++ "\n"
  | [], h => absurd rfl h
  | [x], _ => by
    show x ++ "\n" ++ "" = x ++ "\n"
    exact TL.ext_tl (by rw [TL.tl_append, show TL.tl ("" : Str) = [] by decide +kernel, List.append_nil])
  | x :: y :: r, _ => by
    show x ++ "\n" ++ Str.join "\n" ((y :: r) ++ [qE]) = x ++ "\n" ++ Str.join "\n" (y :: r) ++ "\n"
    rw [join_snoc (by simp)]
    exact (PySem.Str.append_assoc _ _ _).symm
theorem raw_nl {n : Nat} {q : Prt} (h : TxtOk n q) : RawOk ((linesOf q).map lineT ++ [qE]) q ∧ Str.join "\n" ((linesOf q).map lineT ++ [qE]) = textOf q ++ "\n" := by
  have r := raw_due h
  have e := join_snoc r.ne
  refine ⟨⟨by simp, fun l hl => ?_, ?_, ?_, ?_⟩, e⟩
  · rcases List.mem_append.mp hl with hl | hl
    · exact r.ln l hl
    · simp only [List.mem_cons, List.not_mem_nil, or_false] at hl
      subst hl
      exact ⟨by decide +kernel, by decide +kernel⟩
  · rw [e, PySem.Str.length_append]
    have := Nat.le_trans (join_len "\n" ((linesOf q).map lineT)) (text_len h)
    rw [show ("\n" : Str).length = 1 by decide +kernel]
    omega
  · have := r.num
    have := lines_len h
    rw [List.length_append, List.length_map]
    simp
    omega
  · rw [List.map_append, List.filter_append, r.tok]
    have : Tk.tokF "" = [] := Tk.tokF_sp (ts := []) (by rw [show TL.tl ("" : Str) = [] by decide +kernel]; exact .nil)
    simp only [List.map_cons, List.map_nil, this]
    simp
end Lx

set_option Elab.async false
set_option maxRecDepth 100000
set_option linter.all false
set_option maxHeartbeats 4000000
namespace Lx
open PySem PySem.Spec PyProof.Rows L2 Evl Kx
open Dl hiding Stp Spec
/-! ### texts with drawn blanks -/
/-- is a word, no brace -/
def wordB (x : Str) : Bool := !(([("{" : Str), "}"] : List Str).any (eqS (.str x)))
theorem wordB_ok {x : Str} (h : gTok x) : (wordB x = true ∧ Tk.plain (TL.tl x)) ∨ (wordB x = false ∧ (TL.tl x = [123] ∨ TL.tl x = [125])) := by
  rcases h with h | h | h
  · refine .inl ⟨?_, h⟩
    have n1 : x ≠ "{" := fun z => by
      have := h.2 123 (by rw [z]; decide +kernel)
      exact this.2.2.1 rfl
    have n2 : x ≠ "}" := fun z => by
      have := h.2 125 (by rw [z]; decide +kernel)
      exact this.2.2.2 rfl
    unfold wordB
    simp only [List.any_cons, List.any_nil, Bool.or_false, Bool.not_eq_true', Bool.or_eq_false_iff]
    exact ⟨decide_eq_false n1, decide_eq_false n2⟩
  · have : x = "{" := TL.ext_tl (by rw [h]; decide +kernel)
    subst this
    exact .inr ⟨by decide +kernel, .inl h⟩
  · have : x = "}" := TL.ext_tl (by rw [h]; decide +kernel)
    subst this
    exact .inr ⟨by decide +kernel, .inr h⟩
def lastW : List Str → Bool
  | [] => false
  | [x] => wordB x
  | _ :: y :: r => lastW (y :: r)
theorem lastW_snoc : ∀ (l : List Str) (x : Str), lastW (l ++ [x]) = wordB x
  | [], x => rfl
  | [y], x => rfl
  | y :: z :: r, x => lastW_snoc (z :: r) x
/-- a line that is written up to here: what may follow -/
def LB (done : List Str) (l : List Nat) : Prop := ∀ ts' l', Tk.Sp ts' (lastW done) l' → Tk.Sp (done.map TL.tl ++ ts') false (l ++ l')
theorem sp_blanks {ts : List (List Nat)} {l : List Nat} (h : Tk.Sp ts false l) : ∀ (k : Nat) (p : Bool), (k = 0 → p = false) → Tk.Sp ts p (List.replicate k 32 ++ l)
  | 0, p, hp => by rw [hp rfl]; exact h
  | k + 1, p, _ => .blank (sp_blanks h k false fun _ => rfl)
theorem LB.nil : LB [] [] := fun ts' l' h => h
theorem LB.step {done : List Str} {l : List Nat} {k : Nat} {x : Str} (h : LB done l) (hx : gTok x) (hk : k = 0 → ¬ (lastW done = true ∧ wordB x = true)) : LB (done ++ [x]) (l ++ List.replicate k 32 ++ TL.tl x) := by
  intro ts' l' hs
  rw [lastW_snoc] at hs
  rw [List.map_append, List.append_assoc, List.append_assoc, List.append_assoc]
  refine h _ _ ?_
  have base : ∀ p, (p = true → wordB x = false) → Tk.Sp (TL.tl x :: ts') p (TL.tl x ++ l') := fun p hp => by
    rcases wordB_ok hx with ⟨h1, h2⟩ | ⟨h1, h2⟩
    · have : p = false := by cases p with
        | false => rfl
        | true => rw [hp rfl] at h1; cases h1
      rw [this]
      rw [h1] at hs
      exact .word h2 hs
    · rw [h1] at hs
      rcases h2 with h2 | h2
      · rw [h2]; exact .brace (.inl rfl) hs
      · rw [h2]; exact .brace (.inr rfl) hs
  cases k with
  | zero =>
    refine base _ fun z => ?_
    cases hw : wordB x with
    | false => rfl
    | true => exact absurd ⟨z, hw⟩ (hk rfl)
  | succ k => exact sp_blanks (base false fun z => by cases z) (k + 1) _ (fun z => by cases z)
theorem LB.end {done : List Str} {l : List Nat} (h : LB done l) (k : Nat) : Tk.Sp (done.map TL.tl) false (l ++ List.replicate k 32) := by
  have := h [] (List.replicate k 32) (by
    cases k with
    | zero => exact .nil
    | succ k =>
      have := sp_blanks (ts := []) (l := []) .nil (k + 1) (lastW done) (fun z => by cases z)
      rw [List.append_nil] at this
      exact this)
  rw [List.append_nil] at this
  exact this
abbrev blanksX : List D := [.str "", .str " ", .str "  ", .str "   "]
def blk (k : Nat) : Str := ⟨(List.replicate k 32).toArray⟩
theorem blk_tl (k : Nat) : TL.tl (blk k) = List.replicate k 32 := rfl
theorem ix_blk {i : Int} (h0 : 0 ≤ i) (h4 : i < 4) : ∃ k : Nat, (k : Int) = i ∧ k < 4 ∧ ixD (.lst blanksX) (.int i) = some (.dat (.str (blk k))) := by
  have : i = 0 ∨ i = 1 ∨ i = 2 ∨ i = 3 := by omega
  have go : ∀ k : Nat, k < 4 → ixD (.lst blanksX) (.int (k : Int)) = some (.dat (.str (blk k))) := by
    intro k hk
    show (atI blanksX (k : Int)).map R.dat = _
    have : blanksX[k]? = some (.str (blk k)) := by
      have e0 : blk 0 = "" := by decide +kernel
      have e1 : blk 1 = " " := by decide +kernel
      have e2 : blk 2 = "  " := by decide +kernel
      have e3 : blk 3 = "   " := by decide +kernel
      match k, hk with
      | 0, _ => rw [e0]; rfl
      | 1, _ => rw [e1]; rfl
      | 2, _ => rw [e2]; rfl
      | 3, _ => rw [e3]; rfl
    rw [atI_nat this]
    rfl
  exact ⟨i.toNat, by omega, by omega, by have := go i.toNat (by omega); rwa [show ((i.toNat : Nat) : Int) = i by omega] at this⟩
theorem blk_len (k : Nat) : (blk k).length = k := by rw [TL.len_tl, blk_tl, List.length_replicate]
theorem gTok_no10 {x : Str} (h : gTok x) : 10 ∉ TL.tl x := by
  rcases h with h | h | h
  · exact fun z => (h.2 10 z).2.1 rfl
  · rw [h]; decide
  · rw [h]; decide
theorem no10_app {a b : Str} (h : 10 ∉ TL.tl a) (h' : 10 ∉ TL.tl b) : 10 ∉ TL.tl (a ++ b) := by
  rw [TL.tl_append]
  simp only [List.mem_append, not_or]
  exact ⟨h, h'⟩
theorem no10_blk (k : Nat) : 10 ∉ TL.tl (blk k) := by
  rw [blk_tl]
  intro z
  have := List.eq_of_mem_replicate z
  cases this
/-- rows that show these lines -/
structure Rows (rows : List Str) (ls : List (List Str)) : Prop where
  ln : ∀ l ∈ rows, 10 ∉ TL.tl l ∧ l.length ≤ 21000
  num : rows.length ≤ 2 * ls.length
  tok : (rows.map Tk.tokF).filter (fun ts => !ts.isEmpty) = ls
theorem Rows.nil : Rows [] [] := ⟨fun l h => (nomatch h), Nat.le_refl _, rfl⟩
theorem tokF_blk (k : Nat) : Tk.tokF (blk k) = [] := Tk.tokF_sp (ts := []) (by
  rw [blk_tl]
  have := sp_blanks (ts := []) (l := []) .nil k false (fun _ => rfl)
  rw [List.append_nil] at this
  exact this)
theorem Rows.add {rows : List Str} {ls : List (List Str)} {t : List Str} {z : Str} (h : Rows rows ls) (ht : t ≠ []) (hz : Tk.tokF z = t) (h10 : 10 ∉ TL.tl z) (hl : z.length ≤ 21000) : Rows (rows ++ [z]) (ls ++ [t]) := by
  refine ⟨fun l hm => ?_, by have := h.num; simp; omega, ?_⟩
  · rcases List.mem_append.mp hm with hm | hm
    · exact h.ln l hm
    · simp only [List.mem_cons, List.not_mem_nil, or_false] at hm
      subst hm
      exact ⟨h10, hl⟩
  · rw [List.map_append, List.filter_append, h.tok]
    simp only [List.map_cons, List.map_nil, hz]
    cases t with
    | nil => exact absurd rfl ht
    | cons => rfl
theorem Rows.blank {rows : List Str} {ls : List (List Str)} {t : List Str} {k : Nat} {z : Str} (h : Rows rows ls) (ht : t ≠ []) (hz : Tk.tokF z = t) (h10 : 10 ∉ TL.tl z) (hl : z.length ≤ 21000) (hk : k < 4) : Rows (rows ++ [z] ++ [blk k]) (ls ++ [t]) := by
  have a := Rows.add h ht hz h10 hl
  refine ⟨fun l hm => ?_, by have := h.num; simp; omega, ?_⟩
  · rcases List.mem_append.mp hm with hm | hm
    · exact a.ln l hm
    · simp only [List.mem_cons, List.not_mem_nil, or_false] at hm
      subst hm
      exact ⟨no10_blk k, by rw [blk_len]; omega⟩
  · rw [List.map_append, List.filter_append, a.tok]
    simp only [List.map_cons, List.map_nil, tokF_blk]
    simp
end Lx

set_option Elab.async false
set_option maxRecDepth 100000
set_option linter.all false
set_option maxHeartbeats 4000000
namespace Lx
open PySem PySem.Spec PyProof.Rows L2 Evl Kx
open Dl hiding Stp Spec
/-- lines whose text may be spaced -/
structure LinesOk (ls : List (List Str)) : Prop where
  num : ls.length ≤ 13
  ln : ∀ l ∈ ls, l ≠ [] ∧ l.length ≤ 1900 ∧ ∀ x ∈ l, gTok x ∧ x.length ≤ 8
/-- the cells as they were but for the generator's bound -/
structure GS (C : Cs) (g : Addr) (C' : Cs) (m : Nat) : Prop where
  at' : getC C' g = some (.gen m)
  to' : ∀ j, putC C' g (.gen j) = putC C g (.gen j)
  sb : ∀ S : Cs, S.Sublist C → g ∉ keys S → S.Sublist C'
theorem sub_put {S C : Cs} {g : Addr} {c : Cell} (h : S.Sublist C) (n : g ∉ keys S) : S.Sublist (putC C g c) := by
  have e : putC S g c = S := (List.map_congr_left fun x hx => by
    have : x.1 ≠ g := fun z => n (by rw [← z]; exact List.mem_map.mpr ⟨x, hx, rfl⟩)
    rw [if_neg this]
    rfl).trans (List.map_id _)
  have := h.map fun x => if x.1 = g then (g, c) else x
  rw [show S.map (fun x => if x.1 = g then (g, c) else x) = S from e] at this
  exact this
theorem GS.start {C : Cs} {g : Addr} {n : Nat} (h : getC C g = some (.gen n)) : GS C g C n := ⟨h, fun _ => rfl, fun _ h _ => h⟩
theorem GS.next {C C' : Cs} {g : Addr} {m k : Nat} (h : GS C g C' m) : GS C g (putC C' g (.gen k)) k := ⟨get_put h.at', fun j => by rw [put_put, h.to'], fun S hs hn => sub_put (h.sb S hs hn) hn⟩
theorem rnd_go {C C' : Cs} {g : Addr} {b : Int} {m : Nat} {Q : D → Cs → Prop} (h : GS C g C' m) (hn : m < 2 ^ 50) (hb : 1 ≤ b ∧ b < 2 ^ 59) (k : ∀ r : Int, 0 ≤ r → r < b → ∀ C2, GS C g C2 (m + 2) → Q (.int r) C2) : spRndX [.ref g, .int b] C' Q :=
  ⟨g, b, m, rfl, h.at', hn, hb, fun r ⟨h0, h1⟩ => k r h0 h1 _ h.next⟩
/-- what is joined at the end: rows between blank lines -/
def wrapR (a b : Nat) (rows : List Str) : List Str := List.replicate a qE ++ rows ++ List.replicate b qE
def spSpaced : Dl.Spec := fun ds C Q => ∃ g ls n, ds = [.ref g, .lst (ls.map strsX)] ∧ getC C g = some (.gen n) ∧ n ≤ 2 ^ 40 ∧ LinesOk ls ∧ ∀ rows a b m C', Rows rows ls → a < 2 → b < 2 → m ≤ n + 60000 → GS C g C' m → Q (.str (Str.join "\n" (wrapR a b rows))) C'
theorem not_brace {x : Str} : (inDD (.str x) (.lst [.str "{", .str "}"])).map (fun b => R.dat (.bl (!b))) = some (.dat (.bl (wordB x))) := rfl
theorem rngD_map (lo : Int) : ∀ n, rngD lo n = (List.range n).map fun k : Nat => D.int (lo + (k : Int)) := by
  intro n
  refine List.ext_getElem? fun i => ?_
  by_cases h : i < n
  · rw [rngD_get h, List.getElem?_map, List.getElem?_range h]
    rfl
  · rw [List.getElem?_eq_none (by rw [rngD_len]; omega), List.getElem?_eq_none (by simp; omega)]
theorem range_split {n x : Nat} {done rest : List Nat} (h : List.range n = done ++ x :: rest) : x = done.length ∧ done.length < n := by
  have h1 : (List.range n)[done.length]? = some x := by rw [h]; simp
  have hl : done.length < n := by
    have := congrArg List.length h
    simp only [List.length_range, List.length_append, List.length_cons] at this
    omega
  rw [List.getElem?_range hl] at h1
  exact ⟨(Option.some.inj h1).symm, hl⟩
theorem ix_str {ts : List Str} {k : Nat} {x : Str} {i : Int} (h : ts[k]? = some x) (e : i = (k : Int)) : ixD (strsX ts) (.int i) = some (.dat (.str x)) := by
  subst e
  show (atI (ts.map D.str) (k : Int)).map R.dat = _
  rw [atI_nat (v := D.str x) (by rw [List.getElem?_map, h]; rfl)]
  rfl
theorem meets_Spaced : Meets ["generator", "lines", "blanks", "rows", "tokens", "line", "at", "least"] 2 spSpaced (rdLSpaced spRndX) := by
  rintro ds C Qd _ ⟨g, ls, n, rfl, hg, hn, hls, k⟩
  have e40 : (2 : Nat) ^ 40 = 1099511627776 := by decide
  have e50 : (2 : Nat) ^ 50 = 1125899906842624 := by decide
  refine ⟨by decide, by decide, by simp [startD], by simp [startD], _, rfl, ?_⟩
  refine forD_pre (g := strsX) (fun done sl C' => ∃ rows m z4 z5 z6 z7, Rows rows done ∧ m ≤ n + 4000 * done.length ∧ GS C g C' m ∧ sl = [.va (.ref g), .va (.lst (ls.map strsX)), .ow (.lst blanksX), .ow (.lst (rows.map .str)), z4, z5, z6, z7])
    ⟨[], n, .un, .un, .un, .un, Rows.nil, by simp, GS.start hg, rfl⟩ ?_ ?_
  · rintro done t rest sl C' N e ⟨rows, m, z4, z5, z6, z7, hR, hm, hgs, rfl⟩ kN
    obtain ⟨tn, tl, tx⟩ := hls.ln t (by rw [e]; simp)
    have hd : done.length < 13 := by
      have := congrArg List.length e
      have := hls.num
      simp only [List.length_append, List.length_cons] at *
      omega
    have hrn : rows.length ≤ 26 := by have := hR.num; omega
    obtain ⟨t0, ts, rfl⟩ : ∃ a b, t = a :: b := by cases t with | nil => exact absurd rfl tn | cons a b => exact ⟨a, b, rfl⟩
    have htl : ts.length + 1 ≤ 1900 := tl
    obtain ⟨g0, l0⟩ := tx t0 (by simp)
    refine ⟨_, rfl, rfl, rnd_go hgs (by omega) (by decide) fun r h0 h1 C2 hg2 => ?_⟩
    obtain ⟨k0, _, hk0, ek0⟩ := ix_blk h0 h1
    refine ⟨_, ek0, _, ix_hd, _, add_str (by rw [blk_len]; omega), by simp, _, rfl, 1, ((t0 :: ts).length : Int), by simp [strsX], ⟨by decide, by decide, by rw [List.length_cons]; omega, by rw [List.length_cons]; omega⟩, ?_⟩
    rw [rngD_map, show (((t0 :: ts).length : Int) - 1).toNat = ts.length by rw [List.length_cons]; omega]
    have first : LB [t0] (TL.tl (blk k0 ++ t0)) := by
      rw [TL.tl_append, blk_tl]
      have := LB.nil.step (k := k0) g0 (fun _ z => by cases z.1)
      simpa using this
    refine forD_pre (fun dn sl C' => ∃ s m' z6 z7, LB ((t0 :: ts).take (dn.length + 1)) (TL.tl s) ∧ s.length ≤ 11 * (dn.length + 1) ∧ 10 ∉ TL.tl s ∧ m' ≤ m + 2 + 2 * dn.length ∧ GS C g C' m' ∧ sl = [.va (.ref g), .va (.lst (ls.map strsX)), .ow (.lst blanksX), .ow (.lst (rows.map .str)), .va (strsX (t0 :: ts)), .va (.str s), z6, z7])
      ⟨blk k0 ++ t0, m + 2, z6, z7, first, by rw [PySem.Str.length_append, blk_len]; simp; omega, no10_app (no10_blk _) (gTok_no10 g0), by simp, hg2, rfl⟩ ?_ ?_
    · rintro dn x rst sl C3 N2 e2 ⟨s, m', z6', z7', hLB, hsl, h10, hm', hg3, rfl⟩ kN2
      obtain ⟨ex, hx⟩ := range_split e2
      subst ex
      have hlen : dn.length + 1 < (t0 :: ts).length := by rw [List.length_cons]; omega
      obtain ⟨x1, hx1⟩ : ∃ x1, (t0 :: ts)[dn.length + 1]? = some x1 := ⟨_, List.getElem?_eq_getElem hlen⟩
      obtain ⟨x0, hx0⟩ : ∃ x0, (t0 :: ts)[dn.length]? = some x0 := ⟨_, List.getElem?_eq_getElem (by omega)⟩
      obtain ⟨gx1, lx1⟩ := tx x1 (List.mem_of_getElem? hx1)
      have i1 : ixD (strsX (t0 :: ts)) (.int (1 + (dn.length : Int))) = some (.dat (.str x1)) := ix_str hx1 (by omega)
      have i0 : ixD (strsX (t0 :: ts)) (.int (1 + (dn.length : Int) - 1)) = some (.dat (.str x0)) := ix_str hx0 (by omega)
      have elast : lastW ((t0 :: ts).take (dn.length + 1)) = wordB x0 := by
        rw [List.take_succ, hx0]
        exact lastW_snoc _ _
      have etake : (t0 :: ts).take (dn.length + 1 + 1) = (t0 :: ts).take (dn.length + 1) ++ [x1] := by
        rw [List.take_succ (i := dn.length + 1), hx1]
        rfl
      have go : ∀ (c : Bool) (r : Int) (k : Nat) (C4 : Cs), ((k : Int) = (if c = true then 1 else 0) + r) → (c = false → ¬ (wordB x0 = true ∧ wordB x1 = true)) → 0 ≤ r → k < 4 → GS C g C4 (m' + 2) →
          N2 [.va (.ref g), .va (.lst (ls.map strsX)), .ow (.lst blanksX), .ow (.lst (rows.map .str)), .va (strsX (t0 :: ts)), .va (.str (s ++ blk k ++ x1)), .va (.int (1 + (dn.length : Int))), .va (.int (if c = true then 1 else 0))] C4 := by
        intro c r k C4 ek hc hr hk4 hg4
        refine kN2 _ _ ⟨s ++ blk k ++ x1, m' + 2, _, _, ?_, ?_, no10_app (no10_app h10 (no10_blk k)) (gTok_no10 gx1), by simp; omega, hg4, rfl⟩
        · rw [List.length_append, List.length_singleton, etake, TL.tl_append, TL.tl_append, blk_tl]
          refine hLB.step gx1 fun k0 z => ?_
          rw [elast] at z
          cases c with
          | false => exact hc rfl z
          | true =>
            subst k0
            simp at ek
            omega
        · rw [PySem.Str.length_append, PySem.Str.length_append, blk_len]
          simp
          omega
      cases hw1 : wordB x1 with
      | false =>
        refine ⟨_, rfl, _, i1, by decide, _, not_brace, _, rfl, iteN hw1 ⟨_, rfl, by simp, rfl, rnd_go hg3 (by omega) (by decide) fun r hr0 hr1 C4 hg4 => ?_⟩⟩
        obtain ⟨k, ek, hk, eix⟩ := ix_blk (i := 0 + r) (by omega) (by omega)
        exact ⟨_, rfl, _, eix, _, add_str (by rw [blk_len]; omega), _, i1, _, add_str (by rw [PySem.Str.length_append, blk_len]; omega), by simp, go false r k C4 ek (fun _ z => by rw [hw1] at z; cases z.2) hr0 hk hg4⟩
      | true =>
        refine ⟨_, rfl, _, i1, by decide, _, not_brace, _, rfl, iteY hw1 ⟨_, rfl, _, i0, by decide, _, not_brace, _, rfl, by simp, rfl, rnd_go hg3 (by omega) (by decide) fun r hr0 hr1 C4 hg4 => ?_⟩⟩
        obtain ⟨k, ek, hk, eix⟩ := ix_blk (i := (if wordB x0 = true then 1 else 0) + r) (by split <;> omega) (by split <;> omega)
        exact ⟨_, rfl, _, eix, _, add_str (by rw [blk_len]; omega), _, i1, _, add_str (by rw [PySem.Str.length_append, blk_len]; omega), by simp, go (wordB x0) r k C4 ek (fun z z2 => by rw [z] at z2; cases z2.1) hr0 hk hg4⟩
    · rintro sl C3 ⟨s, m', z6', z7', hLB, hsl, h10, hm', hg3, rfl⟩
      rw [List.length_range] at hLB hsl hm'
      have hfull : (t0 :: ts).take (ts.length + 1) = t0 :: ts := List.take_of_length_le (by simp)
      rw [hfull] at hLB
      refine ⟨⟨_, rfl⟩, rfl, rnd_go hg3 (by omega) (by decide) fun r hr0 hr1 C4 hg4 => ?_⟩
      obtain ⟨k4, _, hk4, eix⟩ := ix_blk hr0 hr1
      have ht : Tk.tokF (s ++ blk k4) = t0 :: ts := Tk.tokF_sp (by rw [TL.tl_append, blk_tl]; exact hLB.end k4)
      have h10' := no10_app h10 (no10_blk k4)
      have hl' : (s ++ blk k4).length ≤ 21000 := by rw [PySem.Str.length_append, blk_len]; omega
      refine ⟨_, eix, _, add_str (by rw [blk_len]; omega), _, rfl, by rw [List.length_map]; omega, rfl, rnd_go hg4 (by omega) (by decide) fun r2 hr20 hr21 C5 hg5 => ?_⟩
      refine ⟨_, rfl, _, rfl, ?_⟩
      refine ite2 (fun h => ?_) (fun h => ?_)
      · refine ⟨⟨_, rfl⟩, rfl, rnd_go hg5 (by omega) (by decide) fun r3 hr30 hr31 C6 hg6 => ?_⟩
        obtain ⟨k6, _, hk6, eix6⟩ := ix_blk hr30 (by omega)
        refine ⟨_, eix6, _, rfl, by simp; omega, kN _ _ ⟨rows ++ [s ++ blk k4] ++ [blk k6], _, .va (strsX (t0 :: ts)), .va (.str s), z6', z7', hR.blank tn ht h10' hl' hk6, ?_, hg6, ?_⟩⟩
        · rw [List.length_append, List.length_singleton]; omega
        · simp
      · refine kN _ _ ⟨rows ++ [s ++ blk k4], _, .va (strsX (t0 :: ts)), .va (.str s), z6', z7', hR.add tn ht h10' hl', ?_, hg5, ?_⟩
        · rw [List.length_append, List.length_singleton]; omega
        · simp
  · rintro sl C' ⟨rows, m, z4, z5, z6, z7, hR, hm, hgs, rfl⟩
    have hls' := hls.num
    have hrn : rows.length ≤ 26 := by have := hR.num; omega
    refine ⟨rfl, by decide, rfl, rnd_go hgs (by omega) (by decide) fun r hr0 hr1 C2 hg2 => ?_⟩
    obtain ⟨a, rfl⟩ : ∃ a : Nat, r = (a : Int) := ⟨r.toNat, by omega⟩
    refine ⟨_, mul_rep (by omega), _, add_lst (by simp; omega), by decide, rfl, rnd_go hg2 (by omega) (by decide) fun r2 hr20 hr21 C3 hg3 => ?_⟩
    obtain ⟨b, rfl⟩ : ∃ b : Nat, r2 = (b : Int) := ⟨r2.toNat, by omega⟩
    have ew : List.replicate a (D.str "") ++ rows.map D.str ++ List.replicate b (D.str "") = (wrapR a b rows).map D.str := by
      unfold wrapR
      simp
    have hj : joinD (.str "\n") [.lst (List.replicate a (D.str "") ++ rows.map D.str ++ List.replicate b (D.str ""))] = some (.dat (.str (Str.join "\n" (wrapR a b rows)))) := by
      rw [ew]
      unfold joinD
      simp only [strsOf_map]
      have hs := sum_le (ws := wrapR a b rows) (m := 21000) fun x hx => by
        unfold wrapR at hx
        rcases List.mem_append.mp hx with hx | hx
        · rcases List.mem_append.mp hx with hx | hx
          · rw [List.eq_of_mem_replicate hx]; decide +kernel
          · exact (hR.ln x hx).2
        · rw [List.eq_of_mem_replicate hx]; decide +kernel
      have hw : (wrapR a b rows).length ≤ 28 := by unfold wrapR; simp; omega
      rw [if_pos (by rw [show ("\n" : Str).length = 1 by decide +kernel]; omega)]
    exact ⟨_, mul_rep (by omega), _, add_lst (by simp; omega), _, hj, _, List.Sublist.refl _, k rows a b _ _ hR (by omega) (by omega) (by omega) hg3⟩
end Lx

set_option Elab.async false
set_option maxRecDepth 100000
set_option linter.all false
set_option maxHeartbeats 4000000
namespace Lx
open PySem PySem.Spec PyProof.Rows L2 Evl Kx
open Dl hiding Stp Spec
theorem lines_ok {n : Nat} {q : Prt} (h : TxtOk n q) : LinesOk (linesOf q) := by
  refine ⟨lines_len h, fun l hl => ?_⟩
  obtain ⟨a, b⟩ := line_g h l hl
  obtain ⟨c, d⟩ := line_mem h l hl
  exact ⟨a, c, fun x hx => ⟨b x hx, d x hx⟩⟩
theorem tokF_e : Tk.tokF qE = [] := Tk.tokF_sp (ts := []) (by rw [show TL.tl qE = [] by decide +kernel]; exact .nil)
theorem filter_e (k : Nat) : ((List.replicate k qE).map Tk.tokF).filter (fun ts => !ts.isEmpty) = [] := by
  rw [List.map_replicate, tokF_e]
  induction k with
  | zero => rfl
  | succ k ih => rw [List.replicate_succ, List.filter_cons_of_neg (by simp), ih]
theorem raw_spaced {n : Nat} {q : Prt} {rows : List Str} {a b : Nat} (h : TxtOk n q) (hR : Rows rows (linesOf q)) (ha : a < 2) (hb : b < 2) : RawOk (wrapR a b rows) q := by
  have hn := hR.num
  have hl := lines_len h
  have hw : (wrapR a b rows).length ≤ 28 := by unfold wrapR; simp; omega
  have hln : ∀ l ∈ wrapR a b rows, 10 ∉ TL.tl l ∧ l.length ≤ 21000 := fun l hm => by
    unfold wrapR at hm
    rcases List.mem_append.mp hm with hm | hm
    · rcases List.mem_append.mp hm with hm | hm
      · rw [List.eq_of_mem_replicate hm]
        exact ⟨by decide +kernel, by decide +kernel⟩
      · exact hR.ln l hm
    · rw [List.eq_of_mem_replicate hm]
      exact ⟨by decide +kernel, by decide +kernel⟩
  refine ⟨?_, fun l hm => ⟨(hln l hm).1, by have := (hln l hm).2; omega⟩, ?_, by omega, ?_⟩
  · intro z
    have ht := hR.tok
    have : rows = [] := by
      unfold wrapR at z
      simp only [List.append_eq_nil_iff] at z
      exact z.1.2
    subst this
    unfold linesOf at ht
    simp at ht
  · have h1 := join_len "\n" (wrapR a b rows)
    have h2 := sum_le (ws := wrapR a b rows) (m := 21000) fun x hx => (hln x hx).2
    rw [show ("\n" : Str).length = 1 by decide +kernel] at h1
    omega
  · unfold wrapR
    rw [List.map_append, List.map_append, List.filter_append, List.filter_append, filter_e, filter_e, hR.tok]
    simp
/-! ### what repr shows -/
theorem toP_parts (q : Prt) : toP (partsX q) = some (prtD q) := by rw [← ofP_parts]; exact toP_ofP (key_parts q)
theorem toP_fns (fs : List Fn) : toP (.lst (fs.map fnX)) = some (.list (fs.map Kx.fnD)) := by rw [← ofP_fns]; exact toP_ofP (key_fns fs)
theorem Nice.reprF {q : Prt} (h : Nice q) : reprD (.lst (q.fs.map fnX)) = some (.dat (.str (PyData.list (q.fs.map Kx.fnD)).shown)) := by
  obtain ⟨⟨s1, s2⟩, s3⟩ := h.show
  unfold reprD
  rw [toP_fns]
  refine if_pos ⟨?_, ?_, ?_⟩
  · simp only [prtD, PyData.showable, PyData.showableAll, Bool.and_eq_true] at s1 ⊢
    exact s1.2.2.1
  · simp only [prtD, PyData.depth, PyData.depthAll] at s3 ⊢
    omega
  · have h1 := shown_le (.list (q.fs.map Kx.fnD))
    simp only [prtD, bnd, bndA] at s2 h1
    omega
end Lx

set_option Elab.async false
set_option maxRecDepth 100000
set_option linter.all false
set_option maxHeartbeats 4000000
namespace Lx
open PySem PySem.Spec PyProof.Rows L2 Evl Kx
open Dl hiding Stp Spec
/-! ### the law -/
def spLaw (K : PySem.W.Frag) : Dl.Spec := fun ds C Q => ∃ ns : List Int, ds = [scriptX K ns] ∧ Q (.bl true) C
def spYes : Dl.Spec := fun ds C Q => ds = [] ∧ Q (.bl true) C
/-- refused: no program -/
def sxOdd (CX : Addr) : SpecX := fun ds C Qe => ∃ d p, ds = [d] ∧ toP d = some p ∧ Qe CX d
theorem repr_of {d : D} {p : PyData} (h : toP d = some p) (c1 : p.showable = true) (c2 : p.depth ≤ 60) (c3 : p.shown.length ≤ 16777216) : reprD d = some (.dat (.str p.shown)) := by
  unfold reprD
  rw [h]
  exact if_pos ⟨c1, c2, c3⟩
theorem Nice.le {q : Prt} (h : Nice q) : PrtLe 8 q := ⟨by have := h.ol; omega, by have := h.fl; omega, fun g hg => by
  obtain ⟨_, _, _, d, e⟩ := h.fm g hg
  exact ⟨by omega, by omega⟩⟩
abbrev oddsX : List D := [.non, .int 3, .lst [], .tup [], .dic [], .str "rights a", .bl true]
theorem odd_ok : ∀ d ∈ oddsX, ∃ p z, toP d = some p ∧ reprD d = some (.dat (.str z)) := by
  intro d hd
  simp only [List.mem_cons, List.not_mem_nil, or_false] at hd
  rcases hd with rfl | rfl | rfl | rfl | rfl | rfl | rfl
  · exact ⟨_, _, rfl, repr_of rfl (by decide +kernel) (by decide +kernel) (by decide +kernel)⟩
  · exact ⟨_, _, rfl, repr_of rfl (by decide +kernel) (by decide +kernel) (by decide +kernel)⟩
  · exact ⟨_, _, rfl, repr_of rfl (by decide +kernel) (by decide +kernel) (by decide +kernel)⟩
  · exact ⟨_, _, rfl, repr_of rfl (by decide +kernel) (by decide +kernel) (by decide +kernel)⟩
  · exact ⟨_, _, rfl, repr_of rfl (by decide +kernel) (by decide +kernel) (by decide +kernel)⟩
  · exact ⟨_, _, rfl, repr_of rfl (by decide +kernel) (by decide +kernel) (by decide +kernel)⟩
  · exact ⟨_, _, rfl, repr_of rfl (by decide +kernel) (by decide +kernel) (by decide +kernel)⟩
theorem ne_same (x : Str) : (neDD (.str x) (.str x)).map (fun b => R.dat (.bl b)) = some (.dat (.bl false)) := by
  unfold neDD
  simp
def qLast : Prt := ⟨["check", "or"], [("owner", ["or"]), ("call", [])], [("call", "owner", [.call "call", .check "or"]), ("or", "call", [.either [] [.tail "or"], .loop [.block false [.block true [.back]]]])]⟩
def rawLast : List Str := ["rights check or", "", "owner owner or", "", "owner call", "", "function call owner {call call check or}", "", "function or call{either{}or{tail or}loop{block{marked{back}}}}"]
def rowsLast : List Str := ["rights check or", "owner owner or", "owner call", "function call owner {call call check or}", "function or call{either{}or{tail or}loop{block{marked{back}}}}"]
theorem join_last : Str.join "\n\n" rowsLast = Str.join "\n" rawLast := by decide +kernel
theorem tok_last : (rawLast.map Tk.tokF).filter (fun ts => !ts.isEmpty) = linesOf qLast := by decide +kernel
theorem nice_last : Nice qLast := by
  refine ⟨by decide +kernel, by decide, by decide, by decide +kernel, by decide +kernel, by decide, by decide, by decide +kernel, by decide +kernel, by decide, by decide, by decide +kernel⟩
theorem raw_last : RawOk rawLast qLast := by
  refine ⟨by decide, ?_, by decide +kernel, by decide, tok_last⟩
  decide +kernel
theorem meets_Law {K : PySem.W.Frag} {CP CX : Addr} (hX : ExcC K CX) (hno : PySem.W.findIn K (.ref CX) "value" = some none) (hex : PySem.W.exmOne K (.ref CX) (.ref CX) = some true) :
    Meets ["script", "index", "generator", "parts", "program", "lines", "tokens", "due", "text", "told", "odd", "caught", "error", "rows", "words"] 1 (spLaw K)
      (rdLaw (K := K) (spGenX K) spPrtX spRndX (spPgmX K CP 18 7) (spLines 8) (spText K CP 8) (spRead K CP 8 Nice) CP CP (spFsX K CP 8) spSpaced (sxOdd CX) CX spYes Nice) := by
  rintro ds C Qd _ ⟨ns, rfl, k⟩
  refine ⟨4, rfl, by decide, by decide, ?_⟩
  rw [rngD_map]
  refine forD_pre (fun done sl C' => C.Sublist C' ∧ ∃ z1 z2 z3 z4 z5 z7 z8 z9 za zb zc zd ze, sl = [.va (scriptX K ns), z1, z2, z3, z4, z5, .un, z7, z8, z9, za, zb, zc, zd, ze]) ⟨List.Sublist.refl _, .un, .un, .un, .un, .un, .un, .un, .un, .un, .un, .un, .un, .un, rfl⟩ ?_ ?_
  · rintro done j rest sl C' N e ⟨hs, z1, z2, z3, z4, z5, z7, z8, z9, za, zb, zc, zd, ze, rfl⟩ kN
    have hj : j < 4 := by
      have : j ∈ List.range (Int.toNat 4) := by rw [e]; simp
      simpa using this
    refine ⟨_, rfl, rfl, ns, j, by simp, fun p hp => ⟨by simp, rfl, rnd_go (GS.start get_new) (by omega) (by decide) fun r hr0 hr1 C2 hg2 => ?_⟩⟩
    obtain ⟨b, rfl⟩ : ∃ b : Nat, r = (b : Int) := ⟨r.toNat, by omega⟩
    refine ⟨_, rfl, rfl, p, _, 1 + b, 4, by simp, by omega, by omega, by omega, hg2.at', by omega, fun pt hpt => ?_⟩
    have hN := PrtOk.nice hpt (by omega) (by omega)
    have hT := hN.txt
    have hG := hN.good
    have hL := hN.le
    have hS := hG.sh
    refine ⟨by simp, rfl, pt, rfl, hG, rfl, pt, rfl, hT, by simp, by simp, rfl, _, rfl, by have := lines_len hT; rw [List.length_map]; omega, by intro w hw o; simp only [List.mem_cons, List.not_mem_nil, or_false] at hw; subst hw; simp, ?_⟩
    refine lcD_pre (g := strsX) (xs := linesOf pt) (fun dn acc sl C3 => C3 = putC C2 p (.gen (1000 * j + 2 + 4000)) ∧ acc = (dn.map lineT).map D.str ∧ sl = [.va (scriptX K ns), .va (.int (0 + (j : Int))), .va (.ref p), .va (partsX pt), .va (progX K CP pt), .va (.lst ((linesOf pt).map strsX)), .un, z7, z8, z9, za, zb, zc, zd, ze]) ⟨rfl, rfl, rfl⟩ ?_ ?_
    · rintro dn x rs acc sl C3 N2 e2 ⟨rfl, rfl, rfl⟩ kN2
      exact ⟨_, rfl, rfl, _, join_lines hT (by rw [e2]; simp), kN2 _ _ _ ⟨rfl, by simp, rfl⟩⟩
    rintro acc sl C3 ⟨rfl, rfl, rfl⟩
    refine ⟨_, join_text hT, by simp [reS], rfl, pt, rfl, hT, hL, _, ne_same _, _, rfl, iteN rfl ⟨rfl, pt, rfl, hG, rfl, pt, rfl, hT, hL, _, ne_same _, _, rfl, iteN rfl ?_⟩⟩
    have hg3 : GS C2 p (putC C2 p (.gen (1000 * j + 2 + 4000))) (1000 * j + 2 + 4000) := ⟨get_put hg2.at', fun j => put_put, fun S h n => sub_put h n⟩
    have hpC : p ∉ keys C := fun z => hp ((hs.map Prod.fst).subset z)
    have hsub : ∀ {C4 : Cs} {m : Nat}, GS (putC C2 p (.gen (1000 * j + 2 + 4000))) p C4 m → C.Sublist C4 := fun {C4 m} h => h.sb C (hg3.sb C (hg2.sb C (hs.cons _) hpC) hpC) hpC
    have e40 : (2 : Nat) ^ 40 = 1099511627776 := by decide
    refine ⟨rfl, p, linesOf pt, _, rfl, hg3.at', by omega, lines_ok hT, fun rows1 a1 b1 m1 C4 hR1 ha1 hb1 hm1 hg4 => ?_⟩
    refine ⟨rfl, p, linesOf pt, _, rfl, hg4.at', by omega, lines_ok hT, fun rows2 a2 b2 m2 C5 hR2 ha2 hb2 hm2 hg5 => ?_⟩
    have htl : (textOf pt).length ≤ 530000 := Nat.le_trans (join_len _ _) (text_len hT)
    have hsub5 : C.Sublist C5 := hg5.sb C (hsub hg4) hpC
    refine ⟨_, add_str (by rw [show ("\n" : Str).length = 1 by decide +kernel]; omega), by simp, _, rfl, ?_⟩
    refine forD_pre (g := D.str) (xs := [textOf pt, Str.join "\n" (wrapR a1 b1 rows1), Str.join "\n" (wrapR a2 b2 rows2), textOf pt ++ "\n"]) (fun dn sl C6 => C6 = C5 ∧ ∃ z8 z9, sl = [.va (scriptX K ns), .va (.int (0 + (j : Int))), .va (.ref p), .va (partsX pt), .va (progX K CP pt), .va (.lst ((linesOf pt).map strsX)), .un, .va (.str (textOf pt)), z8, z9, za, zb, zc, zd, ze]) ⟨rfl, z8, z9, rfl⟩ ?_ ?_
    · rintro dn x rs sl C6 N2 e2 ⟨rfl, z8', z9', rfl⟩ kN2
      obtain ⟨raw, rfl, hraw⟩ : ∃ raw, x = Str.join "\n" raw ∧ RawOk raw pt := by
        have hx : x ∈ [textOf pt, Str.join "\n" (wrapR a1 b1 rows1), Str.join "\n" (wrapR a2 b2 rows2), textOf pt ++ "\n"] := by rw [e2]; simp
        simp only [List.mem_cons, List.not_mem_nil, or_false] at hx
        rcases hx with rfl | rfl | rfl | rfl
        · exact ⟨_, rfl, raw_due hT⟩
        · exact ⟨_, rfl, raw_spaced hT hR1 ha1 hb1⟩
        · exact ⟨_, rfl, raw_spaced hT hR2 ha2 hb2⟩
        · obtain ⟨h1, h2⟩ := raw_nl hT
          exact ⟨_, h2.symm, h1⟩
      refine ⟨_, rfl, rfl, raw, pt, rfl, hraw, hT, hN, by simp, ?_⟩
      refine ⟨⟨pt, rfl⟩, true, rfl, iteN rfl ⟨pt, pt, rfl, rfl, hS, hS, _, rfl, iteN (by rw [sameP_self hS]; rfl) ⟨rfl, pt, rfl, hT, hL, _, ne_same _, _, rfl, iteN rfl ?_⟩⟩⟩
      refine ⟨recv_prog nl_f, rfl, pt, rfl, hL, _, hN.reprF, _, rfl, _, hN.reprF, _, ne_same _, _, rfl, iteN rfl (kN2 _ _ ⟨rfl, _, _, rfl⟩)⟩
    rintro sl C6 ⟨rfl, z8', z9', rfl⟩
    refine ⟨by decide, by decide, by decide, _, rfl, ?_⟩
    refine forD_pre (g := fun d : D => d) (xs := oddsX) (fun dn sl C7 => C7 = C6 ∧ ∃ za zb zc, sl = [.va (scriptX K ns), .va (.int (0 + (j : Int))), .va (.ref p), .va (partsX pt), .va (progX K CP pt), .va (.lst ((linesOf pt).map strsX)), .un, .va (.str (textOf pt)), z8', z9', za, zb, zc, zd, ze]) ⟨rfl, za, zb, zc, rfl⟩ ?_ ?_
    · rintro dn x rs sl C7 N2 e2 ⟨rfl, za', zb', zc', rfl⟩ kN2
      obtain ⟨px, zx, h1, h2⟩ := odd_ok x (by rw [e2]; simp)
      exact ⟨_, rfl, by simp, rfl, x, px, rfl, h1, hex, by simp, by simp, by decide, _, rfl, _, rfl, iteN rfl ⟨CX, x, rfl, hX, hno, _, h2, _, h2, _, ne_same _, _, rfl, iteN rfl (kN2 _ _ ⟨rfl, _, _, _, rfl⟩)⟩⟩
    rintro sl C7 ⟨rfl, za', zb', zc', rfl⟩
    exact kN _ _ ⟨hsub5, _, _, _, _, _, _, _, _, _, _, _, _, _, rfl⟩
  · rintro sl C' ⟨hs, z1, z2, z3, z4, z5, z7, z8, z9, za, zb, zc, zd, ze, rfl⟩
    refine ⟨rfl, ⟨rfl, true, rfl, iteN rfl ?_⟩⟩
    refine ⟨by decide, by simp, ⟨_, rfl⟩, _, rfl, by simp, ?_⟩
    refine ⟨by decide, by decide, by decide, by decide, by decide, by decide, by decide, by decide, by decide, by decide, by decide, by decide, by simp, ?_⟩
    refine ⟨by decide, by decide, by decide, by decide, by decide, by decide, by simp, ?_⟩
    have hS := nice_last.good.sh
    have hj : joinD (.str "\n\n") [strsX rowsLast] = some (.dat (.str (Str.join "\n" rawLast))) := by
      rw [← join_last]
      unfold joinD strsX
      simp only [strsOf_map]
      exact if_pos (by decide +kernel)
    refine ⟨rfl, _, hj, rfl, rawLast, qLast, rfl, raw_last, nice_last.txt, nice_last, by decide, by decide, by decide, by decide, by decide, by decide, qLast, rfl, nice_last, qLast, qLast, rfl, rfl, hS, hS, C, hs, ?_⟩
    show Qd (.bl (sameP qLast qLast)) C
    rw [sameP_self hS]
    exact k
end Lx

set_option Elab.async false
set_option maxRecDepth 100000
set_option linter.all false
set_option maxHeartbeats 4000000
namespace Lx
open PySem PySem.Spec PyProof.Rows L2 Evl Kx
open Dl hiding Stp Spec
/-! ### deep and long bodies -/
def wrapS (k : Nat) (b : List Kx.Stp) : Kx.Stp := match k with
  | 0 => .loop b
  | 1 => .block true b
  | 2 => .either b []
  | _ => .either [.back] b
structure Deep (t : Nat) (b : List Kx.Stp) : Prop where
  ok : ∀ mk, Kx.okB ["a"] ["f"] mk b = true
  ns : nstB b ≤ t
  cn : cntB b ≤ 1 + 2 * t
theorem deep0 : Deep 0 [.back] := ⟨fun mk => by simp only [Kx.okB, okS, Bool.and_self], by decide, by decide⟩
theorem deepS {t k : Nat} {b : List Kx.Stp} (h : Deep t b) : Deep (t + 1) [wrapS k b] := by
  have h1 := h.ok
  have h2 := h.ns
  have h3 := h.cn
  have e : k = 0 ∨ k = 1 ∨ k = 2 ∨ ∃ j, k = j + 3 := by
    rcases k with _ | _ | _ | j
    · exact .inl rfl
    · exact .inr (.inl rfl)
    · exact .inr (.inr (.inl rfl))
    · exact .inr (.inr (.inr ⟨j, rfl⟩))
  rcases e with rfl | rfl | rfl | ⟨j, rfl⟩
  · exact ⟨fun mk => by simp only [wrapS, Kx.okB, okS, h1, Bool.and_self], by simp only [wrapS, nstB, nstS]; omega, by simp only [wrapS, cntB, cntS]; omega⟩
  · exact ⟨fun mk => by simp only [wrapS, Kx.okB, okS, h1, Bool.and_self], by simp only [wrapS, nstB, nstS]; omega, by simp only [wrapS, cntB, cntS]; omega⟩
  · exact ⟨fun mk => by simp only [wrapS, Kx.okB, okS, h1, Bool.and_self], by simp only [wrapS, nstB, nstS]; omega, by simp only [wrapS, cntB, cntS]; omega⟩
  · exact ⟨fun mk => by simp only [wrapS, Kx.okB, okS, h1, Bool.and_self], by simp only [wrapS, nstB, nstS]; omega, by simp only [wrapS, cntB, cntS]; omega⟩
def qDeep (r : Str) (b : List Kx.Stp) : Prt := ⟨[r], [("o", [])], [("f", "o", b)]⟩
theorem nice_q {r : Str} {b : List Kx.Stp} (hr : r ∈ rightsN) (ok : Kx.okB [r] ["f"] false b = true) (hn : nstB b ≤ 7) (hc : cntB b ≤ 300) : Nice (qDeep r b) := by
  refine ⟨by simp [qDeep], by simp [qDeep], by simp [qDeep], fun x hx => ?_, by simp [qDeep], by simp [qDeep], by simp [qDeep], fun o ho => ?_, by simp [qDeep], by simp [qDeep], by simp [qDeep], fun g hg => ?_⟩
  · simp only [qDeep, List.mem_cons, List.not_mem_nil, or_false] at hx
    subst hx
    exact hr
  · simp only [qDeep, List.mem_cons, List.not_mem_nil, or_false] at ho
    subst ho
    exact ⟨by decide +kernel, by simp, by simp⟩
  · simp only [qDeep, List.mem_cons, List.not_mem_nil, or_false] at hg
    subst hg
    exact ⟨show ("f" : Str) ∈ namesG by decide +kernel, by simp [qDeep], ok, hn, hc⟩
theorem ix_wrap {k : Nat} {b : List Kx.Stp} (hk : k < 4) {i : Int} (e : i = (k : Int)) : ixD (.lst [stpX (.loop b), stpX (.block true b), stpX (.either b []), stpX (.either [.back] b)]) (.int i) = some (.dat (stpX (wrapS k b))) := by
  subst e
  show (atI _ (k : Int)).map R.dat = _
  rw [atI_nat (v := stpX (wrapS k b)) (by
    match k, hk with
    | 0, _ => rfl
    | 1, _ => rfl
    | 2, _ => rfl
    | 3, _ => rfl)]
  rfl
def b250 : List Kx.Stp := List.replicate 250 (.check "net")
theorem nice250 : Nice (qDeep "net" b250) := nice_q (by decide +kernel) (by decide +kernel) (by decide +kernel) (by decide +kernel)
theorem body250 : bodyX b250 = List.replicate 250 (D.tup [.str "check", .str "net"]) := by
  rw [bodyX_map, b250, List.map_replicate]
  rfl
theorem meets_Deep {K : PySem.W.Frag} {CP : Addr} : Meets ["kind", "body", "turn", "wraps", "parts", "tokens", "due"] 0 spYes
      (rdLDeep (K := K) (spLines 8) (spRead K CP 8 Nice) (spPgmX K CP 18 7) CP (spText K CP 8)) := by
  rintro ds C Qd _ ⟨rfl, k⟩
  refine ⟨4, rfl, by decide, by decide, ?_⟩
  rw [rngD_map]
  refine forD_pre (fun done sl C' => C' = C ∧ ∃ z0 z1 z2 z3 z4 z6, sl = [z0, z1, z2, z3, z4, .un, z6]) ⟨rfl, .un, .un, .un, .un, .un, .un, rfl⟩ ?_ ?_
  · rintro done j rest sl C' N e ⟨rfl, z0, z1, z2, z3, z4, z6, rfl⟩ kN
    have hj : j < 4 := by
      have : j ∈ List.range (Int.toNat 4) := by rw [e]; simp
      simpa using this
    refine ⟨_, rfl, by decide, by decide, by simp, 7, rfl, by decide, by decide, ?_⟩
    rw [rngD_map]
    refine forD_pre (fun dn sl C2 => C2 = C' ∧ ∃ b z1 z2 z3 z4 z6, Deep dn.length b ∧ (z1 = .ow (.lst (bodyX b)) ∨ z1 = .va (.lst (bodyX b))) ∧ sl = [.va (.int (0 + (j : Int))), z1, z2, z3, z4, .un, z6]) ⟨rfl, [.back], _, z2, z3, z4, z6, deep0, .inl rfl, rfl⟩ ?_ ?_
    · rintro dn x rs sl C2 N2 e2 ⟨rfl, b, z1', z2', z3', z4', z6', hD, hz, rfl⟩ kN2
      have hdn : dn.length < 7 := by
        have := congrArg List.length e2
        simp at this
        omega
      have hD2 := deepS (k := j) hD
      have hQ : Nice (qDeep "a" [wrapS j b]) := nice_q (by decide +kernel) (hD2.ok false) (by have := hD2.ns; omega) (by have := hD2.cn; omega)
      have hT := hQ.txt
      have hG := hQ.good
      have hS := hG.sh
      have hL := hQ.le
      have go : N2 [.va (.int (0 + (j : Int))), .va (.lst (bodyX [wrapS j b])), .va (.int (0 + (x : Int))), .ow (.lst [stpX (.loop b), stpX (.block true b), stpX (.either b []), stpX (.either [.back] b)]), .va (partsX (qDeep "a" [wrapS j b])), .un, .va (.str (textOf (qDeep "a" [wrapS j b])))] C2 :=
        kN2 _ _ ⟨rfl, [wrapS j b], _, _, _, _, _, by rw [List.length_append, List.length_singleton]; exact hD2, .inr rfl, rfl⟩
      rcases hz with rfl | rfl
      all_goals
        refine ⟨_, rfl, by simp, by simp, by simp, by simp, by simp, by simp, by simp, by simp, by simp, _, ix_wrap hj (by omega), by simp, by simp, by simp, by simp, by simp, by simp, by simp, by simp, by simp, by simp, rfl, rfl, qDeep "a" [wrapS j b], rfl, hT, _, rfl, ?_, ?_, ?_⟩
        · have := lines_len hT; rw [List.length_map]; omega
        · intro w hw o; simp only [List.mem_cons, List.not_mem_nil, or_false] at hw; subst hw; simp
        · refine lcD_pre (g := strsX) (xs := linesOf (qDeep "a" [wrapS j b])) (fun dn acc sl C3 => C3 = C2 ∧ acc = (dn.map lineT).map D.str ∧ sl = [.va (.int (0 + (j : Int))), .va (.lst (bodyX [wrapS j b])), .va (.int (0 + (x : Int))), .ow (.lst [stpX (.loop b), stpX (.block true b), stpX (.either b []), stpX (.either [.back] b)]), .va (partsX (qDeep "a" [wrapS j b])), .un, z6']) ⟨rfl, rfl, rfl⟩ ?_ ?_
          · rintro dn x rs acc sl C3 N2 e2 ⟨rfl, rfl, rfl⟩ kN2
            exact ⟨_, rfl, rfl, _, join_lines hT (by rw [e2]; simp), kN2 _ _ _ ⟨rfl, by simp, rfl⟩⟩
          rintro acc sl C3 ⟨rfl, rfl, rfl⟩
          refine ⟨_, join_text hT, by simp [reS], rfl, qDeep "a" [wrapS j b], rfl, hG, rfl, qDeep "a" [wrapS j b], rfl, hT, hL, _, ne_same _, _, rfl, iteN rfl ?_⟩
          exact ⟨rfl, _, qDeep "a" [wrapS j b], rfl, raw_due hT, hT, hQ, rfl, qDeep "a" [wrapS j b], rfl, hG, qDeep "a" [wrapS j b], qDeep "a" [wrapS j b], rfl, rfl, hS, hS, _, rfl, iteN (by rw [sameP_self hS]; rfl) go⟩
    · rintro sl C2 ⟨rfl, b, z1', z2', z3', z4', z6', _, hz, rfl⟩
      rcases hz with rfl | rfl
      · exact kN _ _ ⟨rfl, _, _, _, _, _, _, rfl⟩
      · exact kN _ _ ⟨rfl, _, _, _, _, _, _, rfl⟩
  · rintro sl C' ⟨rfl, z0, z1, z2, z3, z4, z6, rfl⟩
    have hT := nice250.txt
    have hG := nice250.good
    have hS := hG.sh
    have hL := nice250.le
    have e250 : D.lst (List.replicate 250 (D.tup [.str "check", .str "net"])) = .lst (bodyX b250) := by rw [body250]
    have hm := mul_rep (x := D.tup [.str "check", .str "net"]) (n := 250) (by decide)
    have hp : [D.lst [.lst [.str "net"], .lst [.tup [.str "o", .lst []]], .lst [.tup [.str "f", .str "o", .lst (List.replicate 250 (D.tup [.str "check", .str "net"]))]]]] = [partsX (qDeep "net" b250)] := by
      simp [partsX, qDeep, strsX, ownX, fnX, body250]
    refine ⟨by simp, by simp, by simp, by simp, by simp, by simp, _, hm, by simp, by simp, by simp, by simp, rfl, qDeep "net" b250, hp, hG, rfl, qDeep "net" b250, rfl, hT, hL, rfl, _, qDeep "net" b250, rfl, raw_due hT, hT, nice250, rfl, qDeep "net" b250, hp, hG, qDeep "net" b250, qDeep "net" b250, rfl, rfl, hS, hS, _, List.Sublist.refl _, ?_⟩
    show Qd (.bl (sameP (qDeep "net" b250) (qDeep "net" b250))) _
    rw [sameP_self hS]
    exact k
end Lx

set_option Elab.async false
set_option maxRecDepth 100000
set_option linter.all false
set_option maxHeartbeats 4000000
namespace Lx
open PySem PySem.Spec PyProof.Rows L2 Evl Kx
open Dl hiding Stp Spec
/-! ### together -/
section
variable {P : Program} {w : World} {K : PySem.W.Frag} {mg : Str → Option Value} {base : Heap} {CP CR CX : Addr}
theorem cal_text (D : DefX K mg "text_of" sTextOf ["program"]) (np : CalD P w K mg base 3 "need_program" 1 (spNpX K CP) []) (mr : MetD P w K mg base 1 CP "rights" 1 (spRiX K CP)) (mo : MetD P w K mg base 2 CP "owners" 1 (spOsX K CP)) (mf : MetD P w K mg base 21 CP "functions" 1 (spFsX K CP 8))
    (bt : CalD P w K mg base 17 "body_tokens" 1 (spTokB (nokB 8)) []) : CalD P w K mg base 22 "text_of" 1 (spText K CP 8) [] := by
  obtain ⟨f, fd, F, b⟩ := D.ex
  exact calE F b scTextOf rfl (by decide) (derTextOf (k := 21) _ CP _ _ _ _ np (by decide) mr (by decide) mo (by decide) bt (by decide) mf (by decide)) meets_TextOf
theorem cal_lines (D : DefX K mg "_law_lines" sLLines ["parts"]) (bt : CalD P w K mg base 17 "_law_braced" 1 (spTokB (nokB 8)) []) : CalD P w K mg base 18 "_law_lines" 1 (spLines 8) [] := by
  obtain ⟨f, fd, F, b⟩ := D.ex
  exact calE F b scLLines rfl (by decide) (derLLines (k := 17) _ bt (by decide)) meets_LLines
theorem cal_spaced (D : DefX K mg "_law_spaced" sLSpaced ["generator", "lines"]) (rn : CalD P w K mg base 2 "_law_random" 2 spRndX []) (hB : Bi mg) : CalD P w K mg base 3 "_law_spaced" 2 spSpaced [] := by
  obtain ⟨f, fd, F, b⟩ := D.ex
  exact calE F b scLSpaced rfl (by decide) (derLSpaced (k := 2) _ rn (by decide) hB) meets_Spaced
theorem cal_read (D : DefX K mg "read_program" sReadPgm ["text"]) (hB : Bi mg) (tk : CalD P w K mg base 1 "tokens_of" 1 spTokOf []) (T : RdTxt K mg CR) (g8 : ∃ u, mg "MOST_OPEN" = some u ∧ RelV (.int 8) u) (mp : MakP P w K mg base 62 CP Nice) : CalD P w K mg base 63 "read_program" 1 (spRead K CP 8 Nice) [] := by
  obtain ⟨f, fd, F, b⟩ := D.ex
  exact calE F b scReadPgm rfl (by decide) (derReadPgm (k := 62) _ CR _ _ _ CP Nice hB tk (by decide) (mk_rd T) (by decide) (mt_own T hB) (by decide) (mt_fun T hB g8 8) (by decide) mp (by decide)) (meets_Read (Nat.le_refl _))
theorem cal_deep (D : DefX K mg "_law_deep_right" sLDeep []) (hB : Bi mg) (ln : CalD P w K mg base 18 "_law_lines" 1 (spLines 8) []) (rd : CalD P w K mg base 63 "read_program" 1 (spRead K CP 8 Nice) []) (pg : CalD P w K mg base 63 "_law_program" 1 (spPgmX K CP 18 7) []) (tx : CalD P w K mg base 22 "text_of" 1 (spText K CP 8) []) (eq : EqP P w K mg base CP) :
    CalD P w K mg base 64 "_law_deep_right" 0 spYes [] := by
  obtain ⟨f, fd, F, b⟩ := D.ex
  exact calE F b scLDeep rfl (by decide) (derLDeep (k := 63) _ _ _ CP _ ln (by decide) rd (by decide) pg (by decide) eq (by decide) tx (by decide) hB) meets_Deep
/-- text_of refuses what is no program -/
theorem calx_text {fN : Addr} {dN : FuncData} (D : DefX K mg "text_of" sTextOf ["program"]) (FN : FnOk P w K mg base (L2.CX P w) 3 fN dN ["value"] (spNp K CP CX)) (mN : mg "need_program" = some (.ref fN)) (kN : PySem.W.keepIn K (.ref fN) = true) (bN : Binds K dN ["value"] []) : CalX P w K mg base 4 "text_of" "value" 1 (sxOdd CX) := by
  obtain ⟨f, fd, F, b⟩ := D.ex
  refine ⟨f, fd, _, F.fn.okX scTextOf (fun vs H Q E h => ?_) (fun cdv A outer s H vs Q E hr h => ?_), F.mgf, F.kp, b⟩
  · obtain ⟨G, C, ds, Qe, _, r, hl, _⟩ := h
    rw [r.len, hl]
    rfl
  · obtain ⟨G, C, ds, Qe, wi, r, hl, ⟨d, p, rfl, hp, hq⟩, kk⟩ := h
    cases r with
    | cons r1 rs =>
    cases rs
    refine ⟨_, pss_cons (ps_expr (pe_callS FN hr (by rfl) mN kN bN (fun σ => passAt (takes_of rfl rfl rfl rfl) σ) (pa_cons (pv 0) pa_nil))) pss_never, ?_⟩
    exact ⟨_, rfl, ⟨_, rfl, .inr ⟨p, (dq_toP hp r1).mono (same_ex wi.gh), fun H1 x dd H2 xf => kk CX _ d r1 hq H1 x dd H2 xf⟩⟩⟩
theorem gn_law {f : Addr} {fd : FuncData} (F : Fun K "law" "law" sLaw f fd) (hB : Bi mg) (eq : EqP P w K mg base CP) (mX : mg "InvalidProgram" = some (.ref CX)) (hX : ExcC K CX) (hno : PySem.W.findIn K (.ref CX) "value" = some none) (hex : PySem.W.exmOne K (.ref CX) (.ref CX) = some true)
    (ge : CalD P w K mg base 2 "_law_generator" 2 (spGenX K) []) (pa : CalD P w K mg base 9 "_law_parts" 3 spPrtX []) (rn : CalD P w K mg base 2 "_law_random" 2 spRndX []) (pg : CalD P w K mg base 63 "_law_program" 1 (spPgmX K CP 18 7) [])
    (ln : CalD P w K mg base 18 "_law_lines" 1 (spLines 8) []) (tx : CalD P w K mg base 22 "text_of" 1 (spText K CP 8) []) (rd : CalD P w K mg base 63 "read_program" 1 (spRead K CP 8 Nice) []) (mf : MetD P w K mg base 21 CP "functions" 1 (spFsX K CP 8))
    (sp : CalD P w K mg base 3 "_law_spaced" 2 spSpaced []) (xt : CalX P w K mg base 4 "text_of" "value" 1 (sxOdd CX)) (dp : CalD P w K mg base 64 "_law_deep_right" 0 spYes []) (mp : MakP P w K mg base 62 CP Nice) : GnOk P w K mg base CX0 65 f fd ["script"] (spD K 1 (spLaw K)) :=
  gnE F scLaw rfl (by decide) (derLaw (k := 64) _ _ _ _ _ _ _ CP CP _ _ _ CX _ Nice ge (by decide) pa (by decide) rn (by decide) pg (by decide) ln (by decide) tx (by decide) rd (by decide) eq (by decide) hB mf (by decide) sp (by decide) xt (by decide) mX dp (by decide) mp (by decide)) (meets_Law hX hno hex)
/-- the law's promise at its entry -/
theorem law_in {H : Hp} {a : Addr} {ns : List Int} {Q : VK} {E : XK} (y : Sys H) (h : SqL K H a (ns.map V.int)) (q : ∀ H', Q (.bl true) H') : spD K 1 (spLaw K) [.ref a] H Q E :=
  ⟨H, [], [scriptX K ns], fun d _ => d = .bl true, ⟨Ex.refl H, fun x hx => (nomatch hx), List.nodup_nil, y⟩, .cons (script_rp h) .nil, rfl, ⟨ns, rfl, rfl⟩, fun v d G' H' C' _ _ r e => by
    subst e
    cases r
    exact q H'⟩
end
end Lx

set_option Elab.async false
set_option maxRecDepth 100000
set_option linter.all false
set_option maxHeartbeats 4000000
namespace Lx
open PySem PySem.Spec PyProof.Rows L2 Evl Kx
section
variable {P : Program} {w : World} {K : PySem.W.Frag} {mg : Str → Option Value} {base : Heap}
theorem ok_bod0 {f : Addr} {fd : FuncData} (F : Fun K "_law_body_drawn" "_law_body_drawn" sBod f fd) : FnOk P w K mg base CX0 2 f fd ["generator", "rights", "names", "deep", "marked", "most"] spNo :=
  F.ok scBod (fun vs H Q E h => h.elim) (fun cdv A outer s H vs Q E hr h => h.elim)
theorem ok_drawn {fR fS fB : Addr} {fdR fdS fdB : FuncData} (FS : Fun K "_law_step_drawn" "_law_step_drawn" sStp fS fdS) (FB : Fun K "_law_body_drawn" "_law_body_drawn" sBod fB fdB)
    (FR : FnOk P w K mg base CX0 2 fR fdR ["generator", "bound"] spRnd) (mR : mg "_law_random" = some (.ref fR)) (kR : PySem.W.keepIn K (.ref fR) = true) (bR : Binds K fdR ["generator", "bound"] [])
    (mB : mg "_law_body_drawn" = some (.ref fB)) (kB' : PySem.W.keepIn K (.ref fB) = true) (bB : Binds K fdB ["generator", "rights", "names", "deep", "marked", "most"] [])
    (mS : mg "_law_step_drawn" = some (.ref fS)) (kS' : PySem.W.keepIn K (.ref fS) = true) (bS : Binds K fdS ["generator", "rights", "names", "deep", "marked"] []) (mL : mg "len" = none) (mG : mg "range" = none) :
    ∀ d : Nat, FnOk P w K mg base CX0 (2 * d + 4) fB fdB ["generator", "rights", "names", "deep", "marked", "most"] (spBod K d)
  | 0 => ok_bod FB FR mR kR bR (ok_stp FS FR mR kR bR (ok_bod0 FB) mB kB' bB mL mG) mS kS' bS mG
  | d + 1 => ok_bod FB FR mR kR bR (ok_stp FS FR mR kR bR (ok_drawn FS FB FR mR kR bR mB kB' bB mS kS' bS mL mG d) mB kB' bB mL mG) mS kS' bS mG
end
end Lx

set_option Elab.async false
set_option maxRecDepth 100000
set_option linter.all false
set_option maxHeartbeats 4000000
namespace Lx
open PySem PySem.Spec PyProof.Rows L2 Evl Kx
section
variable {P : Program} {w : World} {K : PySem.W.Frag} {mg : Str → Option Value} {base : Heap} {f : Addr} {fd : FuncData}
theorem ok_prt {fR fT fO fB fC : Addr} {fdR fdT fdO fdB fdC : FuncData} (F : Fun K "_law_parts" "_law_parts" sPrt f fd)
    (FR : FnOk P w K mg base CX0 2 fR fdR ["generator", "bound"] spRnd) (mR : mg "_law_random" = some (.ref fR)) (kR : PySem.W.keepIn K (.ref fR) = true) (bR : Binds K fdR ["generator", "bound"] [])
    (FT : FnOk P w K mg base CX0 3 fT fdT ["generator"] spRts) (mT : mg "_law_rights_drawn" = some (.ref fT)) (kT : PySem.W.keepIn K (.ref fT) = true) (bT : Binds K fdT ["generator"] [])
    (FO : FnOk P w K mg base CX0 3 fO fdO ["generator", "rights"] (spOws K)) (mO : mg "_law_owners_drawn" = some (.ref fO)) (kO : PySem.W.keepIn K (.ref fO) = true) (bO : Binds K fdO ["generator", "rights"] [])
    (FB : FnOk P w K mg base CX0 8 fB fdB ["generator", "rights", "names", "deep", "marked", "most"] (spBod K 2)) (mB : mg "_law_body_drawn" = some (.ref fB)) (kB' : PySem.W.keepIn K (.ref fB) = true) (bB : Binds K fdB ["generator", "rights", "names", "deep", "marked", "most"] [])
    (FC : FnOk P w K mg base CX0 4 fC fdC ["body"] (spCnt K 2)) (mC : mg "_law_count" = some (.ref fC)) (kC : PySem.W.keepIn K (.ref fC) = true) (bC : Binds K fdC ["body"] [])
    (mL : mg "len" = none) : FnOk P w K mg base CX0 9 f fd ["generator", "many", "most"] (spPrt K) := by
  refine F.ok scPrt (fun vs H Q E h => ?_) (fun cdv A outer s H vs Q E hr h => ?_)
  · obtain ⟨_, _, _, _, _, rfl, _⟩ := h
    rfl
  · obtain ⟨g, n, G, many, most, rfl, hm1, hm4, hmo, hg, hn, e, n0, q⟩ := h
    have r2 := hr.mono (j := 2) (by omega)
    have r3 := hr.mono (j := 3) (by omega)
    have r4 := hr.mono (j := 4) (by omega)
    refine ⟨_, pss_cons (ps_set (i := 3) scPrt.nd rfl (Or.inl rfl) (pe_call FT r3 rfl mT kT bT .nil pass0 (pa_cons (pv 0) pa_nil)))
      (pss_cons (ps_par (i := 4) (j := 5) (by rfl) scPrt.nd rfl rfl (by decide) rfl rfl (pa_cons (pe_call FO r3 rfl mO kO bO .nil pass0 (pa_cons (pv 0) (pa_cons (pv 3) pa_nil)))
          (pa_cons (pe_slice sl_list (pe_lst (pa_cons pe_str (pa_cons pe_str (pa_cons pe_str (pa_cons pe_str pa_nil))))) po_none (po_some (pv 1))) pa_nil)) (by rfl))
      (pss_cons (ps_set (i := 6) scPrt.nd rfl (Or.inl rfl) (pe_lst pa_nil))
      (pss_cons (ps_for PassesOwn.never rfl (pi_list (pv 5)) (pg_name (i := 7) scPrt.nd rfl (Or.inl rfl))
        (pss_cons (ps_set (i := 8) scPrt.nd rfl (Or.inl rfl) (pe_call FB hr rfl mB kB' bB .nil pass0 (pa_cons (pv 0) (pa_cons (pv 3) (pa_cons (pe_op op_cat (pe_slice sl_list (pv 5) (po_some pe_int) po_none) (pe_slice sl_list (pv 5) po_none (po_some pe_int))) (pa_cons pe_int (pa_cons pe_bl (pa_cons (pv 2) pa_nil))))))))
        (pss_cons (ps_while PassesOwn.never (pt_cmpR op_gt (pe_call FC r4 rfl mC kC bC .nil pass0 (pa_cons (pv 8) pa_nil)) pe_int (nomark _)) (pss_one (ps_set (i := 8) scPrt.nd rfl (Or.inl rfl) (pe_slice sl_list (pv 8) po_none (po_some (pe_un un_neg pe_int))))))
        (pss_one (ps_expr (pe_bm PySem.F.plainAttrs_list PySem.F.slot_list_append PySem.F.type_list_append mt_append (pv 6) (pa_cons (pe_tup (pa_cons (pv 7) (pa_cons (pe_ix ix_tup (pe_ix ix_list (pv 4) (pe_call FR r2 rfl mR kR bR .nil pass0 (pa_cons (pv 0) (pa_cons (pe_callB call_len_seq (by rfl) mL PySem.boot_len (pa_cons (pv 4) pa_nil)) pa_nil))) (fun _ _ => rfl)) pe_int (fun _ _ => rfl)) (pa_cons (pv 8) pa_nil)))) pa_nil)))))))
      (pss_one (ps_ret (pe_lst (pa_cons (pv 3) (pa_cons (pv 4) (pa_cons (pv 6) pa_nil)))))))))
      , ?_⟩
    have e39 : (2 : Nat) ^ 39 = 549755813888 := by decide
    have e40 : (2 : Nat) ^ 40 = 1099511627776 := by decide
    have e49 : (2 : Nat) ^ 49 = 562949953421312 := by decide
    have e50 : (2 : Nat) ^ 50 = 1125899906842624 := by decide
    have e3z : (5000 : Nat) < sizeLine := by decide
    have k0 := KS.start e hg n0
    refine ⟨_, rfl, rts_k k0 (by omega) fun pr G1 H1 c k1 x1 h1 hc => ?_⟩
    have rl : (rights3.take (c + 1)).length = c + 1 := by
      rw [List.length_take]
      have : rights3.length = 3 := rfl
      omega
    refine ⟨_, rfl, _, rfl, ows_k k1 (by omega) h1 (by omega) ((List.take_sublist _ _).nodup (by decide)) fun po G2 H2 os k2 x2 ho hos => ?_⟩
    refine ⟨by show 4 ≤ sizeLine; decide, fun p4 np4 => ⟨_, rfl, _, rfl, p4, _, rfl, SqL.of upd_same, fun pn npn => ⟨_, _, rfl, ?_⟩⟩⟩
    have hcut : cutV [V.str "main", V.str "f", V.str "g", V.str "h"] none (some (many : Int)) = (names4.take many).map V.str := by
      match many, hm1, hm4 with
      | 1, _, _ => rfl
      | 2, _, _ => rfl
      | 3, _, _ => rfl
      | 4, _, _ => rfl
    have hc1 : cutV ((names4.take many).map V.str) (some 1) none = ((names4.take many).drop 1).map V.str := by
      match many, hm1, hm4 with
      | 1, _, _ => rfl
      | 2, _, _ => rfl
      | 3, _, _ => rfl
      | 4, _, _ => rfl
    have hc2 : cutV ((names4.take many).map V.str) none (some 1) = ((names4.take many).take 1).map V.str := by
      match many, hm1, hm4 with
      | 1, _, _ => rfl
      | 2, _, _ => rfl
      | 3, _, _ => rfl
      | 4, _, _ => rfl
    have hn4 : ((names4.take many).map V.str).length = many := by
      rw [List.length_map, List.length_take]
      have : names4.length = 4 := rfl
      omega
    have hl2 : ((names4.take many).drop 1 ++ (names4.take many).take 1).length = many := by
      rw [List.length_append, List.length_drop, List.length_take (i := 1)]
      rw [List.length_map] at hn4
      omega
    have rn : RN (rights3.take (c + 1)) ((names4.take many).drop 1 ++ (names4.take many).take 1) :=
      ⟨(fun z => by rw [z] at rl; cases rl), (by omega), (fun z => by rw [z] at hl2; simp only [List.length_nil] at hl2; omega), (by omega)⟩
    have hin : ∀ x ∈ (names4.take many).drop 1 ++ (names4.take many).take 1, x ∈ names4.take many := fun x hx => by
      rcases List.mem_append.mp hx with hx | hx
      · exact List.mem_of_mem_drop hx
      · exact List.mem_of_mem_take hx
    rw [hcut] at *
    have k3 := (k2.own np4).new (o := .lst ((names4.take many).map V.str)) npn
    refine ⟨by show 0 ≤ sizeLine; decide, fun pf npf => ?_⟩
    have fg : pf ≠ g := k3.ne npf
    have k4 := k3.own (o := .lst []) npf
    have gf := k3.gnone npf
    have g3n : (upd G2 pn (.lst ((names4.take many).map V.str))) pn = some (.lst ((names4.take many).map V.str)) := upd_same
    have g3 : Ex G2 (upd G2 pn (.lst ((names4.take many).map V.str))) := Ex.new ((k2.own np4).gnone npn)
    have g3r : (upd G2 pn (.lst ((names4.take many).map V.str))) pr = some (.lst ((rights3.take (c + 1)).map V.str)) := g3 _ _ (x2.gg _ _ h1)
    have g3o : Dq K (upd G2 pn (.lst ((names4.take many).map V.str))) (.ref po) (.list (os.map ownD)) := ho.mono (same_ex g3)
    generalize (upd G2 pn (.lst ((names4.take many).map V.str))) = G3 at *
    have g3o' := g3o
    cases g3o with
    | @lst _ oxs _ hpo hox =>
    have hol : oxs.length = os.length := by
      have := dqa_len hox
      rw [List.length_map] at this
      exact this
    refine ⟨_, rfl, pn, rfl, ⟨_, SqL.of (k4.x.gh _ _ g3n)⟩, ?_⟩
    refine for_list (K := K) (a := pn) (xs := (names4.take many).map V.str) (fun i σ H' => ∃ (vs : List V) (fs : List Fn) (G' : Hp) (a b : Option V), σ = [some (.ref g), some (.int many), some (.int most), some (.ref pr), some (.ref po), some (.ref pn), some (.ref pf), a, b] ∧
        KS g G H G' H' (n + 42 + i * 756) ∧ Ex G3 G' ∧ H' pf = some (.lst vs) ∧ G' pf = none ∧ DqA K G' vs (fs.map fnD) ∧ fs.map (·.1) = (names4.take many).take i ∧ ∀ f ∈ fs, fnOk (rights3.take (c + 1)) os (names4.take many) f) ?_
      (fun i σ H' _ ⟨_, _, _, _, _, _, k, x, _⟩ => SqL.of (k.x.gh _ _ (x _ _ g3n))) ?_ ?_
    · exact ⟨[], [], G3, none, none, rfl, k4, Ex.refl _, upd_same, gf, .nil, rfl, fun f hf => by cases hf⟩
    · rintro i x σ H' hx ⟨vs, fs, G', a, b, rfl, k, x3, hf, gf', hd, hfs, hok⟩
      have hi : i < many := by
        have := (List.getElem?_eq_some_iff.mp hx).1
        omega
      obtain ⟨nm, hnm, rfl⟩ : ∃ nm, (names4.take many)[i]? = some nm ∧ x = .str nm := by
        rw [List.getElem?_map] at hx
        cases hz : (names4.take many)[i]? with
        | none => rw [hz] at hx; cases hx
        | some nm => rw [hz] at hx; exact ⟨nm, rfl, (Option.some.inj hx).symm⟩
      have hi4 : i * 756 ≤ 4 * 756 := Nat.mul_le_mul_right _ (by omega)
      have g4n := x3 _ _ g3n
      refine ⟨_, rfl, _, rfl, _, rfl, _, rfl, pn, _, rfl, SqL.of (k.x.gh _ _ g4n), fun pa npa => ⟨_, rfl, _, rfl, pn, (names4.take many).map V.str, rfl, SqL.of ?_, fun pb npb => ?_⟩⟩
      · rw [upd_ne (ne_of_none (k.x.gh _ _ g4n) npa)]
        exact k.x.gh _ _ g4n
      rw [hc1] at npb
      rw [hc1, hc2]
      refine ⟨pa, pb, _, _, rfl, rfl, by rw [upd_ne (ne_of_none upd_same npb)]; exact upd_same, upd_same, ?_, fun pc npc => ?_⟩
      · rw [List.length_map, List.length_map, ← List.length_append, hl2]
        omega
      rw [← List.map_append]
      have k5 := ((k.own npa).own npb).new (o := .lst (((names4.take many).drop 1 ++ (names4.take many).take 1).map V.str)) npc
      have gc := (((k.own npa).own npb).gnone npc)
      have g5 : Ex G' (upd G' pc (.lst (((names4.take many).drop 1 ++ (names4.take many).take 1).map V.str))) := Ex.new gc
      have hfa : pf ≠ pa := ne_of_none hf npa
      have hfb : pf ≠ pb := ne_of_none (by rw [upd_ne hfa]; exact hf) npb
      have hfc : pf ≠ pc := ne_of_none (by rw [upd_ne hfb, upd_ne hfa]; exact hf) npc
      refine ⟨_, rfl, bod_k (most := most) (d := 2) k5 (by omega) (by decide) (by decide) hmo (g5 _ _ (x3 _ _ g3r)) upd_same rn fun p6 G6 H6 b6 k6 x6 hb ok6 nd6 len6 cnt6 => ?_⟩
      have ck : kB 2 most ≤ 754 := by
        have : most * kS 2 ≤ 4 * kS 2 := Nat.mul_le_mul_right _ hmo
        have e : kS 2 = 188 := rfl
        simp only [kB]
        omega
      have cc : cntB b6 ≤ 84 := by
        have : most * cS 2 ≤ 4 * cS 2 := Nat.mul_le_mul_right _ hmo
        have e : cS 2 = 21 := rfl
        omega
      have hf6 : H6 pf = some (.lst vs) := x6.hh _ _ fg (by rw [upd_ne hfc, upd_ne hfb, upd_ne hfa]; exact hf)
      have gf6 : G6 pf = none := (x6.ag _ _ (show _ = some (HO.lst vs) by rw [upd_ne hfc, upd_ne hfb, upd_ne hfa]; exact hf)).trans (by rw [upd_ne hfc]; exact gf')
      have x46 : Ex G' G6 := g5.trans x6.gg
      refine while_by (fun σ H7 => ∃ (p7 : Addr) (G7 : Hp) (b7 : List Stp), σ = [some (.ref g), some (.int many), some (.int most), some (.ref pr), some (.ref po), some (.ref pn), some (.ref pf), some (.str nm), some (.ref p7)] ∧
          KS g G H G7 H7 (n + 42 + i * 756 + 754) ∧ Ex G' G7 ∧ H7 pf = some (.lst vs) ∧ G7 pf = none ∧ Dq K G7 (.ref p7) (.list (bodyD b7)) ∧ okB (rights3.take (c + 1)) ((names4.take many).drop 1 ++ (names4.take many).take 1) false b7 = true ∧ nstB b7 ≤ 2)
        (fun σ H7 => match σ[8]? with
          | some (some (V.ref p)) => match H7 p with
            | some (HO.lst xs) => xs.length
            | _ => 0
          | _ => 0) ?_ ?_ ?_
      · exact ⟨p6, G6, b6, rfl, k6.le (by omega), x46, hf6, gf6, hb, ok6, nd6⟩
      · rintro σ H7 ⟨p7, G7, b7, rfl, k7, x7, hf7, gf7, hb7, ok7, nd7⟩
        cases hb7 with
        | @lst _ xs7 _ hp7 hx7 =>
        have hxl : xs7.length = b7.length := by
          have := dqa_len hx7
          rw [bodyD_map, List.length_map] at this
          exact this
        refine ⟨_, rfl, p7, G7, b7, rfl, k7.x.gh, .lst hp7 hx7, nd7, fun H8 e8 => ⟨_, _, rfl, rfl, _, rfl, ite2 (fun hgt => ?_) (fun hgt => ?_)⟩⟩
        · refine ⟨_, rfl, _, rfl, _, rfl, p7, xs7, rfl, SqL.of (e8 _ _ (k7.x.gh _ _ hp7)), fun p9 np9 => ?_⟩
          have k8 := k7.step ⟨e8, Ex.refl _, k7.x.gh.trans e8, fun _ _ _ => rfl⟩
          have hn7 : xs7 ≠ [] := fun z => by
            rw [z] at hxl
            have hb0 : b7 = [] := List.eq_nil_of_length_eq_zero hxl.symm
            rw [hb0] at hgt
            simp only [cntB, decide_eq_true_eq] at hgt
            exact absurd hgt (by decide)
          have hp0 := List.length_pos_iff.mpr hn7
          have g9 := k8.gnone np9
          have hcl : cutV xs7 none (some (-1)) = xs7.take (xs7.length - 1) := cut_last xs7
          refine ⟨⟨p9, upd G7 p9 (.lst (cutV xs7 none (some (-1)))), b7.take (xs7.length - 1), rfl, k8.new np9, x7.trans (Ex.new g9), ?_, ?_, ?_, okB_take ok7, Nat.le_trans nstB_take nd7⟩, ?_⟩
          · rw [upd_ne (ne_of_none (e8 _ _ hf7) np9)]
            exact e8 _ _ hf7
          · rw [upd_ne (ne_of_none (e8 _ _ hf7) np9)]
            exact gf7
          · refine .lst upd_same ?_
            rw [hcl, bodyD_map, List.map_take, ← bodyD_map]
            exact dqa_take _ (hx7.mono (same_ex (Ex.new g9)))
          · show (match (upd H8 p9 (.lst (cutV xs7 none (some (-1))))) p9 with | some (.lst xs) => xs.length | _ => 0) < (match H7 p7 with | some (.lst xs) => xs.length | _ => 0)
            rw [upd_same, k7.x.gh _ _ hp7]
            show (cutV xs7 none (some (-1))).length < xs7.length
            rw [hcl, List.length_take]
            omega
        · have hcn : cntB b7 ≤ 12 := by
            have : ¬ ((12 : Int) < (cntB b7 : Int)) := fun z => hgt (decide_eq_true z)
            omega
          have k8 := k7.step ⟨e8, Ex.refl _, k7.x.gh.trans e8, fun _ _ _ => rfl⟩
          have hpo7 := k8.x.gh _ _ (x7 _ _ (x3 _ _ hpo))
          have hos0 : 0 < os.length := List.length_pos_iff.mpr hos.ne
          refine ⟨_, rfl, .inl ⟨rfl, _, SqL.of (e8 _ _ hf7)⟩, _, rfl, _, rfl, _, rfl, _, rfl, po, oxs, rfl, .inl (SqL.of hpo7), rnd_k k8 (by omega) (by have := hos.le; omega) fun ri H9 hri s9 k9 => ?_⟩
          rw [hol] at hri
          obtain ⟨io, hio, rfl⟩ : ∃ z : Nat, z < os.length ∧ ri = (z : Int) := ⟨ri.toNat, by omega, by omega⟩
          obtain ⟨ov, hov⟩ : ∃ ov, oxs[io]? = some ov := ⟨_, List.getElem?_eq_getElem (by omega)⟩
          obtain ⟨od, hod, hovd⟩ := dqa_get hox hov
          rw [List.getElem?_map] at hod
          obtain ⟨ow, how, rfl⟩ : ∃ ow, os[io]? = some ow ∧ od = ownD ow := by
            cases hz : os[io]? with
            | none => rw [hz] at hod; cases hod
            | some ow => rw [hz] at hod; exact ⟨ow, rfl, (Option.some.inj hod).symm⟩
          have x9 : Ex G3 G7 := x3.trans x7
          obtain ⟨ta, ys, rfl, hT, hy⟩ : ∃ ta ys, ov = .ref ta ∧ SqT K G3 ta ys ∧ DqA K G3 ys [.str ow.1, strsD ow.2] := by
            cases hovd with
            | tup h1 h2 => exact ⟨_, _, rfl, h1, h2⟩
          obtain ⟨yr, rfl⟩ : ∃ yr, ys = .str ow.1 :: yr := by
            cases hy with
            | cons h1 h2 =>
              cases h1
              exact ⟨_, rfl⟩
          have hf9 : H9 pf = some (.lst vs) := by
            rw [s9 _ fg]
            exact e8 _ _ hf7
          have hvl : vs.length = i := by
            have e1 := dqa_len hd
            have e2 := congrArg List.length hfs
            rw [List.length_map, List.length_take] at e2
            rw [List.length_map] at e1 hn4
            omega
          refine ⟨po, _, _, .ref ta, rfl, rfl, SqL.of (k9.x.gh _ _ (x9 _ _ hpo)), atI_nat hov, ta, _, 0, .str ow.1, rfl, rfl, sqt_ex (same_ex (x9.trans k9.x.gh)) hT, atI_nat (j := 0) rfl, _, rfl, by show 3 ≤ sizeLine; decide, fun tp ntp => ?_⟩
          have ftp : pf ≠ tp := ne_of_none hf9 ntp
          have gtp := k9.gnone ntp
          have xt : Ex G' (upd G7 tp (.tup [.str nm, .str ow.1, .ref p7])) := x7.trans (Ex.new gtp)
          have gft : (upd G7 tp (.tup [.str nm, .str ow.1, .ref p7])) pf = none := by
            rw [upd_ne ftp]
            exact gf7
          refine ⟨pf, vs, .ref tp, rfl, rfl, by rw [upd_ne ftp]; exact hf9, by omega, vs ++ [.ref tp], fs ++ [(nm, ow.1, b7)], _, _, _, rfl, (((k9.new ntp).put (k3.hnone npf) gft fg).le ?_), x3.trans xt, upd_same, gft, ?_, ?_, ?_⟩
          · have : (i + 1) * 756 = i * 756 + 756 := Nat.succ_mul ..
            omega
          · rw [List.map_append]
            exact dqa_app (hd.mono (same_ex xt)) (.tup (.inl (.inl upd_same)) (.cons (.str _) (.cons (.str _) (.cons (.lst (Ex.new gtp _ _ hp7) (hx7.mono (same_ex (Ex.new gtp)))) .nil))))
          · rw [List.map_append, hfs, List.take_succ, hnm]
            rfl
          · intro f hf
            rcases List.mem_append.mp hf with hf | hf
            · exact hok f hf
            · rw [List.mem_singleton.mp hf]
              exact ⟨List.mem_map.mpr ⟨ow, List.mem_of_getElem? how, rfl⟩, okB_mono (fun _ z => z) hin ok7, nd7, hcn⟩
      · intro σ H8 Q1 Q2 h12 h
        obtain ⟨v, hv, p7, G7, b7, e1, e2, e3, e4, q5⟩ := h
        refine ⟨v, hv, p7, G7, b7, e1, e2, e3, e4, fun H9 e9 => ?_⟩
        obtain ⟨i1, j1, z1, z2, k1, z3, q6⟩ := q5 H9 e9
        exact ⟨i1, j1, z1, z2, k1, z3, h12 _ _ q6⟩
    · rintro σ H' ⟨vs, fs, G', a, b, rfl, k, x3, hf, gf', hd, hfs, hok⟩
      rw [hn4] at k hfs
      rw [List.take_of_length_le (by rw [List.length_map] at hn4; omega)] at hfs
      have kf := k.freeze (k3.hnone npf) gf' fg hf
      have x4 : Ex G3 (upd G' pf (.lst vs)) := x3.trans (Ex.new gf')
      refine ⟨_, rfl, _, rfl, _, rfl, by show 3 ≤ sizeLine; decide, fun p np => ?_⟩
      have xp : Ex (upd G' pf (.lst vs)) (upd (upd G' pf (.lst vs)) p (.lst [.ref pr, .ref po, .ref pf])) := Ex.new (kf.gnone np)
      refine q p _ _ ⟨rights3.take (c + 1), os, fs⟩ ((kf.new np).le (by omega)) (.lst upd_same (.cons (dq_strs (xp _ _ (x4 _ _ g3r))) (.cons (g3o'.mono (same_ex (x4.trans xp))) (.cons (.lst (xp _ _ upd_same) (hd.mono (same_ex ((Ex.new gf').trans xp)))) .nil)))) ⟨⟨c, hc, rfl⟩, hos, hfs, hok⟩
end
end Lx

set_option Elab.async false
set_option maxRecDepth 100000
set_option linter.all false
set_option maxHeartbeats 4000000
namespace Lx
open PySem PySem.Spec PyProof.Rows L2 Evl Kx
def sInit (x : Nat) : Stmt := inClass (top x) 0
open Dl hiding Stp Spec
theorem all_mk {P : Program} {w : World} {K : PySem.W.Frag} {h : Heap} {mg : Str → Option Value} {fa : Addr} (X : K.In h) (G : h.Ns mainGlobals mg) (hfa : mg "law" = some (.ref fa)) (c : SaysX faH fnH chkH K) :
    ∃ fd : FuncData, (∀ (s : Shared) (v : Value), BindsTo s fd ⟨[v], []⟩ [("script", v)]) ∧ ∀ base : Heap, K.In base → base.Ns mainGlobals mg → GnOk P w K mg base CX0 65 fa fd ["script"] ((Dl.spD K 1 (spLaw K))) := by
  have hc : chkH K = true := c.c
  unfold chkH at hc
  simp only [Bool.and_eq_true] at hc
  obtain ⟨hsys, q_InvalidList, q_InvalidItem, q_InvalidProgram, hx, c_Program, e_Program, c_Reader, xself⟩ := hc
  have e := hfa.symm.trans (He.glo_ok X G (c.d.fact 58))
  cases e
  have n_len := He.free_ok X G (c.d.fact 0)
  have n_int := He.free_ok X G (c.d.fact 1)
  have n_max := He.free_ok X G (c.d.fact 2)
  have n_min := He.free_ok X G (c.d.fact 3)
  have n_range := He.free_ok X G (c.d.fact 4)
  have n_isinstance := He.free_ok X G (c.d.fact 5)
  have n_repr := He.free_ok X G (c.d.fact 6)
  have n_list := He.free_ok X G (c.d.fact 7)
  have n_tuple := He.free_ok X G (c.d.fact 8)
  have n_sum := He.free_ok X G (c.d.fact 9)
  have n_str := He.free_ok X G (c.d.fact 10)
  have n_all := He.free_ok X G (c.d.fact 11)
  have n_bool := He.free_ok X G (c.d.fact 12)
  obtain ⟨t_LONGEST_NAME, m_LONGEST_NAME⟩ := He.int_ok X G (c.d.fact 13)
  obtain ⟨t_MOST_RIGHTS, m_MOST_RIGHTS⟩ := He.int_ok X G (c.d.fact 14)
  obtain ⟨t_MOST_OWNERS, m_MOST_OWNERS⟩ := He.int_ok X G (c.d.fact 15)
  obtain ⟨t_MOST_FUNCTIONS, m_MOST_FUNCTIONS⟩ := He.int_ok X G (c.d.fact 16)
  obtain ⟨t_MOST_OPEN, m_MOST_OPEN⟩ := He.int_ok X G (c.d.fact 17)
  obtain ⟨t_LETTERS, m_LETTERS⟩ := He.str_ok X G (c.d.fact 18)
  obtain ⟨fd0, D0⟩ := c.d.def_ 0
  have G0 := funD_fun (st := sNm) D0
  have gk0 := G0.kp
  have b0 := G0.binds (ps := ["value"]) fun _ _ _ _ _ _ us hl => match us, hl with | [_], _ => rfl
  have m0 := (He.glo_ok X G (c.d.fact 19))
  obtain ⟨fd1, D1⟩ := c.d.def_ 1
  have G1 := funD_fun (st := sTp) D1
  have gk1 := G1.kp
  have b1 := G1.binds (ps := ["value", "size"]) fun _ _ _ _ _ _ us hl => match us, hl with | [_, _], _ => rfl
  have m1 := (He.glo_ok X G (c.d.fact 20))
  obtain ⟨fd2, D2⟩ := c.d.def_ 2
  have G2 := funD_fun (st := sSt) D2
  have gk2 := G2.kp
  have b2 := G2.binds (ps := ["value", "names", "rights", "marked"]) fun _ _ _ _ _ _ us hl => match us, hl with | [_, _, _, _], _ => rfl
  have m2 := (He.glo_ok X G (c.d.fact 21))
  obtain ⟨fd3, D3⟩ := c.d.def_ 3
  have G3 := funD_fun (st := sNs) D3
  have gk3 := G3.kp
  have b3 := G3.binds (ps := ["value", "names", "rights", "marked"]) fun _ _ _ _ _ _ us hl => match us, hl with | [_, _, _, _], _ => rfl
  have m3 := (He.glo_ok X G (c.d.fact 22))
  obtain ⟨fd4, D4⟩ := c.d.def_ 4
  have G4 := funD_fun (st := sCb) D4
  have gk4 := G4.kp
  have b4 := G4.binds (ps := ["body"]) fun _ _ _ _ _ _ us hl => match us, hl with | [_], _ => rfl
  have m4 := (He.glo_ok X G (c.d.fact 23))
  obtain ⟨fd5, D5⟩ := c.d.def_ 5
  have G5 := funD_fun (st := sCs) D5
  have gk5 := G5.kp
  have b5 := G5.binds (ps := ["step"]) fun _ _ _ _ _ _ us hl => match us, hl with | [_], _ => rfl
  have m5 := (He.glo_ok X G (c.d.fact 24))
  obtain ⟨fd6, D6⟩ := c.d.def_ 6
  have G6 := funD_fun (st := sWi) D6
  have gk6 := G6.kp
  have b6 := G6.binds (ps := ["step", "change"]) fun _ _ _ _ _ _ us hl => match us, hl with | [_, _], _ => rfl
  have m6 := (He.glo_ok X G (c.d.fact 25))
  obtain ⟨fd7, D7⟩ := c.d.def_ 7
  have G7 := funD_fun (st := sSz) D7
  have gk7 := G7.kp
  have b7 := G7.binds (ps := ["value", "most"]) fun _ _ _ _ _ _ us hl => match us, hl with | [_, _], _ => rfl
  have m7 := (He.glo_ok X G (c.d.fact 26))
  obtain ⟨fd8, D8⟩ := c.d.def_ 8
  have G8 := funD_fun (st := sCkR) D8
  have gk8 := G8.kp
  have b8 := G8.binds (ps := ["rights"]) fun _ _ _ _ _ _ us hl => match us, hl with | [_], _ => rfl
  have m8 := (He.glo_ok X G (c.d.fact 27))
  obtain ⟨fd9, D9⟩ := c.d.def_ 9
  have G9 := funD_fun (st := sCkO) D9
  have gk9 := G9.kp
  have b9 := G9.binds (ps := ["owners", "rights"]) fun _ _ _ _ _ _ us hl => match us, hl with | [_, _], _ => rfl
  have m9 := (He.glo_ok X G (c.d.fact 28))
  obtain ⟨fd10, D10⟩ := c.d.def_ 10
  have G10 := funD_fun (st := sCkF) D10
  have gk10 := G10.kp
  have b10 := G10.binds (ps := ["functions", "owners", "rights"]) fun _ _ _ _ _ _ us hl => match us, hl with | [_, _, _], _ => rfl
  have m10 := (He.glo_ok X G (c.d.fact 29))
  obtain ⟨fd11, D11⟩ := c.d.def_ 11
  have G11 := funD_fun (st := sOwn) D11
  have gk11 := G11.kp
  have b11 := G11.binds (ps := ["value", "rights"]) fun _ _ _ _ _ _ us hl => match us, hl with | [_, _], _ => rfl
  have m11 := (He.glo_ok X G (c.d.fact 30))
  obtain ⟨fd12, D12⟩ := c.d.def_ 12
  have G12 := funD_fun (st := sCho) D12
  have gk12 := G12.kp
  have b12 := G12.binds (ps := ["value", "rights"]) fun _ _ _ _ _ _ us hl => match us, hl with | [_, _], _ => rfl
  have m12 := (He.glo_ok X G (c.d.fact 31))
  obtain ⟨fd13, D13⟩ := c.d.def_ 13
  have G13 := funD_fun (st := sFun) D13
  have gk13 := G13.kp
  have b13 := G13.binds (ps := ["value", "owner_names", "names", "rights"]) fun _ _ _ _ _ _ us hl => match us, hl with | [_, _, _, _], _ => rfl
  have m13 := (He.glo_ok X G (c.d.fact 32))
  obtain ⟨fd14, D14⟩ := c.d.def_ 14
  have G14 := funD_fun (st := sCpO) D14
  have gk14 := G14.kp
  have b14 := G14.binds (ps := ["owners"]) fun _ _ _ _ _ _ us hl => match us, hl with | [_], _ => rfl
  have m14 := (He.glo_ok X G (c.d.fact 33))
  obtain ⟨fd15, D15⟩ := c.d.def_ 15
  have G15 := funD_fun (st := sCpF) D15
  have gk15 := G15.kp
  have b15 := G15.binds (ps := ["functions"]) fun _ _ _ _ _ _ us hl => match us, hl with | [_], _ => rfl
  have m15 := (He.glo_ok X G (c.d.fact 34))
  obtain ⟨fd16, D16⟩ := c.d.def_ 16
  have G16 := funD_fun (st := sNp) D16
  have gk16 := G16.kp
  have b16 := G16.binds (ps := ["value"]) fun _ _ _ _ _ _ us hl => match us, hl with | [_], _ => rfl
  have m16 := (He.glo_ok X G (c.d.fact 35))
  obtain ⟨fd17, D17⟩ := c.d.def_ 17
  have G17 := funD_fun (st := sCell) D17
  have gk17 := G17.kp
  have b17 := G17.binds (ps := ["script", "index"]) fun _ _ _ _ _ _ us hl => match us, hl with | [_, _], _ => rfl
  have m17 := (He.glo_ok X G (c.d.fact 36))
  obtain ⟨fd18, D18⟩ := c.d.def_ 18
  have G18 := funD_fun (st := sHash) D18
  have gk18 := G18.kp
  have b18 := G18.binds (ps := ["seed", "index"]) fun _ _ _ _ _ _ us hl => match us, hl with | [_, _], _ => rfl
  have m18 := (He.glo_ok X G (c.d.fact 37))
  obtain ⟨fd19, D19⟩ := c.d.def_ 19
  have G19 := funD_fun (st := sGen) D19
  have gk19 := G19.kp
  have b19 := G19.binds (ps := ["script", "index"]) fun _ _ _ _ _ _ us hl => match us, hl with | [_, _], _ => rfl
  have m19 := (He.glo_ok X G (c.d.fact 38))
  obtain ⟨fd20, D20⟩ := c.d.def_ 20
  have G20 := funD_fun (st := sRnd) D20
  have gk20 := G20.kp
  have b20 := G20.binds (ps := ["generator", "bound"]) fun _ _ _ _ _ _ us hl => match us, hl with | [_, _], _ => rfl
  have m20 := (He.glo_ok X G (c.d.fact 39))
  obtain ⟨fd21, D21⟩ := c.d.def_ 21
  have G21 := funD_fun (st := sRts) D21
  have gk21 := G21.kp
  have b21 := G21.binds (ps := ["generator"]) fun _ _ _ _ _ _ us hl => match us, hl with | [_], _ => rfl
  have m21 := (He.glo_ok X G (c.d.fact 40))
  obtain ⟨fd22, D22⟩ := c.d.def_ 22
  have G22 := funD_fun (st := sOws) D22
  have gk22 := G22.kp
  have b22 := G22.binds (ps := ["generator", "rights"]) fun _ _ _ _ _ _ us hl => match us, hl with | [_, _], _ => rfl
  have m22 := (He.glo_ok X G (c.d.fact 41))
  obtain ⟨fd23, D23⟩ := c.d.def_ 23
  have G23 := funD_fun (st := sStp) D23
  have gk23 := G23.kp
  have b23 := G23.binds (ps := ["generator", "rights", "names", "deep", "marked"]) fun _ _ _ _ _ _ us hl => match us, hl with | [_, _, _, _, _], _ => rfl
  have m23 := (He.glo_ok X G (c.d.fact 42))
  obtain ⟨fd24, D24⟩ := c.d.def_ 24
  have G24 := funD_fun (st := sBod) D24
  have gk24 := G24.kp
  have b24 := G24.binds (ps := ["generator", "rights", "names", "deep", "marked", "most"]) fun _ _ _ _ _ _ us hl => match us, hl with | [_, _, _, _, _, _], _ => rfl
  have m24 := (He.glo_ok X G (c.d.fact 43))
  obtain ⟨fd25, D25⟩ := c.d.def_ 25
  have G25 := funD_fun (st := sCop) D25
  have gk25 := G25.kp
  have b25 := G25.binds (ps := ["body"]) fun _ _ _ _ _ _ us hl => match us, hl with | [_], _ => rfl
  have m25 := (He.glo_ok X G (c.d.fact 44))
  obtain ⟨fd26, D26⟩ := c.d.def_ 26
  have G26 := funD_fun (st := sPgm) D26
  have gk26 := G26.kp
  have b26 := G26.binds (ps := ["parts"]) fun _ _ _ _ _ _ us hl => match us, hl with | [_], _ => rfl
  have m26 := (He.glo_ok X G (c.d.fact 45))
  obtain ⟨fd27, D27⟩ := c.d.def_ 27
  have G27 := funD_fun (st := sCnt) D27
  have gk27 := G27.kp
  have b27 := G27.binds (ps := ["body"]) fun _ _ _ _ _ _ us hl => match us, hl with | [_], _ => rfl
  have m27 := (He.glo_ok X G (c.d.fact 46))
  obtain ⟨fd28, D28⟩ := c.d.def_ 28
  have G28 := funD_fun (st := sPrt) D28
  have gk28 := G28.kp
  have b28 := G28.binds (ps := ["generator", "many", "most"]) fun _ _ _ _ _ _ us hl => match us, hl with | [_, _, _], _ => rfl
  have m28 := (He.glo_ok X G (c.d.fact 47))
  obtain ⟨fd29, D29⟩ := c.d.def_ 29
  have G29 := funD_fun (st := sBodyTok) D29
  have gk29 := G29.kp
  have b29 := G29.binds (ps := ["body"]) fun _ _ _ _ _ _ us hl => match us, hl with | [_], _ => rfl
  have m29 := (He.glo_ok X G (c.d.fact 48))
  obtain ⟨fd30, D30⟩ := c.d.def_ 30
  have G30 := funD_fun (st := sStepTok) D30
  have gk30 := G30.kp
  have b30 := G30.binds (ps := ["step"]) fun _ _ _ _ _ _ us hl => match us, hl with | [_], _ => rfl
  have m30 := (He.glo_ok X G (c.d.fact 49))
  obtain ⟨fd31, D31⟩ := c.d.def_ 31
  have G31 := funD_fun (st := sTextOf) D31
  have gk31 := G31.kp
  have b31 := G31.binds (ps := ["program"]) fun _ _ _ _ _ _ us hl => match us, hl with | [_], _ => rfl
  have m31 := (He.glo_ok X G (c.d.fact 50))
  obtain ⟨fd32, D32⟩ := c.d.def_ 32
  have G32 := funD_fun (st := sReadPgm) D32
  have gk32 := G32.kp
  have b32 := G32.binds (ps := ["text"]) fun _ _ _ _ _ _ us hl => match us, hl with | [_], _ => rfl
  have m32 := (He.glo_ok X G (c.d.fact 51))
  obtain ⟨fd33, D33⟩ := c.d.def_ 33
  have G33 := funD_fun (st := sTokOf) D33
  have gk33 := G33.kp
  have b33 := G33.binds (ps := ["line"]) fun _ _ _ _ _ _ us hl => match us, hl with | [_], _ => rfl
  have m33 := (He.glo_ok X G (c.d.fact 52))
  obtain ⟨fd34, D34⟩ := c.d.def_ 34
  have G34 := funD_fun (st := sLStepTok) D34
  have gk34 := G34.kp
  have b34 := G34.binds (ps := ["step"]) fun _ _ _ _ _ _ us hl => match us, hl with | [_], _ => rfl
  have m34 := (He.glo_ok X G (c.d.fact 53))
  obtain ⟨fd35, D35⟩ := c.d.def_ 35
  have G35 := funD_fun (st := sLBraced) D35
  have gk35 := G35.kp
  have b35 := G35.binds (ps := ["body"]) fun _ _ _ _ _ _ us hl => match us, hl with | [_], _ => rfl
  have m35 := (He.glo_ok X G (c.d.fact 54))
  obtain ⟨fd36, D36⟩ := c.d.def_ 36
  have G36 := funD_fun (st := sLLines) D36
  have gk36 := G36.kp
  have b36 := G36.binds (ps := ["parts"]) fun _ _ _ _ _ _ us hl => match us, hl with | [_], _ => rfl
  have m36 := (He.glo_ok X G (c.d.fact 55))
  obtain ⟨fd37, D37⟩ := c.d.def_ 37
  have G37 := funD_fun (st := sLSpaced) D37
  have gk37 := G37.kp
  have b37 := G37.binds (ps := ["generator", "lines"]) fun _ _ _ _ _ _ us hl => match us, hl with | [_, _], _ => rfl
  have m37 := (He.glo_ok X G (c.d.fact 56))
  obtain ⟨fd38, D38⟩ := c.d.def_ 38
  have G38 := funD_fun (st := sLDeep) D38
  have gk38 := G38.kp
  have b38 := G38.binds (ps := ([] : List Str)) fun _ _ _ _ _ _ us hl => match us, hl with | [], _ => rfl
  have m38 := (He.glo_ok X G (c.d.fact 57))
  obtain ⟨fd39, D39⟩ := c.d.def_ 39
  have G39 := funD_fun (st := sLaw) D39
  have gk39 := G39.kp
  have b39 := G39.binds (ps := ["script"]) fun _ _ _ _ _ _ us hl => match us, hl with | [_], _ => rfl
  have m39 := (He.glo_ok X G (c.d.fact 58))
  obtain ⟨fdD0, FD0⟩ := c.d.def_ 40
  have mD0 := (He.glo_ok X G (c.d.fact 59))
  obtain ⟨fdM0, DM0⟩ := c.d.def_ 41
  have H0 := funD_fun (st := sIni) DM0
  have hb0 := H0.binds (ps := ["self", "rights", "owners", "functions"]) fun _ _ _ _ _ _ us hl => match us, hl with | [_, _, _, _], _ => rfl
  have M0 := He.mkr_ok (x := "Program") (c.d.fact 60)
  obtain ⟨fdM1, DM1⟩ := c.d.def_ 42
  have H1 := funD_fun (st := sRi) DM1
  have hb1 := H1.binds (ps := ["self"]) fun _ _ _ _ _ _ us hl => match us, hl with | [_], _ => rfl
  have M1 := He.meth_ok (x := "Program") (m := "rights") (c.d.fact 61)
  obtain ⟨fdM2, DM2⟩ := c.d.def_ 43
  have H2 := funD_fun (st := sOs) DM2
  have hb2 := H2.binds (ps := ["self"]) fun _ _ _ _ _ _ us hl => match us, hl with | [_], _ => rfl
  have M2 := He.meth_ok (x := "Program") (m := "owners") (c.d.fact 62)
  obtain ⟨fdM3, DM3⟩ := c.d.def_ 44
  have H3 := funD_fun (st := sFs) DM3
  have hb3 := H3.binds (ps := ["self"]) fun _ _ _ _ _ _ us hl => match us, hl with | [_], _ => rfl
  have M3 := He.meth_ok (x := "Program") (m := "functions") (c.d.fact 63)
  obtain ⟨fdM4, DM4⟩ := c.d.def_ 45
  have H4 := funD_fun (st := sEq) DM4
  have hb4 := H4.binds (ps := ["self", "other"]) fun _ _ _ _ _ _ us hl => match us, hl with | [_, _], _ => rfl
  obtain ⟨fdM5, DM5⟩ := c.d.def_ 46
  have H5 := funD_fun (st := sRdInit) DM5
  have hb5 := H5.binds (ps := ["self", "text", "tokens"]) fun _ _ _ _ _ _ us hl => match us, hl with | [_, _, _], _ => rfl
  have M5 := He.mkr_ok (x := "Reader") (c.d.fact 64)
  obtain ⟨fdM6, DM6⟩ := c.d.def_ 47
  have H6 := funD_fun (st := sRdOwner) DM6
  have hb6 := H6.binds (ps := ["self"]) fun _ _ _ _ _ _ us hl => match us, hl with | [_], _ => rfl
  have M6 := He.meth_ok (x := "Reader") (m := "read_owner") (c.d.fact 65)
  obtain ⟨fdM7, DM7⟩ := c.d.def_ 48
  have H7 := funD_fun (st := sRdFunc) DM7
  have hb7 := H7.binds (ps := ["self"]) fun _ _ _ _ _ _ us hl => match us, hl with | [_], _ => rfl
  have M7 := He.meth_ok (x := "Reader") (m := "read_function") (c.d.fact 66)
  obtain ⟨fdM8, DM8⟩ := c.d.def_ 49
  have H8 := funD_fun (st := sRdTok) DM8
  have hb8 := H8.binds (ps := ["self"]) fun _ _ _ _ _ _ us hl => match us, hl with | [_], _ => rfl
  have M8 := He.meth_ok (x := "Reader") (m := "token") (c.d.fact 67)
  obtain ⟨fdM9, DM9⟩ := c.d.def_ 50
  have H9 := funD_fun (st := sRdSkip) DM9
  have hb9 := H9.binds (ps := ["self", "wanted"]) fun _ _ _ _ _ _ us hl => match us, hl with | [_, _], _ => rfl
  have M9 := He.meth_ok (x := "Reader") (m := "skip") (c.d.fact 68)
  obtain ⟨fdM10, DM10⟩ := c.d.def_ 51
  have H10 := funD_fun (st := sRdBody) DM10
  have hb10 := H10.binds (ps := ["self"]) fun _ _ _ _ _ _ us hl => match us, hl with | [_], _ => rfl
  have M10 := He.meth_ok (x := "Reader") (m := "read_body") (c.d.fact 69)
  obtain ⟨fdM11, DM11⟩ := c.d.def_ 52
  have H11 := funD_fun (st := sRdStep) DM11
  have hb11 := H11.binds (ps := ["self", "word"]) fun _ _ _ _ _ _ us hl => match us, hl with | [_, _], _ => rfl
  have M11 := He.meth_ok (x := "Reader") (m := "read_step") (c.d.fact 70)
  obtain ⟨fdX_InvalidList, DX_InvalidList⟩ := c.d.def_ 53
  have X_InvalidList := xcls_of (P := P) (w := w) (st := (sInit 2)) (x := "InvalidList") (f := "value") (He.glo_ok X G (c.d.fact 71)) q_InvalidList DX_InvalidList ⟨rfl, rfl, rfl, by decide +kernel, rfl, by decide +kernel, by decide +kernel⟩ rfl (.inl rfl) (.inl rfl) (by decide) (by decide) (fun _ => rfl)
    (fun _ _ _ _ _ _ _ us its h1 h2 => match us, its, h1, h2 with | [_, _], [_], _, _ => ⟨_, rfl, rfl⟩) (fun _ _ _ _ _ _ _ us its h1 h2 => match us, its, h1, h2 with | [_], [_], _, _ => ⟨_, rfl, rfl⟩)
    (fun _ _ _ _ _ _ _ us its ws h1 h2 h3 => match us, its, ws, h1, h2, h3 with | [_], [_], [_], _, _, _ => ⟨_, rfl, rfl⟩)
  obtain ⟨fdX_InvalidItem, DX_InvalidItem⟩ := c.d.def_ 54
  have X_InvalidItem := xcls_of (P := P) (w := w) (st := (sInit 3)) (x := "InvalidItem") (f := "value") (He.glo_ok X G (c.d.fact 72)) q_InvalidItem DX_InvalidItem ⟨rfl, rfl, rfl, by decide +kernel, rfl, by decide +kernel, by decide +kernel⟩ rfl (.inl rfl) (.inl rfl) (by decide) (by decide) (fun _ => rfl)
    (fun _ _ _ _ _ _ _ us its h1 h2 => match us, its, h1, h2 with | [_, _], [_], _, _ => ⟨_, rfl, rfl⟩) (fun _ _ _ _ _ _ _ us its h1 h2 => match us, its, h1, h2 with | [_], [_], _, _ => ⟨_, rfl, rfl⟩)
    (fun _ _ _ _ _ _ _ us its ws h1 h2 h3 => match us, its, ws, h1, h2, h3 with | [_], [_], [_], _, _, _ => ⟨_, rfl, rfl⟩)
  obtain ⟨fdX_InvalidProgram, DX_InvalidProgram⟩ := c.d.def_ 55
  have X_InvalidProgram := xcls_of (P := P) (w := w) (st := (sInit 4)) (x := "InvalidProgram") (f := "value") (He.glo_ok X G (c.d.fact 73)) q_InvalidProgram DX_InvalidProgram ⟨rfl, rfl, rfl, by decide +kernel, rfl, by decide +kernel, by decide +kernel⟩ rfl (.inl rfl) (.inl rfl) (by decide) (by decide) (fun _ => rfl)
    (fun _ _ _ _ _ _ _ us its h1 h2 => match us, its, h1, h2 with | [_, _], [_], _, _ => ⟨_, rfl, rfl⟩) (fun _ _ _ _ _ _ _ us its h1 h2 => match us, its, h1, h2 with | [_], [_], _, _ => ⟨_, rfl, rfl⟩)
    (fun _ _ _ _ _ _ _ us its ws h1 h2 h3 => match us, its, ws, h1, h2, h3 with | [_], [_], [_], _, _, _ => ⟨_, rfl, rfl⟩)
  have hx := hx
  obtain ⟨hx1, hx2⟩ := hx
  have kit : ∀ i j : Nat, i < 3 → j < 3 → PySem.W.kitOne K (.ref (([He.ga K "InvalidList", He.ga K "InvalidItem", He.ga K "InvalidProgram"] : List Addr).getD i 0)) (.ref (([He.ga K "InvalidList", He.ga K "InvalidItem", He.ga K "InvalidProgram"] : List Addr).getD j 0)) = some (decide (i = j)) := fun i j hi hj => of_decide_eq_true (List.all_eq_true.mp (List.all_eq_true.mp hx2 i (List.mem_range.mpr hi)) j (List.mem_range.mpr hj))
  have u_InvalidList := of_decide_eq_true (List.all_eq_true.mp hx1 (He.ga K "InvalidList") (List.mem_of_getElem? (i := 0) rfl))
  have u_InvalidItem := of_decide_eq_true (List.all_eq_true.mp hx1 (He.ga K "InvalidItem") (List.mem_of_getElem? (i := 1) rfl))
  have u_InvalidProgram := of_decide_eq_true (List.all_eq_true.mp hx1 (He.ga K "InvalidProgram") (List.mem_of_getElem? (i := 2) rfl))
  have mRE := (He.glo_ok X G (c.d.fact 74))
  have B_Program := clsB_ok c_Program
  have mC_Program := (He.glo_ok X G (c.d.fact 75))
  unfold eqB at e_Program
  simp only [Bool.and_eq_true, decide_eq_true_eq] at e_Program
  have O_Program : OwnE K (He.ga K "Program") (He.ma K (He.ga K "Program") "__eq__") := ⟨e_Program.2, e_Program.1.1.1, e_Program.1.1.2, e_Program.1.2⟩
  have B_Reader := clsB_ok c_Reader
  have mC_Reader := (He.glo_ok X G (c.d.fact 76))
  have na_Program__rights := He.noat_ok (c.d.fact 77)
  have na_Program__owners := He.noat_ok (c.d.fact 78)
  have na_Program__functions := He.noat_ok (c.d.fact 79)
  have na_Reader_text := He.noat_ok (c.d.fact 80)
  have na_Reader_tokens := He.noat_ok (c.d.fact 81)
  have na_Reader_at := He.noat_ok (c.d.fact 82)
  have na_Reader_depth := He.noat_ok (c.d.fact 83)
  refine ⟨fd39, fun s v => FunD.bindsA (ps := ["script"]) D39 (fun _ _ _ _ _ _ us hl => match us, hl with | [_], _ => rfl) s [v] rfl, fun base _ _ => ?_⟩
  have bB4 : Binds K fdD0 ["value", "names", "rights", "marked"] [] := by
    obtain ⟨ds, v, b⟩ := FunD.binds1 (ps := ["value", "names", "rights", "marked"]) FD0 4 1 (List.cons_ne_nil _ _) rfl fun _ _ _ _ _ _ _ us its h1 h2 => match us, its, h1, h2 with | [_, _, _, _], [_], _, _ => ⟨_, rfl, rfl⟩
    cases v
    exact b
  have bB3 : Binds K fdD0 ["value", "names", "rights", "marked"] [.bool false] := by
    obtain ⟨ds, v, b⟩ := FunD.binds1 (ps := ["value", "names", "rights", "marked"]) FD0 3 0 (List.cons_ne_nil _ _) rfl fun _ _ _ _ _ _ _ us its h1 h2 => match us, its, h1, h2 with | [_, _, _], [_], _, _ => ⟨_, rfl, rfl⟩
    cases v with
    | cons r rr =>
    cases rr
    cases (show _ = Value.bool false from r)
    exact b
  have BF : FunB K (He.ga K "is_body") fdD0 := FD0
  have bk := FD0.kp
  have mBd := mD0
  have T : PTxt K mg (He.ga K "Program") := ⟨B_Program.cl, na_Program__rights, na_Program__owners, na_Program__functions, mC_Program⟩
  have I : PIsi K (He.ga K "Program") := ⟨B_Program.ha, B_Program.hn, B_Program.ht, B_Program.hm, B_Program.no⟩
  have kCell := ok_cell (P := P) (w := w) (mg := mg) (base := base) G17 n_len
  have kHash := ok_hash (P := P) (w := w) (mg := mg) (base := base) G18 n_int
  have kGen := ok_gen G19 n_int n_max kCell m17 gk17 b17
  have kRnd := ok_rnd G20 n_int n_range kHash m18 gk18 b18
  have kRts := ok_rts G21 kRnd m20 gk20 b20
  have kOws := ok_ows G22 kRnd m20 gk20 b20
  have kBod := ok_drawn G23 G24 kRnd m20 gk20 b20 m24 gk24 b24 m23 gk23 b23 n_len n_range 2
  have kCnt := ok_cnt (P := P) (w := w) (mg := mg) (base := base) G27 m27 gk27 b27 n_sum n_isinstance n_list 2
  have kCop := ok_cop (P := P) (w := w) (mg := mg) (base := base) G25 m25 gk25 b25 n_tuple n_isinstance n_list 7
  have kPrt := ok_prt G28 kRnd m20 gk20 b20 kRts m21 gk21 b21 kOws m22 gk22 b22 kBod m24 gk24 b24 kCnt m27 gk27 b27 n_len
  have kNm := ok_nm (P := P) (w := w) (mg := mg) (base := base) G0 n_len n_isinstance n_str n_all m_LETTERS ⟨_, rfl⟩ m_LONGEST_NAME ⟨_, rfl⟩
  have kTp := ok_tp (P := P) (w := w) (mg := mg) (base := base) G1 n_len n_isinstance n_tuple
  have kBd := ok_bodies (P := P) (w := w) (mg := mg) (base := base) BF G2 G3 mBd bk bB4 m2 gk2 b2 m3 gk3 b3 n_len n_isinstance n_bool n_all n_tuple n_list 18
  have kCb7 := ok_copies (P := P) (w := w) (mg := mg) (base := base) G4 G5 G6 m5 gk5 b5 m6 gk6 b6 n_tuple n_isinstance n_list 7
  have kCb8 := ok_copies (P := P) (w := w) (mg := mg) (base := base) G4 G5 G6 m5 gk5 b5 m6 gk6 b6 n_tuple n_isinstance n_list 8
  have kCho := ok_cho (P := P) (w := w) (mg := mg) (base := base) G12 n_len n_isinstance n_list n_all
  have kOwn := ok_own G11 kTp m1 gk1 b1 kNm m0 gk0 b0 kCho m12 gk12 b12
  have kFun := ok_fun (n := 18) G13 kTp m1 gk1 b1 kNm m0 gk0 b0 kBd mBd bk bB3
  have kSz := ok_sz (base := base) G7 X_InvalidList n_len n_isinstance n_list
  have kCkR := ok_ckR (fI := He.ga K "is_body") (fdI := fdD0) G8 X_InvalidItem kSz m7 gk7 b7 kNm m0 gk0 b0 m_MOST_RIGHTS ⟨_, rfl⟩
  have kCkO := ok_ckO G9 X_InvalidItem kSz m7 gk7 b7 kOwn m11 gk11 b11 m_MOST_OWNERS ⟨_, rfl⟩
  have kCkF := ok_ckF (n := 18) G10 X_InvalidItem kSz m7 gk7 b7 kFun m13 gk13 b13 kTp m1 gk1 b1 kNm m0 gk0 b0 m_MOST_FUNCTIONS ⟨_, rfl⟩
  have kCpO := ok_cpO (P := P) (w := w) (mg := mg) (base := base) G14 n_list
  have kCpF7 := ok_cpF (d := 7) G15 kCb7 m4 gk4 b4
  have kCpF8 := ok_cpF (d := 8) G15 kCb8 m4 gk4 b4
  have kIni := ok_init (n := 18) (d := 7) H0 T (by decide) kCkR m8 gk8 b8 kCkO m9 gk9 b9 kCkF m10 gk10 b10 kCpO m14 gk14 b14 kCpF7 m15 gk15 b15 n_list
  have kRi := ok_ri (P := P) (w := w) (base := base) H1 T n_list
  have kOs := ok_os (P := P) (w := w) (base := base) H2 T kCpO m14 gk14 b14
  have kFs := ok_fs (d := 8) (P := P) (w := w) (base := base) H3 T kCpF8 m15 gk15 b15
  have kEq := ok_eqP (P := P) (w := w) (base := base) H4 T I n_isinstance
  have kPgm := ok_pgm (n := 18) (d := 7) G26 T (by decide) kCop m25 gk25 b25 M0 kIni hb0 n_list
  have kNp := ok_np (base := base) G16 T I X_InvalidProgram n_isinstance
  have hB : Dl.Bi mg := ⟨n_len, n_int, n_str, n_list, n_tuple, n_range, n_max, n_min, n_repr, n_isinstance⟩
  have RT : RdTxt K mg (He.ga K "Reader") := ⟨B_Reader.cl, na_Reader_text, na_Reader_tokens, na_Reader_at, na_Reader_depth, mC_Reader, ⟨_, _, M5, H5, hb5⟩, ⟨_, _, M6, H6, hb6⟩, ⟨_, _, M7, H7, hb7⟩, ⟨_, _, M8, H8, hb8⟩, ⟨_, _, M9, H9, hb9⟩, ⟨_, _, M10, H10, hb10⟩, ⟨_, _, M11, H11, hb11⟩⟩
  have g8 : ∃ u, mg "MOST_OPEN" = some u ∧ RelV (.int 8) u := ⟨_, m_MOST_OPEN, ⟨_, rfl⟩⟩
  have aRnd := Dl.calF (x := "_law_random") (n := 2) (sp := spRndX) kRnd m20 gk20 b20 fun _ _ _ _ => rnd_X
  have aGen := Dl.calF (x := "_law_generator") (n := 2) (sp := spGenX K) kGen m19 gk19 b19 fun _ _ _ _ => gen_X
  have aPrt := Dl.calF (x := "_law_parts") (n := 3) (sp := spPrtX) kPrt m28 gk28 b28 fun _ _ _ _ => prt_X
  have aPgm := Dl.calF (x := "_law_program") (n := 1) (sp := spPgmX K (He.ga K "Program") 18 7) kPgm m26 gk26 b26 fun _ _ _ _ => pgm_X
  have aRi := Dl.metF (m := "rights") (n := 1) (sp := spRiX K (He.ga K "Program")) T.cl M1 kRi hb1 fun _ _ _ _ => ri_X
  have aOs := Dl.metF (m := "owners") (n := 1) (sp := spOsX K (He.ga K "Program")) T.cl M2 kOs hb2 fun _ _ _ _ => os_X
  have aFs := Dl.metF (m := "functions") (n := 1) (sp := spFsX K (He.ga K "Program") 8) T.cl M3 kFs hb3 fun _ _ _ _ => fs_X
  have aNp := Dl.calF (x := "need_program") (n := 1) (sp := spNpX K (He.ga K "Program")) (Dl.FnOk.calm kNp (sp' := Dl.spD K 1 (spNpX K (He.ga K "Program"))) fun _ _ _ _ q => np_X q) m16 gk16 b16 fun _ _ _ _ q => q
  have aMk : MakP P w K mg base 62 (He.ga K "Program") Nice := ⟨18, 7, 61, _, _, _, _, by decide, M0, kIni, hb0, mC_Program, fun q h => h.good⟩
  have aEq : EqP P w K mg base (He.ga K "Program") := ⟨T, I, B_Program.ns, _, _, O_Program, kEq, hb4⟩
  have aTk := cal_tok (P := P) (w := w) (mg := mg) (base := base) ⟨G29, m29, gk29⟩ b29 ⟨G30, m30, gk30⟩ b30 hB 8
  have aBr := cal_braced (P := P) (w := w) (mg := mg) (base := base) ⟨G35, m35, gk35⟩ b35 ⟨G34, m34, gk34⟩ b34 hB 8
  have aLn := cal_lines ⟨_, _, ⟨G36, m36, gk36⟩, b36⟩ aBr
  have aTx := cal_text ⟨_, _, ⟨G31, m31, gk31⟩, b31⟩ aNp aRi aOs aFs aTk
  have aTo := cal_tokOf (P := P) (w := w) (base := base) ⟨_, _, ⟨G33, m33, gk33⟩, b33⟩
  have aRd := cal_read ⟨_, _, ⟨G32, m32, gk32⟩, b32⟩ hB aTo RT g8 aMk
  have aSp := cal_spaced ⟨_, _, ⟨G37, m37, gk37⟩, b37⟩ aRnd hB
  have aXt := calx_text ⟨_, _, ⟨G31, m31, gk31⟩, b31⟩ kNp m16 gk16 b16
  have aDp := cal_deep ⟨_, _, ⟨G38, m38, gk38⟩, b38⟩ hB aLn aRd aPgm aTx aEq
  exact gn_law G39 hB aEq X_InvalidProgram.mgC X_InvalidProgram.e X_InvalidProgram.no (of_decide_eq_true xself) aGen aPrt aRnd aPgm aLn aTx aRd aFs aSp aXt aDp aMk

end Lx

set_option Elab.async false
set_option maxRecDepth 100000
set_option linter.all false
set_option maxHeartbeats 0
open PySem PySem.W PyProof.Rows in
set_option maxRecDepth 100000 in
set_option maxHeartbeats 0 in
theorem PySem.Challenge.cw_callersrights_k70_programs_written_and_r_holds : PySem.Challenge.rw_callersrights_k70_programs_written_and_r.Holds := by
  w_on; o_law
  refine HandSHeadRun.head_imp (r := OpenLaw.row PySem.Challenge.rw_callersrights_k70_programs_written_and_r) (q := Lx.qvH) (H := Lx.hkH) (ob := Lx.obH) (M := 12000) (loose := Lx.nmH) (d := HandSHeadRun.topDef (OpenLaw.row PySem.Challenge.rw_callersrights_k70_programs_written_and_r).prog 58) (kwd := []) Lx.obH_eq Lx.runH
    (by kernel_rfl) (by kernel_rfl) (by kernel_rfl) (by rfl) (by first | assumption | decide +kernel) (by decide +kernel) ⟨rfl, rfl, rfl, rfl, rfl, by decide +kernel⟩ ?hw ?hc
  case hw => w_witness2
  case hc =>
    refine Kx.walk_GE (l := PySem.Challenge.rw_callersrights_k70_programs_written_and_r) (n := 63) (k := 65) (x := "script") (CX := fun _ => L2.CX0) rfl (by decide) (by kernel_rfl) ⟨rfl, by decide, by decide⟩ (by first | rfl | decide +kernel) ?F (fun _ _ _ _ _ z => z)
    intro w mg fa h Y G hmg0
    obtain ⟨K, KX, c⟩ := Y
    have hmg : mg ("law" : PySem.Str) = some (.ref fa) := by
      have e : (HandSHeadRun.topDef (OpenLaw.row PySem.Challenge.rw_callersrights_k70_programs_written_and_r).prog 58).name = ("law" : PySem.Str) := by kernel_rfl
      rw [← e]
      exact hmg0
    obtain ⟨fd, hb, hF⟩ := Lx.all_mk (P := (PySem.Challenge.rw_callersrights_k70_programs_written_and_r).prog) (w := w) KX G hmg c
    have hs : K.lookup sysModules = none := by
      have h1 : Lx.chkH K = true := c.c
      unfold Lx.chkH at h1
      simp only [Bool.and_eq_true] at h1
      exact Option.isNone_iff_eq_none.mp h1.1
    exact ⟨K, fd, Dl.spD K 1 (Lx.spLaw K), KX, hs, hb, fun H a ns hl hbt hS hQ => Lx.law_in hS hQ fun _ => rfl, hF⟩
