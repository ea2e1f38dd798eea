import PyProof.Rows.All
import Wide.All
import OpenK.AllK
import Wide.FinOn
import HandS.ForMost
import HandS.EndBits
import HandS.ExcInit
import HandS.MakeKw
import HandS.IsInst
import KE.KExcIs
import HandS.ExcField
import HandS.ExcIs
import HandS.ExcValue
import HandS.Evl
import HandS.Wide
import HandS.WideBits
import HandS.Defaults
import PySem.Challenge.RW_callersrights_k01_errors
set_option Elab.async false
set_option maxRecDepth 100000
set_option linter.all false
set_option maxHeartbeats 2000000
/-! KitA: a def's promise where no repr is under way around it (guards), and sysModules is held fast. -/
namespace Kx
open PySem PySem.Spec PyProof.Rows L2

/-- a promise that may ask that nothing is being shown around the call -/
structure GnOk (P : Program) (w : World) (K : PySem.W.Frag) (mg : Str → Option Value) (base : Heap)
    (CX : CXT) (k : Nat) (f : Addr) (fd : FuncData) (ps : List Str) (sp : Sp) : Prop where
  len : ∀ vs H Q E, sp vs H Q E → vs.length = ps.length
  run : ∀ (A : Around) (outer : List Env) (s : Shared) (H : Hp) (args : Args) (us : List Value) (vs : List V)
    (Q : VK) (E : XK), A.guards = some [] → Room k A → Env0 P w K mg base A outer s H →
    BindsTo s fd args (ps.zip us) → Vals vs us → sp vs H Q E →
    codeAny (model P w) A (.call (.ref f) args) (CR CX outer P w H s Q E) s

section
variable {P : Program} {w : World} {K : PySem.W.Frag} {mg : Str → Option Value} {base : Heap} {CX : CXT}
  {f : Addr} {fd : FuncData} {ps : List Str} {sp : Sp}
theorem GnOk.of {k : Nat} (F : FnOk P w K mg base CX k f fd ps sp) : GnOk P w K mg base CX k f fd ps sp :=
  ⟨F.len, fun A o s H a us vs Q E _ hr => F.run A o s H a us vs Q E hr⟩
theorem GnOk.mono {j k : Nat} (F : GnOk P w K mg base CX j f fd ps sp) (h : j ≤ k) : GnOk P w K mg base CX k f fd ps sp :=
  ⟨F.len, fun A o s H a us vs Q E hg hr => F.run A o s H a us vs Q E hg (hr.mono h)⟩
theorem deeper_guards {A : Around} {env : Env} (h : A.guards = some []) : (A.deeper env).guards = some [] := h
end

/-- a def by its body, the body knowing the guards -/
theorem gn_of {CX : CXT} {P : Program} {w : World} {K : PySem.W.Frag} {mg : Str → Option Value} {base : Heap}
    {x qual : Str} {st : Stmt} {f : Addr} {fd : FuncData} {N ps : List Str} {k : Nat} {sp : Sp}
    (F : Fun K x qual st f fd) (S : FnScope N ps (defScope st)) (len : ∀ vs H Q E, sp vs H Q E → vs.length = ps.length)
    (hbody : ∀ (cdv : Value) (A : Around) (outer : List Env) (s : Shared) (H : Hp) (vs : List V) (Q : VK) (E : XK),
      A.guards = some [] → Room k (A.deeper (envOfC qual (defScope st) s.heap.objs.size f cdv)) → sp vs H Q E →
      ∃ t, PSs (cxOf CX P w K mg base N qual (defScope st) f cdv A outer s H E) (defBody st) t ∧
        t { nx := fun _ H' => Q .non H', rt := Q } (start N vs) H) :
    GnOk P w K mg base CX (k + 1) f fd ps sp := by
  obtain ⟨oc, od, kV, doc, pm, an, cdv, ct, osl, rfl, lk, hcd⟩ := F.ex
  refine ⟨len, fun A outer s H args us vs Q E hg hr e0 hb r hsp => ?_⟩
  have KX : K.In s.heap := e0.mod.kin.keeps fun b o e => (e0.bs b o e).1
  have lim : s.heap.NoLimit := e0.mod.nolimit.keeps fun b o e => (e0.bs b o e).1
  refine codeAny_call_function hr.depth (KX _ _ lk) rfl S.co S.gen rfl (PySem.W.codeRec_of KX hcd) (hb _ _ _ _ ?_)
  refine wpAny_newFunctionEnv_cells S.kind (fun ⟨n, v⟩ hy => ?_) fun env he s1 x => ?_
  · rcases S.par n (List.of_mem_zip hy).1 with q | q
    · exact Or.inl q
    · exact Or.inr ⟨q, PySem.W.cellsFrom_some _ _ _ (Or.inl q)⟩
  subst he
  refine ⟨lim.keeps x.toInCall.keep, codeAny_func ?_⟩
  obtain ⟨t, ht, hq⟩ := hbody cdv A outer s H vs Q E hg (hr.deeper _) hsp
  have J := inv_start (CX := CX) (E := E) S hr.hd e0 (len _ _ _ _ hsp) r x
  refine wpAny_mono (ht.run [] s1 (start N vs) H _ J hq) (fun fl s' hs => ?_) fun e s' hs => hs
  cases fl with
  | ret u =>
    obtain ⟨v, σ', H', J', rv, q⟩ := hs
    exact ⟨v, H', J'.os, J'.bare, J'.base, J'.hok, rv, q⟩
  | next =>
    obtain ⟨σ', H', J', q⟩ := hs
    exact ⟨V.non, H', J'.os, J'.bare, J'.base, J'.hok, rfl, q⟩
  | brk =>
    obtain ⟨_, _, _, q⟩ := hs
    exact q.elim
  | cont =>
    obtain ⟨_, _, _, q⟩ := hs
    exact q.elim
theorem gn_ok {P : Program} {w : World} {K : PySem.W.Frag} {mg : Str → Option Value} {base : Heap}
    {x qual : Str} {st : Stmt} {f : Addr} {fd : FuncData} {N ps : List Str} {k : Nat} {sp : Sp}
    (F : Fun K x qual st f fd) (S : FnScope N ps (defScope st)) (len : ∀ vs H Q E, sp vs H Q E → vs.length = ps.length)
    (hbody : ∀ (cdv : Value) (A : Around) (outer : List Env) (s : Shared) (H : Hp) (vs : List V) (Q : VK) (E : XK),
      A.guards = some [] → Room k (A.deeper (envOfC qual (defScope st) s.heap.objs.size f cdv)) → sp vs H Q E →
      ∃ t, PSs (cxOf CX0 P w K mg base N qual (defScope st) f cdv A outer s H E).nox (defBody st) t ∧
        t { nx := fun _ H' => Q .non H', rt := Q } (start N vs) H) :
    GnOk P w K mg base CX0 (k + 1) f fd ps sp :=
  gn_of F S len fun cdv A outer s H vs Q E hg hr hsp =>
    let ⟨t, h, q⟩ := hbody cdv A outer s H vs Q E hg hr hsp
    ⟨t, h.nox, q⟩

section
variable {X : Cx} {CX : CXT} {k : Nat} {f : Addr} {fd : FuncData} {ps : List Str} {sp : Sp} {dvs : List V}
  {ds : List Value} {E : XK} {x : Str} {p pos : Pos} {e : Expr} {es : List Expr} {t : TA}
theorem run_gn {pins : List (Addr × Obj)} {σ : L2.St} {H : Hp} {s : Shared} {Q : VK} {us : List Value} {vs : List V}
    (F : GnOk X.prog X.w X.K X.mg X.base CX k f fd ps sp) (hg : X.A.guards = some []) (hr : Room k X.A)
    (hb : Binds X.K fd ps ds) (hd : Vals dvs ds) (hx : Passes CX X E) (I : Inv X pins σ H s) (r : Vals vs us)
    (h : sp (vs ++ dvs) H Q E) : wpAny (model X.prog X.w) X.A (call (.ref f) us) (EP X pins σ Q) X.xe s := by
  have r2 : Vals (vs ++ dvs) (us ++ ds) := r.append hd
  have hl : (us ++ ds).length = ps.length := r2.length.symm.trans (F.len _ _ _ _ h)
  refine wpAny_call (codeAny_mono (F.run X.A X.stack s H ⟨us, []⟩ (us ++ ds) (vs ++ dvs) Q E hg hr I.env0
    (hb s us I.kIn hl) r2 h) fun r s' hq => ?_)
  cases r with
  | error e => exact hx pins σ H s e s' I hq
  | ok fl =>
    cases fl with
    | ret u => exact I.after hq
    | next => exact False.elim hq
    | brk => exact False.elim hq
    | cont => exact False.elim hq
theorem pe_callG (F : GnOk X.prog X.w X.K X.mg X.base CX k f fd ps sp) (hgu : X.A.guards = some []) (hr : Room k X.A)
    (hg : Gl X x) (hm : X.mg x = some (.ref f)) (hk : PySem.W.keepIn X.K (.ref f) = true) (hb : Binds X.K fd ps ds)
    (hd : Vals dvs ds) (hx : Passes CX X E) (ha : PA X (e :: es) t) (hdb : (x == ("__debug__" : Str)) = false := by decide)
    (he : starEach (e :: es) X.env = (false, eval e X.env) :: starEach es X.env := by rfl)
    (hpl : (backTo pos (starEach es X.env)).any (·.1) = false := by rfl) :
    PE X (.Call (.Name x p) (e :: es) [] pos) (tCall sp dvs E t) :=
  ⟨fun pins s σ H Q I h => wpAny_Call_Name_kw (ld_glob I hg hm (PySem.W.callWith_K (h₀ := X.base) I.ok.mod.kin hk
    (thn (ha.run pos pins s σ H _ I h) fun us s1 ⟨vs, H1, I1, r, q⟩ =>
      ⟨I1.kIn, run_gn F hgu hr hb hd hx I1 r q⟩) he hpl) hdb)⟩
theorem pe_callG0 (F : GnOk X.prog X.w X.K X.mg X.base CX k f fd ps sp) (hgu : X.A.guards = some []) (hr : Room k X.A)
    (hg : Gl X x) (hm : X.mg x = some (.ref f)) (hk : PySem.W.keepIn X.K (.ref f) = true) (hb : Binds X.K fd ps ds)
    (hd : Vals dvs ds) (hx : Passes CX X E) (hdb : (x == ("__debug__" : Str)) = false := by decide) :
    PE X (.Call (.Name x p) [] [] pos) (tCall sp dvs E tNil) :=
  ⟨fun pins s σ H Q I h => wpAny_Call_Name_kw (ld_glob I hg hm (PySem.W.callWith_K0 I.kIn hk
    (run_gn (us := []) F hgu hr hb hd hx I .nil h)) hdb)⟩
end

/-- sysModules is known and never written -/
def Sys (H : Hp) : Prop := ∃ o u, H sysModules = some (.frz o u)
theorem Sys.ne {H : Hp} (y : Sys H) {a : Addr} {o : HO} (h : H a = some o) (n : ∀ ob u, o ≠ .frz ob u) : a ≠ sysModules := by
  rintro rfl
  obtain ⟨ob, u, e⟩ := y
  rw [h] at e
  exact n ob u (Option.some.inj e)

theorem law_callG {P : Program} {w : World} {K : PySem.W.Frag} {mg mb : Str → Option Value} {CX : CXT} {k : Nat}
    {fa a : Addr} {fd : FuncData} {x : Str} {sp : Sp} {s₁ : Shared} {vs : List Value} {ns : List Int}
    (KX : K.In s₁.heap) (hns : s₁.heap.Ns mainGlobals mg) (hb : s₁.heap.Ns builtinsNs mb)
    (hbb : ∀ x : Str, x ≠ "__name__" → mb x = bootBuiltins x) (hlim : s₁.heap.NoLimit) (hg : s₁.gens = #[])
    (hsys : ∃ mm, s₁.heap.Ns sysModules mm) (hK1 : K.lookup sysModules = none)
    (ha : s₁.heap.get? a = some { cls := .type "list", data := .seq vs.toArray }) (hi : IntsAre vs ns)
    (hl : ns.length ≤ sizeLine) (hr : Room k callerA)
    (F : ∀ base : Heap, K.In base → base.Ns mainGlobals mg → GnOk P w K mg base CX k fa fd [x] sp)
    (hbind : ∀ (s : Shared) (u : Value), BindsTo s fd ⟨[u], []⟩ [(x, u)])
    (hsp : ∀ H : Hp, Sys H → SqL K H a (ns.map V.int) → sp [.ref a] H (fun v _ => v = .bl true) fun _ _ _ => False)
    (hCX : ∀ H e s', CX [] H s₁ (fun _ _ _ => False) e s' → False) :
    codeAny (model P w) callerA (.call (.ref fa) ⟨[.ref a], []⟩)
      (fun r s' => r = .ok (.ret (.bool true)) ∧ OldK s₁.heap s'.heap ∧ s'.os = s₁.os ∧ AllBare s'.gens) s₁ := by
  have rv := vals_ints hi
  obtain ⟨mm, o1, es1, ep1, h1, d1, r1⟩ := hsys
  have hne : sysModules ≠ a := fun z => by
    rw [z, ha] at h1
    cases h1
    cases d1
  have core : ∀ H : Hp, HOk P w H s₁.heap → (∀ b u, H b = some u → ∃ ob v, u = .frz ob v) → Sys H →
      SqL K H a (ns.map V.int) → (∀ b u, H b = some u → b = sysModules ∨ (b = a ∧ K.lookup a = none)) →
      codeAny (model P w) callerA (.call (.ref fa) ⟨[.ref a], []⟩)
        (fun r s' => r = .ok (.ret (.bool true)) ∧ OldK s₁.heap s'.heap ∧ s'.os = s₁.os ∧ AllBare s'.gens) s₁ := by
    intro H hok Hfrz hS hQ hW
    have noneD : ∀ {b : Addr} {o : Obj} {es : Array DictEntry} {ep : Nat}, s₁.heap.get? b = some o →
        o.data = .dict es ep → b ≠ sysModules → H b = none := fun {b o es ep} e d n => by
      cases q : H b with
      | none => rfl
      | some u =>
        rcases hW b u q with z | ⟨z, _⟩
        · exact absurd z n
        · rw [z, ha] at e
          cases e
          cases d
    have nsK : ∀ {b : Addr} {m : Str → Option Value}, s₁.heap.Ns b m → b ≠ sysModules → (hidT s₁.heap H).Ns b m :=
      fun {b m} ⟨o, es, ep, e, d, r⟩ n => ⟨o, es, ep, hidT_get e (noneD e d n), d, r⟩
    have hKb : K.In (hidT s₁.heap H) := fun b o e => hidT_get (KX b o e) (by
      cases q : H b with
      | none => rfl
      | some u =>
        rcases hW b u q with z | ⟨z, z2⟩
        · rw [z, hK1] at e
          cases e
        · rw [z, z2] at e
          cases e)
    obtain ⟨mc, hmc, hmc2⟩ := hlim
    have hM : Mod K mg (hidT s₁.heap H) :=
      ⟨hKb, nsK hns (by decide), ⟨mb, nsK hb (by decide), hbb⟩, ⟨mc, nsK hmc (by decide), hmc2⟩⟩
    have e0 : Env0 P w K mg (hidT s₁.heap H) callerA [] s₁ H :=
      ⟨rfl, hM, fun b o e => of_hidT e, Nat.le_of_eq (hidT_size _ _), trivial,
        fun b hb => absurd (show b ∈ ([] : List Addr) from hb) (by simp), hok, .of_eq hg⟩
    refine codeAny_mono ((F _ hKb (nsK hns (by decide))).run callerA [] s₁ H ⟨[.ref a], []⟩ [.ref a] [.ref a] _ _ rfl hr e0
      (hbind s₁ (.ref a)) (.cons rfl .nil) (hsp H hS hQ)) fun r s' h => ?_
    cases r with
    | error e => exact (hCX H e s' h).elim
    | ok fl =>
      cases fl with
      | next => exact h.elim
      | brk => exact h.elim
      | cont => exact h.elim
      | ret u =>
        obtain ⟨v, H', os, bare, un, hok', r', q⟩ := h
        have q' : v = .bl true := q
        subst q'
        obtain rfl : u = Value.bool true := r'
        refine ⟨rfl, OldK.of_keep fun b o e => ?_, os, bare⟩
        cases q : H b with
        | none => exact un.keep b o e q (by intro z; exact absurd (show b ∈ ([] : List Addr) from z) (by simp)) (by simp)
        | some u =>
          obtain ⟨ob, v, rfl⟩ := Hfrz b u q
          obtain ⟨e1, _⟩ := hok b _ q
          obtain ⟨e2, _⟩ := hok' b _ (un.frzs b ob _ q)
          rw [e] at e1
          cases e1
          exact e2
  cases hk : K.lookup a with
  | some o =>
    have e := KX a o hk
    rw [ha] at e
    cases e
    refine core (fun b => if b = sysModules then some (.frz o1 (.ext fun _ => True)) else none) (fun b u e => ?_) (fun b u e => ?_)
      ⟨_, _, if_pos rfl⟩ (.inr ⟨_, vs.toArray, _, hk, rfl, rfl, rfl, by rw [List.size_toArray, hi.length]; exact hl, by simpa using rv⟩) fun b u e => ?_
    · by_cases z : b = sysModules
      · have e' := (if_pos z).symm.trans e
        cases e'
        subst z
        exact ⟨h1, trivial, ⟨o1, h1⟩, fun _ _ _ _ => trivial⟩
      · have e' := (if_neg z).symm.trans e
        cases e'
    · by_cases z : b = sysModules
      · have e' := (if_pos z).symm.trans e
        exact ⟨_, _, (Option.some.inj e').symm⟩
      · have e' := (if_neg z).symm.trans e
        cases e'
    · by_cases z : b = sysModules
      · exact .inl z
      · have e' := (if_neg z).symm.trans e
        cases e'
  | none =>
    have Ha : (fun b => if b = a then some (HO.frz { cls := .type "list", data := .seq vs.toArray } (.lst (ns.map V.int)))
      else if b = sysModules then some (.frz o1 (.ext fun _ => True)) else none : Hp) a = _ := if_pos rfl
    refine core (fun b => if b = a then some (.frz { cls := .type "list", data := .seq vs.toArray } (.lst (ns.map V.int)))
      else if b = sysModules then some (.frz o1 (.ext fun _ => True)) else none) (fun b u e => ?_) (fun b u e => ?_)
      ⟨_, _, (if_neg hne).trans (if_pos rfl)⟩ (.inl (.inr ⟨_, Ha⟩)) fun b u e => ?_
    · by_cases z : b = a
      · have e' := (if_pos z).symm.trans e
        cases e'
        subst z
        exact ⟨ha, by rw [List.length_map]; exact hl, vs, _, rv, ha⟩
      · by_cases z2 : b = sysModules
        · have e' := ((if_neg z).trans (if_pos z2)).symm.trans e
          cases e'
          subst z2
          exact ⟨h1, trivial, ⟨o1, h1⟩, fun _ _ _ _ => trivial⟩
        · have e' := ((if_neg z).trans (if_neg z2)).symm.trans e
          cases e'
    · by_cases z : b = a
      · have e' := (if_pos z).symm.trans e
        exact ⟨_, _, (Option.some.inj e').symm⟩
      · by_cases z2 : b = sysModules
        · have e' := ((if_neg z).trans (if_pos z2)).symm.trans e
          exact ⟨_, _, (Option.some.inj e').symm⟩
        · have e' := ((if_neg z).trans (if_neg z2)).symm.trans e
          cases e'
    · by_cases z : b = a
      · exact .inr ⟨z, hk⟩
      · by_cases z2 : b = sysModules
        · exact .inl z2
        · have e' := ((if_neg z).trans (if_neg z2)).symm.trans e
          cases e'

theorem walk_G {l : PySem.W.OpenLaw} {n k : Nat} {q : Program} {loose : List Str} {XP : (Str → Option Value) → Heap → Prop}
    {YP : World → Heap → Prop} {d : PySem.DefRec} {K : Params → PySem.W.Frag} {CX : World → CXT} {sp : World → Sp} {x : Str}
    (hn : l.most = some n) (hn2 : n ≤ sizeLine) (hdf : d.params.defaults = []) (hr : Room k callerA)
    (hY : ∀ (w : World) (h : Heap), YP w h → (K w.params).In h) (hK1 : ∀ w : World, (K w.params).lookup sysModules = none)
    (hq : importsNone q = true)
    (F : ∀ (w : World) (mg : Str → Option Value) (fa : Addr) (h : Heap), (K w.params).In h → h.Ns mainGlobals mg →
      mg d.name = some (.ref fa) → ∃ fd : FuncData, (∀ (s : Shared) (u : Value), BindsTo s fd ⟨[u], []⟩ [(x, u)]) ∧
        ∀ base : Heap, (K w.params).In base → base.Ns mainGlobals mg → GnOk l.prog w (K w.params) mg base (CX w) k fa fd [x] (sp w))
    (hsp : ∀ (w : World) (H : Hp) (a : Addr) (ns : List Int), ns.length ≤ n → (∀ z ∈ ns, Builtin.Int.intBits z ≤ 1048576) →
      Sys H → SqL (K w.params) H a (ns.map V.int) → sp w [.ref a] H (fun v _ => v = .bl true) fun _ _ _ => False)
    (hCX : ∀ (w : World) (H : Hp) (s : Shared) (e : Value) (s' : Shared), CX w [] H s (fun _ _ _ => False) e s' → False) :
    PySem.W.WalkO q loose XP YP l.row.toRowW d [] (fun f vs => PySem.call f vs) := by
  refine Att.attach_callB hn hdf fun w s₀ s₁ mg mb fa o pm cd doc a vs ns G Y ho hd hcd hmg hobj hints hlen hbits hg => ?_
  have KX := hY w _ Y
  obtain ⟨fd, hb, hF⟩ := F w mg fa _ KX G.T.g hmg
  exact law_callG KX G.T.g G.T.b G.T.builtins G.T.nolimit hg (let ⟨mm, a, _⟩ := (G.T.seer hq).mods; ⟨mm, a⟩) (hK1 w) hobj hints (Nat.le_trans hlen hn2) hr hF hb
    (fun H hS hQ => hsp w H a ns hlen hbits hS hQ) fun H e s' => hCX w H s₁ e s'
end Kx

set_option Elab.async false
set_option maxRecDepth 100000
set_option linter.all false
set_option maxHeartbeats 2000000
/-! KitB: data at any depth (dicts too), and repr of it. -/
namespace Kx
open PySem PySem.Spec PyProof.Rows L2

def keyD : Key → PyData
  | .inl i => .int i
  | .inr x => .str x
mutual
/-- a value of plain data: what it shows at this heap -/
inductive Dq (K : PySem.W.Frag) (H : Hp) : V → PyData → Prop
  | non : Dq K H .non .none
  | bl (b : Bool) : Dq K H (.bl b) (.bool b)
  | int (i : Int) : Dq K H (.int i) (.int i)
  | str (x : Str) : Dq K H (.str x) (.str x)
  | lst {a : Addr} {xs : List V} {ds : List PyData} : H a = some (.lst xs) → DqA K H xs ds → Dq K H (.ref a) (.list ds)
  | tup {a : Addr} {xs : List V} {ds : List PyData} : SqT K H a xs → DqA K H xs ds → Dq K H (.ref a) (.tuple ds)
  | dic {a : Addr} {kvs : List (Key × V)} {ds : List (PyData × PyData)} : H a = some (.dK kvs) → DqD K H kvs ds → Dq K H (.ref a) (.dict ds)
inductive DqA (K : PySem.W.Frag) (H : Hp) : List V → List PyData → Prop
  | nil : DqA K H [] []
  | cons {v : V} {vs : List V} {d : PyData} {ds : List PyData} : Dq K H v d → DqA K H vs ds → DqA K H (v :: vs) (d :: ds)
inductive DqD (K : PySem.W.Frag) (H : Hp) : List (Key × V) → List (PyData × PyData) → Prop
  | nil : DqD K H [] []
  | cons {k : Key} {v : V} {vs : List (Key × V)} {d : PyData} {ds : List (PyData × PyData)} : Dq K H v d → DqD K H vs ds → DqD K H ((k, v) :: vs) ((keyD k, d) :: ds)
end
theorem sqt_ex {K : PySem.W.Frag} {H H' : Hp} {a : Addr} {xs : List V} (e : Same H H') (h : SqT K H a xs) : SqT K H' a xs := by
  rcases h with (h | ⟨o, h⟩) | h
  · exact .inl (.inl (e _ _ h))
  · exact .inl (.inr ⟨o, e _ _ h⟩)
  · exact .inr h
mutual
theorem Dq.mono {K : PySem.W.Frag} {H H' : Hp} (e : Same H H') : ∀ {d : PyData} {v : V}, Dq K H v d → Dq K H' v d
  | _, _, .non => .non
  | _, _, .bl b => .bl b
  | _, _, .int i => .int i
  | _, _, .str x => .str x
  | _, _, .lst h a => .lst (e _ _ h) (DqA.mono e a)
  | _, _, .tup h a => .tup (sqt_ex e h) (DqA.mono e a)
  | _, _, .dic h a => .dic (e _ _ h) (DqD.mono e a)
theorem DqA.mono {K : PySem.W.Frag} {H H' : Hp} (e : Same H H') : ∀ {ds : List PyData} {vs : List V}, DqA K H vs ds → DqA K H' vs ds
  | _, _, .nil => .nil
  | _, _, .cons a b => .cons (Dq.mono e a) (DqA.mono e b)
theorem DqD.mono {K : PySem.W.Frag} {H H' : Hp} (e : Same H H') : ∀ {ds : List (PyData × PyData)} {vs : List (Key × V)}, DqD K H vs ds → DqD K H' vs ds
  | _, _, .nil => .nil
  | _, _, .cons a b => .cons (Dq.mono e a) (DqD.mono e b)
end
theorem Sys.mono {H H' : Hp} (y : Sys H) (e : Same H H') : Sys H' := let ⟨o, u, h⟩ := y; ⟨o, u, e _ _ h⟩

section
variable {X : Cx} {pins : List (Addr × Obj)} {σ : L2.St} {H : Hp} {s : Shared}
theorem key_reads {P : Program} {w : World} {h : Heap} {k : Key} {u : Value} (e : (mixKind P w).is k u = true) : Reads h u (keyD k) [] := by
  rcases keyIs_shape (show keyIs k u = true from e) with ⟨i, t, rfl, rfl⟩ | ⟨x, t, rfl, rfl⟩
  · exact .int i t
  · exact .str x t
mutual
theorem Dq.reads (I : Inv X pins σ H s) (y : Sys H) : ∀ {d : PyData} {v : V} {u : Value}, Dq X.K H v d → RelV v u → ∃ as, Reads s.heap u d as ∧ sysModules ∉ as
  | _, _, _, .non, r => by
    cases r
    exact ⟨_, Reads.none, by simp⟩
  | _, _, _, .bl b, r => by
    cases r
    exact ⟨_, Reads.bool b, by simp⟩
  | _, _, _, .int i, r => by
    obtain ⟨t, rfl⟩ := r
    exact ⟨_, Reads.int i t, by simp⟩
  | _, _, _, .str x, r => by
    obtain ⟨t, rfl⟩ := r
    exact ⟨_, Reads.str x t, by simp⟩
  | _, _, _, .lst (a := a) h q, r => by
    cases r
    obtain ⟨_, its, n, rv, ho⟩ := (show ObjOk X.prog X.w H s.heap a (.lst _) from I.hok a _ h)
    obtain ⟨as, hr, hn⟩ := DqA.reads I y q rv
    exact ⟨_, Reads.list ho rfl rfl hr, fun z => (List.mem_cons.mp z).elim (fun z => y.ne h (fun _ _ z => by cases z) z.symm) hn⟩
  | _, _, _, .tup h q, r => by
    cases r
    obtain ⟨its, rv, ⟨o, ho, hc, n, hd⟩, _⟩ := I.tuple h
    obtain ⟨as, hr, hn⟩ := DqA.reads I y q rv
    exact ⟨_, Reads.tuple ho hc hd hr, hn⟩
  | _, _, _, .dic (a := a) h q, r => by
    cases r
    obtain ⟨_, ha, vs, rv, o, es, ep, ho, hx, hd, _, hp, _⟩ := (show ObjOk X.prog X.w H s.heap a (.dK _) from I.hok a _ h)
    obtain ⟨as, bs, h1, h2, n1, n2⟩ := DqD.reads I y q rv hp
    refine ⟨_, Reads.dict ho hx.1 hd h1 h2, fun z => ?_⟩
    rcases List.mem_append.mp z with z | z
    · rcases List.mem_cons.mp z with z | z
      · exact y.ne h (fun _ _ z => by cases z) z.symm
      · exact n1 z
    · exact n2 z
theorem DqA.reads (I : Inv X pins σ H s) (y : Sys H) : ∀ {ds : List PyData} {vs : List V} {us : List Value}, DqA X.K H vs ds → Vals vs us → ∃ as, ReadsAll s.heap us ds as ∧ sysModules ∉ as
  | _, _, _, .nil, r => by
    cases r
    exact ⟨_, ReadsAll.nil, by simp⟩
  | _, _, _, .cons a b, r => by
    cases r with
    | cons r1 r2 =>
      obtain ⟨as, h1, n1⟩ := Dq.reads I y a r1
      obtain ⟨bs, h2, n2⟩ := DqA.reads I y b r2
      exact ⟨_, ReadsAll.cons h1 h2, fun z => (List.mem_append.mp z).elim n1 n2⟩
theorem DqD.reads (I : Inv X pins σ H s) (y : Sys H) : ∀ {ds : List (PyData × PyData)} {kvs : List (Key × V)} {vs : List (Key × Value)} {es : List DictEntry}, DqD X.K H kvs ds → KV kvs vs →
    Pairs (mixKind X.prog X.w) es vs → ∃ as bs, ReadsAll s.heap (es.map (·.key)) (ds.map (·.1)) as ∧ ReadsAll s.heap (es.map (·.val)) (ds.map (·.2)) bs ∧ sysModules ∉ as ∧ sysModules ∉ bs
  | _, _, _, _, .nil, r, p => by
    cases r
    cases p
    exact ⟨_, _, ReadsAll.nil, ReadsAll.nil, by simp, by simp⟩
  | _, _, _, _, .cons a b, r, p => by
    cases r with
    | cons r1 r2 =>
      cases p with
      | cons p1 p2 p3 =>
        obtain ⟨e1, e2⟩ := r1
        obtain ⟨as, h1, n1⟩ := Dq.reads I y a (p2 ▸ e2)
        obtain ⟨bs, cs, h2, h3, n2, n3⟩ := DqD.reads I y b r2 p3
        refine ⟨_, _, ReadsAll.cons (key_reads (by rw [← e1] at p1; exact p1)) h2, ReadsAll.cons h1 h3, by simpa using n2, fun z => (List.mem_append.mp z).elim n1 n3⟩
end
end
/-- repr(x), x plain data -/
def rRepr (K : PySem.W.Frag) : List V → Hp → VK → Prop := fun vs H Q => ∃ v d, vs = [v] ∧ Sys H ∧ Dq K H v d ∧ d.showable = true ∧ d.depth ≤ 60 ∧ d.shown.length ≤ sizeLine ∧ Q (.str d.shown) H
theorem call_repr {X : Cx} (hg : X.A.guards = some []) (hu : X.A.units + 64 < cLine) : CallR X (.builtin "repr") (rRepr X.K) := by
  intro pins s σ H xs us Q I r h
  obtain ⟨v, d, rfl, y, hd, hs, hp, hz, q⟩ := h
  obtain ⟨u, rfl, ru⟩ := vals1 r
  obtain ⟨as, hr, hn⟩ := Dq.reads I y hd ru
  cases hd with
  | non =>
    cases ru
    exact PySem.P.repr_of_none ⟨.str _, H, I.tok _, ⟨_, rfl⟩, q⟩
  | bl b =>
    cases ru
    exact PySem.P.repr_of_bool ⟨.str _, H, I.tok _, ⟨_, rfl⟩, q⟩
  | int i =>
    obtain ⟨t, rfl⟩ := ru
    exact PySem.P.repr_of_int (by simpa [PyData.showable] using hs) ⟨.str _, H, I.tok _, ⟨_, rfl⟩, q⟩
  | str x =>
    obtain ⟨t, rfl⟩ := ru
    exact PySem.P.repr_of_str ⟨.str _, H, I.tok _, ⟨_, rfl⟩, q⟩ hz
  | lst _ _ =>
    cases ru
    exact repr_of_reads' hr hs (fun _ => hn) hg (by omega) (fun _ _ e => e) (fun h' u tk k => ⟨.str _, H, I.kept (t' := tk) k, ⟨_, rfl⟩, q⟩) hz
  | tup _ _ =>
    cases ru
    exact repr_of_reads' hr hs (fun _ => hn) hg (by omega) (fun _ _ e => e) (fun h' u tk k => ⟨.str _, H, I.kept (t' := tk) k, ⟨_, rfl⟩, q⟩) hz
  | dic _ _ =>
    cases ru
    exact repr_of_reads' hr hs (fun _ => hn) hg (by omega) (fun _ _ e => e) (fun h' u tk k => ⟨.str _, H, I.kept (t' := tk) k, ⟨_, rfl⟩, q⟩) hz
end Kx

set_option Elab.async false
set_option maxRecDepth 100000
set_option linter.all false
set_option maxHeartbeats 4000000
/-! KitC: exceptions of own classes, held as values: made (positionally, by keyword, bare), asked, read. -/
namespace PySem
namespace KxP
open PySem.W PySem.Calls PyProof.Rows PySem.HandSPX
section
variable {prog : Program} {w : World} {A : Around} {E : Value → Shared → Prop} {R : Result → Shared → Prop} {h : Heap} {g : Array GenState} {d : Drawn} {t : Nat} {os : OsState}
variable {nm q : Str} {C N : Addr} {bs bm bmB : List Value} {hdct : Bool} {sn : List Str} {sub : List Value} {ab : Bool} {col : Option Bool} {dd : Option Addr} {k0 k1 k2 k3 k5 : Option Value} {B newId initId : String}

theorem newKw_check (F : ExcBaseFacts B newId initId bmB) (hT : ∀ X : String, bm.contains (.type X) = bmB.contains (.type X))
    {rest : List Value} {kw : List (Str × Value)} {Q : Unit → Shared → Prop}
    (hC : h.get? C = some (excClassObj nm q C N bs bm hdct sn sub ab col dd k0 k1 k2 k3 k5 newId)) (hq : Q () ⟨h, g, d, t, os⟩) :
    wpAny (model prog w) A (checkBuiltinCall newId ⟨.ref C :: rest, kw⟩) Q E ⟨h, g, d, t, os⟩ := by
  have hc : (Value.ref C :: bm).contains (.type B) = true := by
    rw [List.contains_cons, hT, F.hasB, Bool.or_true]
  have hs := F.noStar
  simp only [checkBuiltinCall, F.newKind, F.newSplit, F.newRow]
  repeat (first
    | refine wpAny_loadPart_at hC ?_
    | (refine wpAny_isSubtype_exc hC ?_; rw [hc])
    | refine wpAny_staticBase_exc hC ?_
    | refine wpAny_madeBy_exc hC ?_
    | simp only [bne_self_eq_false, Bool.false_eq_true, if_false]
    | wp_step)
  exact hq
theorem newKw (F : ExcBaseFacts B newId initId bmB) (hT : ∀ X : String, bm.contains (.type X) = bmB.contains (.type X))
    {rest : List Value} {kw : List (Str × Value)} (hC : h.get? C = some (excClassObj nm q C N bs bm hdct sn sub ab col dd k0 k1 k2 k3 k5 newId))
    (hq : R (.ok (.ret (.ref (h.objs.size + 1)))) ⟨(h.push (kdv_tup rest)).push (excO C h.objs.size), g, d, t, os⟩)
    (hz : rest.length ≤ sizeLine) : codeAny (model prog w) A (.builtin newId ⟨.ref C :: rest, kw⟩) R ⟨h, g, d, t, os⟩ := by
  have he := F.ends
  have hB : (Value.ref C :: bm).contains (.type B) = true := by
    rw [List.contains_cons, hT, F.hasB, Bool.or_true]
  have hA : (Value.ref C :: bm).contains (.type "AttributeError") = false := by
    rw [List.contains_cons, hT, F.noAttr]
    rfl
  have hN : (Value.ref C :: bm).contains (.type "NameError") = false := by
    rw [List.contains_cons, hT, F.noName]
    rfl
  refine codeAny_builtinAt F.entry ?_
  unfold Builtin.«BaseException.__new__»
  refine wpAt_bind ?_
  show wpAt _ _ _ (stack >>= _) _ _ _
  refine wpAt_bind (wpAt_stack fun p below => wpAt_of_wpAny ?_)
  wp_walk
  refine wpAt_of_wpAny ?_
  rw [F.owner]
  repeat (first
    | with_reducible refine wpAny_madeHere_exc F.canon hC ?_
    | with_reducible refine wpAny_loadPart_at hC ?_
    | (with_reducible refine wpAny_isSubtype_exc hC ?_; first | rw [hB] | rw [hA] | rw [hN])
    | wp_step)
  show R _ _
  rw [Heap.size_push]
  exact hq
theorem typeCallKw (F : ExcBaseFacts B newId initId bmB) (hT : ∀ X : String, bm.contains (.type X) = bmB.contains (.type X))
    {rest : List Value} {kw : List (Str × Value)} {fI : Addr} {Q : Fin → Shared → Prop}
    (hC : h.get? C = some (excClassObj nm q C N bs bm hdct sn sub ab col dd k0 k1 k2 k3 k5 newId))
    (hi : Looks (model prog w) h (typeLookup (.ref C) "__init__") (some (.ref fI)))
    (hb : ∀ self, Looks (model prog w) h (bindSpecial (.ref fI) self) (.ref fI, [self])) (hz : rest.length ≤ sizeLine)
    (hq : codeAny (model prog w) A (.call (.ref fI) ⟨.ref (h.objs.size + 1) :: rest, kw⟩)
      (fun r s' => match r with
        | .ok (.ret v) => v = .none ∧ Q (.done (.ret (.ref (h.objs.size + 1)))) s'
        | .ok _ => False
        | .error e => E e s') ⟨(h.push (kdv_tup rest)).push (excO C h.objs.size), g, d, t, os⟩) :
    wpAny (model prog w) A (Builtin.«type.__call__» ⟨.ref C :: rest, kw⟩) Q E ⟨h, g, d, t, os⟩ := by
  repeat (first | with_reducible refine wpAny_loadPart_at hC ?_ | with_reducible refine wpAny_madeBy_exc hC ?_ | wp_step)
  refine codeAny_call_builtin_code (Code.quiet_builtin _ F.quiet) (newKw_check F hT hC ?_)
  refine newKw F hT hC ?_ hz
  show wpAny _ _ _ _ _ _
  have k : ∀ b o, h.get? b = some o → ((h.push (kdv_tup rest)).push (excO C h.objs.size)).get? b = some o :=
    fun b o e => Heap.get?_push_of_some _ (Heap.get?_push_of_some _ e)
  have hC1 := k _ _ hC
  have hget : ((h.push (kdv_tup rest)).push (excO C h.objs.size)).get? (h.objs.size + 1) = some (excO C h.objs.size) := by
    heap_get
  have hcC : (Value.ref C :: bm).contains (.ref C) = true := by
    simp
  have i1 := hi.keeps k
  have b1 := (hb (.ref (h.objs.size + 1))).keeps k
  unfold isInstance
  repeat (first
    | with_reducible refine wpAny_loadPart_at hget ?_
    | (with_reducible refine wpAny_isSubtype_exc hC1 ?_; rw [hcC])
    | wp_step)
  show wpAny _ _ (typeLookup (.ref C) _) _ _ _
  refine i1.at (wpAny_holding (wpAny_bind (b1.at ?_)))
  refine wpAny_bind (wpAny_call (codeAny_mono hq fun r s' z => ?_))
  rcases r with e | (v | _ | _ | _) <;> first | exact z | exact z.elim | skip
  obtain ⟨rfl, z⟩ := z
  first
    | exact wpAny_pure (wpAny_pure z)
    | (wp_walk; exact z)
theorem callKw (F : ExcBaseFacts B newId initId bmB) (hT : ∀ X : String, bm.contains (.type X) = bmB.contains (.type X))
    {rest : List Value} {kw : List (Str × Value)} {fI : Addr}
    (hC : h.get? C = some (excClassObj nm q C N bs bm hdct sn sub ab col dd k0 k1 k2 k3 k5 newId))
    (hi : Looks (model prog w) h (typeLookup (.ref C) "__init__") (some (.ref fI)))
    (hb : ∀ self, Looks (model prog w) h (bindSpecial (.ref fI) self) (.ref fI, [self])) (hz : rest.length ≤ sizeLine)
    (hq : codeAny (model prog w) (A.under (.builtin "type.__call__" ⟨.ref C :: rest, kw⟩))
      (.call (.ref fI) ⟨.ref (h.objs.size + 1) :: rest, kw⟩) (InitBack (h.objs.size + 1) R)
      ⟨(h.push (kdv_tup rest)).push (excO C h.objs.size), g, d, t, os⟩) :
    codeAny (model prog w) A (.call (.ref C) ⟨rest, kw⟩) R ⟨h, g, d, t, os⟩ := by
  have f1 := tc_lookup
  have f2 := tc_bind (.ref C)
  have hTy : (⟨h, g, d, t, os⟩ : Shared).TypeIs (.ref C) "type" := ⟨_, hC, rfl⟩
  refine codeAny_of_tree ?_
  show wpAny _ _ (callAny (.ref C) _) _ _ _
  repeat (any_goals (first | assumption | with_reducible refine wpAny_loadPart_at hC ?_ | wp_step))
  refine ⟨rfl, codeAny_call_builtin_at (Code.quiet_builtin _ (by decide +kernel)) entry_typeCall
    (wpAny_check_type_call_sub hC (typeCallKw F hT hC hi hb hz (codeAny_mono hq fun r s' z => ?_)))⟩
  rcases r with e | (v | _ | _ | _) <;> exact z
end
end KxP
end PySem

set_option Elab.async false
set_option maxRecDepth 100000
set_option linter.all false
set_option maxHeartbeats 4000000
/-! KitD: the hand layer's rules over KitC. -/
namespace Kx
open PySem PySem.Spec PyProof.Rows L2

/-- what the written part says of an own exception class -/
structure ExK (K : PySem.W.Frag) (C : Addr) : Prop where
  o : OexC K C
  x : ExcC K C
/-- at a stands an exception of the class at C, its own dict at d -/
def XAt (H : Hp) (a C : Addr) (d : Option Addr) : Prop :=
  ∃ φ : Heap → Prop, H a = some (.ext φ) ∧ ∀ h, φ h → ∃ ox : Obj, h.get? a = some ox ∧ ox.cls = .ref C ∧ ox.dict = d ∧ PySem.W.notCls ox = true
/-- the fields of such a dict -/
def FAt (H : Hp) (d : Addr) (fs : List (Str × V)) : Prop := H d = some (exd d fs) ∨ H d = some (.xd fs)
theorem xat_exo {H : Hp} {a C : Addr} {d : Option Addr} (h : H a = some (exo a C d)) : XAt H a C d :=
  ⟨_, h, fun _ ⟨_, e⟩ => ⟨_, e, rfl, rfl, rfl⟩⟩
theorem XAt.mono {H H' : Hp} {a C : Addr} {d : Option Addr} (e : Same H H') (h : XAt H a C d) : XAt H' a C d :=
  let ⟨p, q, r⟩ := h
  ⟨p, e _ _ q, r⟩
theorem FAt.mono {H H' : Hp} {d : Addr} {fs : List (Str × V)} (e : Same H H') (h : FAt H d fs) : FAt H' d fs := h.elim (fun h => .inl (e _ _ h)) fun h => .inr (e _ _ h)

section
variable {X : Cx} {pins : List (Addr × Obj)} {σ : L2.St} {H : Hp} {s : Shared} {a C dx : Addr} {fs : List (Str × V)}
theorem xat_inst0 (I : Inv X pins σ H s) (h : XAt H a C none) : ∃ ox, PySem.W.InstAt s.heap a ox C none := by
  obtain ⟨p, q, r⟩ := h
  obtain ⟨ox, e1, e2, e3, e4⟩ := r _ (show ObjOk X.prog X.w H s.heap a (.ext p) from I.hok a _ q).1
  exact ⟨ox, e1, e2, e4, by rw [e3]; trivial⟩
theorem fat_ns (I : Inv X pins σ H s) (h : FAt H dx fs) : ∃ mA, s.heap.Ns1 dx mA ∧ ∀ f, RelO (fs.lookup f) (mA f) := by
  rcases h with h | h
  · exact (show ObjOk X.prog X.w H s.heap dx (exd dx fs) from I.hok dx _ h).1
  · exact (show ObjOk X.prog X.w H s.heap dx (.xd fs) from I.hok dx _ h)
theorem xat_inst (I : Inv X pins σ H s) (h : XAt H a C (some dx)) (hf : FAt H dx fs) :
    ∃ ox od, PySem.W.InstAt s.heap a ox C (some od) ∧ ∃ mA : Str → Option Value, (∀ f, RelO (fs.lookup f) (mA f)) ∧ ∀ f, PySem.W.lookIn f od = some (mA f) := by
  obtain ⟨p, q, r⟩ := h
  obtain ⟨ox, e1, e2, e3, e4⟩ := r _ (show ObjOk X.prog X.w H s.heap a (.ext p) from I.hok a _ q).1
  obtain ⟨mA, hn, hr⟩ := fat_ns I hf
  obtain ⟨od, ho, hl⟩ := lookIn_ns hn
  exact ⟨ox, od, ⟨e1, e2, e4, by rw [e3]; exact ho⟩, mA, hr, hl⟩
end

/-- e.f of such an exception -/
def tXat (K : PySem.W.Frag) (f : Str) (te : TE) : TE := fun σ H Q => te σ H fun x H1 => ∃ (a C dx : Addr) (fs : List (Str × V)) (v : V),
  x = .ref a ∧ XAt H1 a C (some dx) ∧ FAt H1 dx fs ∧ ExcC K C ∧ PySem.W.findIn K (.ref C) f = some none ∧ fs.lookup f = some v ∧ Q v H1
theorem pe_xat {X : Cx} {e : Expr} {te : TE} {pos : Pos} {n : Str} (he : PE X e te) (hb : attributeBase e n X.env (eval e X.env) = eval e X.env := by rfl) :
    PE X (.Attribute e n pos) (tXat X.K n te) := by
  refine ⟨fun pins s σ H Q I h => attr_of hb (thn (he.run pins s σ H _ I h) fun u s1 hh => ?_)⟩
  obtain ⟨x, H1, I1, rx, a, C, dx, fs, v, ex, hx, hf, T, hno, l, q⟩ := hh
  subst ex
  obtain rfl : u = Value.ref a := rx
  obtain ⟨ox, od, J, mA, hr, hl⟩ := xat_inst I1 hx hf
  obtain ⟨u, hu, ru⟩ := RelO.some_of (v := v) (o := mA n) (by rw [← l]; exact hr n)
  exact HandSPX.exc_get I1.kIn J T.hg T.hk T.hs (PySem.W.findObj_own T.hd hno rfl (by rw [hl, hu])) (handed_of ru) ⟨v, H1, I1.tok _, ru, q⟩

/-- isinstance(e, c), one class, e an exception held -/
def rIsX (K : PySem.W.Frag) : List V → Hp → VK → Prop := fun xs H Q => ∃ (a C : Addr) (c : V) (u : Value) (b : Bool),
  xs = [.ref a, c] ∧ (XAt H a C none ∨ ∃ dx fs, XAt H a C (some dx) ∧ FAt H dx fs) ∧ ExcC K C ∧ ClsV c u ∧ PySem.W.kitOne K (.ref C) u = some b ∧ Q (.bl b) H
theorem call_isX {X : Cx} : CallR X (.builtin "isinstance") (rIsX X.K) := by
  intro pins s σ H xs us Q I r h
  obtain ⟨a, C, c, u, b, rfl, hx, T, k, e, q⟩ := h
  obtain ⟨u1, u2, rfl, r1, r2⟩ := vals2 r
  obtain rfl : u1 = Value.ref a := r1
  obtain rfl := k.eq r2
  have hcl : (PySem.W.clsIn X.K C).isSome = true := by
    obtain ⟨cd, hc, _⟩ := PySem.W.any_some T.hd
    rw [hc]
    rfl
  rcases hx with hx | ⟨dx, fs, hx, hf⟩
  · obtain ⟨ox, J⟩ := xat_inst0 I hx
    exact PySem.W.kia_one (PySem.W.kitx_exc hcl T.hg T.hk T.hs T.ha T.hn T.ht T.hm) I.kIn J e (fun z => nomatch z) fun tk => ⟨.bl b, H, I.tok tk, rfl, q⟩
  · obtain ⟨ox, od, J, _⟩ := xat_inst I hx hf
    exact PySem.W.kia_one (PySem.W.kitx_exc hcl T.hg T.hk T.hs T.ha T.hn T.ht T.hm) I.kIn J e (fun z => nomatch z) fun tk => ⟨.bl b, H, I.tok tk, rfl, q⟩

section
variable {X : Cx} {CX : CXT} {k : Nat} {fI C : Addr} {fd : FuncData} {ps ks : List Str} {sp : Sp} {dvs : List V} {ds : List Value} {E : XK} {x : Str} {p pos : Pos} {e : Expr} {es : List Expr} {kws : List Keyword} {t tk : TA}
  {g : List Value → List Value → List Value} {gV : List V → List V → List V}
theorem run_mk {pins : List (Addr × Obj)} {σ : L2.St} {H : Hp} {s : Shared} {Q : VK} {us bs : List Value} {kw : List (Str × Value)} {ys : List V}
    (T : OexC X.K C) (iC : PySem.W.findIn X.K (.ref C) "__init__" = some (some (.ref fI))) (tI : PySem.W.typeIn X.K (.ref fI) = some (.type "function"))
    (F : FnOk X.prog X.w X.K X.mg X.base CX k fI fd ps sp) (hr : Room (k + 1) X.A) (hx : Passes CX X E)
    (hb : ∀ (s : Shared) (self : Value), X.K.In s.heap → BindsTo s fd ⟨self :: us, kw⟩ (ps.zip (self :: bs))) (I : Inv X pins σ H s) (r : Vals ys bs)
    (hus : us.length ≤ sizeLine) (h : ∀ a, H a = none → sp (.ref a :: ys) (upd H a (exo a C none)) (fun v H2 => v = .non ∧ Q (.ref a) H2) E) :
    wpAny (model X.prog X.w) X.A (call (.ref C) us kw) (EP X pins σ Q) X.xe s := by
  obtain ⟨nm, q, N, bs', bm, sn, sub, ab, col, dd, k0, k1, k2, k3, k5, hC, hbm⟩ := T.cls
  obtain ⟨hp, g, dr, tk, os⟩ := s
  have hsz : hp.objs.size ≤ hp.objs.size + 1 := Nat.le_succ _
  have hn : H (hp.objs.size + 1) = none := I.hok.fresh hsz
  have kk : ∀ b o, hp.get? b = some o → ((hp.push (PySem.W.kdv_tup us)).push (PySem.HandSPX.excO C hp.objs.size)).get? b = some o :=
    fun b o e => Heap.get?_push_of_some _ (Heap.get?_push_of_some _ e)
  have hget : ((hp.push (PySem.W.kdv_tup us)).push (PySem.HandSPX.excO C hp.objs.size)).get? (hp.objs.size + 1) = some (PySem.HandSPX.excO C hp.objs.size) := by
    heap_get
  have I2 : Inv X pins σ (upd H (hp.objs.size + 1) (exo (hp.objs.size + 1) C none)) ⟨(hp.push (PySem.W.kdv_tup us)).push (PySem.HandSPX.excO C hp.objs.size), g, dr, tk, os⟩ :=
    I.laid (t' := tk) (a := hp.objs.size + 1) (o := exo (hp.objs.size + 1) C none) kk hsz (exo_ok hget)
  refine wpAny_call (PySem.KxP.callKw PySem.F.excBase_ValueError (fun Y => PySem.HandSPX.refsVE_contains Y bm hbm) (I.kIn _ _ hC) (PySem.W.looks_findIn I.kIn iC)
    (fun self => PySem.W.bind_fn I.kIn self tI) hus (codeAny_mono (F.run _ X.stack _ _ ⟨Value.ref (hp.objs.size + 1) :: us, kw⟩ (Value.ref (hp.objs.size + 1) :: bs) (V.ref (hp.objs.size + 1) :: ys) _ E
      (hr.make C us kw) (I2.env0.make C us kw) (hb _ _ I2.kIn) (.cons rfl r) (h _ hn)) fun r s' hq' => ?_))
  cases r with
  | error e => exact hx pins σ _ _ e s' I2 hq'
  | ok fl =>
    cases fl with
    | ret u =>
      obtain ⟨v, H', I3, rv, ev, q3⟩ := I2.after hq'
      subst ev
      exact ⟨rv, ⟨V.ref (hp.objs.size + 1), H', I3, rfl, q3⟩⟩
    | next => exact False.elim hq'
    | brk => exact False.elim hq'
    | cont => exact False.elim hq'
/-- C(e, ..) as a value -/
def tMkV (C : Addr) (sp : Sp) (dvs : List V) (E : XK) (ta : TA) : TE := fun σ H Q => ta σ H fun vs H1 => vs.length ≤ 1000 ∧
  ∀ a, H1 a = none → sp (.ref a :: (vs ++ dvs)) (upd H1 a (exo a C none)) (fun v H2 => v = .non ∧ Q (.ref a) H2) E
theorem pe_mkV (T : OexC X.K C) (iC : PySem.W.findIn X.K (.ref C) "__init__" = some (some (.ref fI))) (tI : PySem.W.typeIn X.K (.ref fI) = some (.type "function"))
    (F : FnOk X.prog X.w X.K X.mg X.base CX k fI fd ps sp) (hr : Room (k + 1) X.A) (hg : Gl X x) (hm : X.mg x = some (.ref C)) (hb : Binds X.K fd ps ds) (hd : Vals dvs ds) (hx : Passes CX X E)
    (ha : PA X (e :: es) t) (hdb : (x == ("__debug__" : Str)) = false := by decide) (he : starEach (e :: es) X.env = (false, eval e X.env) :: starEach es X.env := by rfl)
    (hpl : (backTo pos (starEach es X.env)).any (·.1) = false := by rfl) : PE X (.Call (.Name x p) (e :: es) [] pos) (tMkV C sp dvs E t) := by
  refine ⟨fun pins s σ H Q I h => wpAny_Call_Name_kw (ld_glob I hg hm (PySem.W.callWith_K (h₀ := X.base) I.ok.mod.kin T.kC
    (thn (ha.run pos pins s σ H _ I h) fun us s1 ⟨vs, H1, I1, r, hz, q⟩ => ⟨I1.kIn, ?_⟩) he hpl) hdb)⟩
  have hus : us.length ≤ sizeLine := by
    rw [← Paired.length r, sizeLine_eq]
    omega
  have r2 := r.append hd
  refine run_mk (us := us) (kw := []) (bs := us ++ ds) T iC tI F hr hx (fun s' self hs => hb s' (self :: us) hs ?_) I1 r2 hus q
  have hl := F.len _ _ _ _ (q s1.heap.objs.size (I1.hok.fresh (Nat.le_refl _)))
  rw [List.length_append, List.length_cons, ← hl, List.length_cons, ← r2.length.symm, List.length_append]
  omega
theorem pe_mkV0 (T : OexC X.K C) (iC : PySem.W.findIn X.K (.ref C) "__init__" = some (some (.ref fI))) (tI : PySem.W.typeIn X.K (.ref fI) = some (.type "function"))
    (F : FnOk X.prog X.w X.K X.mg X.base CX k fI fd ps sp) (hr : Room (k + 1) X.A) (hg : Gl X x) (hm : X.mg x = some (.ref C)) (hb : Binds X.K fd ps ds) (hd : Vals dvs ds) (hx : Passes CX X E)
    (hdb : (x == ("__debug__" : Str)) = false := by decide) : PE X (.Call (.Name x p) [] [] pos) (tMkV C sp dvs E tNil) := by
  refine ⟨fun pins s σ H Q I ⟨_, h⟩ => wpAny_Call_Name_kw (ld_glob I hg hm (PySem.W.callWith_K0 I.kIn T.kC ?_) hdb)⟩
  refine run_mk (us := []) (kw := []) (bs := ds) T iC tI F hr hx (fun s' self hs => hb s' [self] hs ?_) I hd (Nat.zero_le _) h
  have hl := F.len _ _ _ _ (h _ (I.hok.fresh (Nat.le_refl _)))
  have hq := hd.length
  rw [List.length_append, ← hl]
  show 1 + ds.length = ([] ++ dvs).length + 1
  rw [List.nil_append, hq]
  omega
/-- C(k = v): one keyword -/
def tMkK (C : Addr) (sp : Sp) (E : XK) (tk : TA) : TE := fun σ H Q => tk σ H fun zs H1 =>
  ∀ a, H1 a = none → sp (.ref a :: zs) (upd H1 a (exo a C none)) (fun v H2 => v = .non ∧ Q (.ref a) H2) E
theorem pe_mkK (T : OexC X.K C) (iC : PySem.W.findIn X.K (.ref C) "__init__" = some (some (.ref fI))) (tI : PySem.W.typeIn X.K (.ref fI) = some (.type "function"))
    (F : FnOk X.prog X.w X.K X.mg X.base CX k fI fd ps sp) (hr : Room (k + 1) X.A) (hg : Gl X x) (hm : X.mg x = some (.ref C)) (hx : Passes CX X E)
    (hb : ∀ (s : Shared) (self : Value) (ws : List Value), X.K.In s.heap → ws.length = ks.length → BindsTo s fd ⟨[self], ks.zip ws⟩ (ps.zip (self :: ws)))
    (hkw : PK X kws tk) (hps : ps.length = ks.length + 1) (hall : (backToKw pos (keywordEach kws X.env)).all (·.1.isSome) = true := by rfl) (hks : (backToKw pos (keywordEach kws X.env)).filterMap (·.1) = ks := by rfl)
    (hdb : (x == ("__debug__" : Str)) = false := by decide) (hpl : ((backTo pos (starEach [] X.env)).any (·.1) || (backToKw pos (keywordEach kws X.env)).any (·.1.isNone)) = false := by rfl)
    : PE X (.Call (.Name x p) [] kws pos) (tMkK C sp E tk) := by
  refine ⟨fun pins s σ H Q I h => wpAny_Call_Name_kw (ld_glob I hg hm (PySem.W.callWith_KW0 (h₀ := X.base) I.ok.mod.kin T.kC hall
    (thn (hkw.run pos pins s σ H _ I h) fun ws s1 ⟨zs, H1, I1, r, q⟩ => ⟨I1.kIn, ?_⟩) hpl) hdb)⟩
  rw [hks]
  have hl := F.len _ _ _ _ (q _ (I1.hok.fresh (Nat.le_refl _)))
  refine run_mk (us := []) (bs := ws) T iC tI F hr hx (fun s' self hs => hb s' self ws hs ?_) I1 r (Nat.zero_le _) q
  rw [← r.length]
  rw [List.length_cons, hps] at hl
  omega
end
end Kx

set_option Elab.async false
set_option maxRecDepth 100000
set_option linter.all false
set_option maxHeartbeats 4000000
/-! KitE: own exception classes with one field that an __init__ sets from a default None; big powers; evaluation words. -/
namespace Kx
open PySem PySem.Spec PyProof.Rows L2 Evl

theorem op_powB {X : Cx} : OpR X (binaryOp .Pow) (rI (fun i j => 0 ≤ j ∧ (Builtin.Int.intBits i : Int) * j ≤ 2 ^ 27) fun i j => .int (i ^ j.toNat)) :=
  opI fun _ _ _ _ _ _ _ hc q => pow_int hc.1 hc.2 q
theorem same_ex {H H' : Hp} (e : Ex H H') : Same H H' := e
theorem ex_same {H H' : Hp} (e : Same H H') : Ex H H' := e

/-! ### an __init__ that sets one field -/
def spXI (C : Addr) (f : Str) : Sp := fun vs H Q _ => ∃ (a : Addr) (v : V), vs = [.ref a, v] ∧ H a = some (exo a C none) ∧
  ∀ d, H d = none → d ≠ a → Q .non (upd (upd H d (exd d [(f, v)])) a (exo a C (some d)))
section
variable {P : Program} {w : World} {K : PySem.W.Frag} {mg : Str → Option Value} {base : Heap}
theorem ok_XI {C fI : Addr} {fd : FuncData} {qual f : Str} {pa : Arguments} {bd : List Stmt} {sc : Scope} {p1 p2 p3 p4 : Pos}
    (F : FunD K "__init__" qual pa bd sc [V.non] [] fI fd) (S : FnScope ["self", f] ["self", f] sc)
    (hb : bd = [.Assign [.Attribute (.Name "self" p1) f p2] (.Name f p3) p4]) (T : OexC K C) (hno : PySem.W.findIn K (.ref C) f = some none)
    (v0 : Vis sc "self") (v1 : Vis sc f) (n1 : (f == ("__debug__" : Str)) = false) (n2 : (f == ("__classdict__" : Str)) = false)
    (hs : ∀ env : Env, swapsWith (.Name f p3) (some (.Attribute (.Name "self" p1) f p2)) p4.line env = pure false) :
    FnOk P w K mg base CX0 1 fI fd ["self", f] (spXI C f) := by
  refine F.ok (CX := CX0) S (fun vs H Q E h => ?_) (fun cdv A outer s H vs Q E hr h => ?_)
  · obtain ⟨a, v, rfl, _⟩ := h
    rfl
  · obtain ⟨a, v, rfl, ha, k⟩ := h
    subst hb
    refine ⟨_, PSs.nox (pss_one (ps_ost (pe_var (i := 0) rfl v0) (pe_var (i := 1) rfl v1 n1 n2) (hs _))), ?_⟩
    exact ⟨_, rfl, _, rfl, a, C, rfl, T, hno, .inl ⟨ha, fun d hd hne => k d hd hne⟩⟩
end

/-- an own exception class of the text whose __init__ sets the field f -/
structure XCls (P : Program) (w : World) (K : PySem.W.Frag) (mg : Str → Option Value) (x f : Str) (C fI : Addr) (fd : FuncData) : Prop where
  mgC : mg x = some (.ref C)
  o : OexC K C
  e : ExcC K C
  no : PySem.W.findIn K (.ref C) f = some none
  iC : PySem.W.findIn K (.ref C) "__init__" = some (some (.ref fI))
  tI : PySem.W.typeIn K (.ref fI) = some (.type "function")
  b2 : Binds K fd ["self", f] []
  b1 : ∃ ds, Vals [V.non] ds ∧ Binds K fd ["self", f] ds
  bk : ∀ (s : Shared) (self : Value) (ws : List Value), K.In s.heap → ws.length = 1 → BindsTo s fd ⟨[self], ([f] : List Str).zip ws⟩ ((["self", f] : List Str).zip (self :: ws))
  fn : ∀ base : Heap, FnOk P w K mg base CX0 1 fI fd ["self", f] (spXI C f)

/-- e is an exception of the class at C with the field f holding v -/
def XV (H : Hp) (e C : Addr) (f : Str) (v : V) : Prop := ∃ d, H e = some (exo e C (some d)) ∧ H d = some (exd d [(f, v)])
theorem XV.mono {H H' : Hp} {e C : Addr} {f : Str} {v : V} (x : Same H H') (h : XV H e C f v) : XV H' e C f v :=
  let ⟨d, a, b⟩ := h
  ⟨d, x _ _ a, x _ _ b⟩
theorem XV.xat {H : Hp} {e C : Addr} {f : Str} {v : V} (h : XV H e C f v) : ∃ dx fs, XAt H e C (some dx) ∧ FAt H dx fs :=
  let ⟨d, a, b⟩ := h
  ⟨d, _, xat_exo a, .inl b⟩
/-- a new exception with its field: what was there stays -/
theorem xv_made {H : Hp} {C a d : Addr} {f : Str} {v : V} (ha : H a = none) (hd : (upd H a (exo a C none)) d = none) (hne : d ≠ a) :
    Same H (upd (upd (upd H a (exo a C none)) d (exd d [(f, v)])) a (exo a C (some d))) ∧ XV (upd (upd (upd H a (exo a C none)) d (exd d [(f, v)])) a (exo a C (some d))) a C f v := by
  refine ⟨fun b o e => ?_, d, upd_same, by rw [upd_ne hne]; exact upd_same⟩
  have h1 : b ≠ a := ne_of_none e ha
  have h2 : b ≠ d := fun z => by
    rw [← z, upd_ne h1, e] at hd
    cases hd
  rw [upd_ne h1, upd_ne h2, upd_ne h1]
  exact e

section
variable {X : Cx} {fI C : Addr} {fd : FuncData} {x f : Str} {p pos : Pos}
/-- C(e), C(), C(f = e) of such a class, telling only that it holds the field -/
def tXV (C : Addr) (f : Str) (te : TE) : TE := fun σ H Q => te σ H fun v H1 => ∀ a H2, H1 a = none → Same H1 H2 → XV H2 a C f v → Q (.ref a) H2
theorem PE.imp {e : Expr} {t t' : TE} (h : PE X e t) (k : ∀ σ H Q, t' σ H Q → t σ H Q) : PE X e t' := ⟨fun pins s σ H Q I q => h.run pins s σ H Q I (k σ H Q q)⟩
theorem pe_xv1 {e : Expr} {te : TE} (T : XCls X.prog X.w X.K X.mg x f C fI fd) (hr : Room 2 X.A) (hg : Gl X x) (he : PE X e te)
    (hm : ∀ σ H (Q Q' : VK), (∀ v H1, Q v H1 → Q' v H1) → te σ H Q → te σ H Q')
    (hdb : (x == ("__debug__" : Str)) = false := by decide) (hs : starEach [e] X.env = (false, eval e X.env) :: starEach [] X.env := by rfl)
    (hpl : (backTo pos (starEach [] X.env)).any (·.1) = false := by rfl) : PE X (.Call (.Name x p) [e] [] pos) (tXV C f te) := by
  refine PE.imp (pe_mkV T.o T.iC T.tI (T.fn X.base) hr hg T.mgC T.b2 .nil pass0 (pa_cons he pa_nil hs) hdb hs hpl) fun σ H Q q => ?_
  refine hm σ H _ _ (fun v H1 k => ?_) q
  refine ⟨by show 1 ≤ 1000; decide, fun a ha => ⟨a, v, rfl, upd_same, fun d hd hne => ⟨rfl, ?_⟩⟩⟩
  obtain ⟨h1, h2⟩ := xv_made (f := f) (v := v) ha hd hne
  exact k a _ ha h1 h2
theorem pe_xv0 (T : XCls X.prog X.w X.K X.mg x f C fI fd) (hr : Room 2 X.A) (hg : Gl X x) (hdb : (x == ("__debug__" : Str)) = false := by decide) :
    PE X (.Call (.Name x p) [] [] pos) (tXV C f (tC .non)) := by
  obtain ⟨ds, hd, hb⟩ := T.b1
  refine PE.imp (pe_mkV0 T.o T.iC T.tI (T.fn X.base) hr hg T.mgC hb hd pass0 hdb) fun σ H Q q => ?_
  refine ⟨Nat.zero_le _, fun a ha => ⟨a, .non, rfl, upd_same, fun d hd hne => ⟨rfl, ?_⟩⟩⟩
  obtain ⟨h1, h2⟩ := xv_made (f := f) (v := .non) ha hd hne
  exact q a _ ha h1 h2
theorem pe_xvk {e : Expr} {te : TE} {kp : Pos} (T : XCls X.prog X.w X.K X.mg x f C fI fd) (hr : Room 2 X.A) (hg : Gl X x) (he : PE X e te)
    (hm : ∀ σ H (Q Q' : VK), (∀ v H1, Q v H1 → Q' v H1) → te σ H Q → te σ H Q')
    (hall : (backToKw pos (keywordEach [⟨some f, e, kp⟩] X.env)).all (·.1.isSome) = true := by rfl) (hks : (backToKw pos (keywordEach [⟨some f, e, kp⟩] X.env)).filterMap (·.1) = [f] := by rfl)
    (hdb : (x == ("__debug__" : Str)) = false := by decide) (hpl : ((backTo pos (starEach [] X.env)).any (·.1) || (backToKw pos (keywordEach [⟨some f, e, kp⟩] X.env)).any (·.1.isNone)) = false := by rfl) :
    PE X (.Call (.Name x p) [] [⟨some f, e, kp⟩] pos) (tXV C f te) := by
  refine PE.imp (pe_mkK (ks := [f]) T.o T.iC T.tI (T.fn X.base) hr hg T.mgC pass0 T.bk (pk_cons he pk_nil) rfl hall hks hdb hpl) fun σ H Q q => ?_
  refine hm σ H _ _ (fun v H1 k => ?_) q
  refine fun a ha => ⟨a, v, rfl, upd_same, fun d hd hne => ⟨rfl, ?_⟩⟩
  obtain ⟨h1, h2⟩ := xv_made (f := f) (v := v) ha hd hne
  exact k a _ ha h1 h2
/-- C() of an own exception class without own __init__ -/
theorem pe_exc0 {bmB : List Value} {B newId initId : String} (F : ExcBaseFacts B newId initId bmB) (q : PySem.W.excIn X.K C bmB newId = true) (gC : X.mg x = some (.ref C)) (kC : PySem.W.keepIn X.K (.ref C) = true) (hg : Gl X x)
    (hdb : (x == ("__debug__" : Str)) = false := by decide) : PE X (.Call (.Name x p) [] [] pos) (fun σ H Q => ∀ a, H a = none → Q (.ref a) (upd H a (ExO (.ref C) a))) := by
  refine ⟨fun pins s σ H Q I h => wpAny_Call_Name_kw (ld_glob I hg gC (PySem.W.callWith_K0 I.kIn kC ?_) hdb)⟩
  show wpAny _ _ (call (.ref C) []) _ _ _
  obtain ⟨bm, N, nm, qn, bs, hdct, sn, sub, ab, col, dd, k0, k1, k2, k3, k5, mN, hC, hN, hni, T⟩ := exc_obj I.kIn q
  refine wpAny_call_exc_subT F T hC hN hni (fun h' a hm => ?_) (Nat.zero_le _)
  have hn : H a = none := I.hok.gone hm.new
  obtain ⟨t, ht, _, _⟩ := hm.there
  exact ⟨.ref a, upd H a (ExO (.ref C) a), I.laidN hm.keeps hm.new hn (exO_ok ht ⟨rfl, rfl⟩ rfl rfl rfl (show 4 < 6 by decide)), rfl, h a hn⟩
end
theorem xat_ExO {H : Hp} {a C : Addr} (h : H a = some (ExO (.ref C) a)) : XAt H a C none :=
  ⟨_, h, fun _ ⟨oe, vs, e, z, d, _⟩ => ⟨oe, e, z.1, z.2, by unfold PySem.W.notCls; rw [d]⟩⟩
end Kx

set_option Elab.async false
set_option maxRecDepth 100000
set_option linter.all false
set_option maxHeartbeats 4000000
/-! KitF: how long data shows; evaluation to data (a known part G of the heap, that only grows). -/
namespace Kx
open PySem PySem.Spec PyProof.Rows L2 Evl

/-! ### how long data shows -/
mutual
def bnd : PyData → Nat
  | .none => 4
  | .bool _ => 5
  | .int i => i.natAbs.log2 + 2
  | .str x => (reprText x).length
  | .list xs => 2 + bndA xs
  | .tuple xs => 3 + bndA xs
  | .dict kvs => 2 + bndD kvs
def bndA : List PyData → Nat
  | [] => 0
  | x :: xs => bnd x + 2 + bndA xs
def bndD : List (PyData × PyData) → Nat
  | [] => 0
  | (k, v) :: r => bnd k + bnd v + 4 + bndD r
end
def lens (ts : List Str) : Nat := (ts.map fun t => t.length + 2).sum
theorem textFrom_le : ∀ (ts : List Str) (k : Nat) (acc : Str), (textFrom k acc ts).length ≤ acc.length + lens ts
  | [], k, acc => Nat.le_add_right _ _
  | t :: r, k, acc => by
    have h := textFrom_le r (k + 1) (acc ++ (if k > 0 then ", " else "" : String) ++ t)
    have e : (acc ++ (Str.ofString (if k > 0 then ", " else "")) ++ t).length ≤ acc.length + 2 + t.length := by
      rw [strLen_append, strLen_append]
      have h2 : (Str.ofString (if k > 0 then ", " else "")).length ≤ 2 := by
        split <;> decide
      omega
    have e2 : lens (t :: r) = t.length + 2 + lens r := by
      unfold lens
      rw [List.map_cons, List.sum_cons]
    rw [e2]
    refine Nat.le_trans h ?_
    have e3 : (acc ++ (if k > 0 then ", " else "" : String) ++ t).length ≤ acc.length + 2 + t.length := e
    omega
theorem listText_le (ts : List Str) : (listText ts).length ≤ 2 + lens ts := by
  unfold listText
  rw [strLen_append]
  have h := textFrom_le ts 0 "["
  have e1 : Str.length ("[" : Str) = 1 := by decide
  have e2 : Str.length ("]" : Str) = 1 := by decide
  omega
theorem piled_eq : ∀ ts : List Str, piled ts = lens ts
  | [] => rfl
  | t :: r => by
    have e := piled_eq r
    unfold lens at e ⊢
    rw [List.map_cons, List.sum_cons, ← e]
    simp [piled]
theorem joined_le (ts : List Str) : (Str.join ", " ts).length ≤ lens ts := by
  by_cases h : ts = []
  · subst h
    decide
  · have e := join_length_add ts h
    rw [piled_eq] at e
    omega
theorem tupleText_le (ts : List Str) : (tupleText ts).length ≤ 3 + lens ts := by
  unfold tupleText
  rw [strLen_append, strLen_append]
  have h := joined_le ts
  have e1 : Str.length ("(" : Str) = 1 := by decide
  have e2 : (Str.ofString (if ts.length == 1 then ",)" else ")")).length ≤ 2 := by
    split <;> decide
  have e3 : Str.length ((if ts.length == 1 then ",)" else ")" : String) : Str) ≤ 2 := e2
  omega
theorem dictText_le (ts : List Str) : (dictText ts).length ≤ 2 + lens ts := by
  unfold dictText
  rw [strLen_append, strLen_append]
  have h := joined_le ts
  have e1 : Str.length ("{" : Str) = 1 := by decide
  have e2 : Str.length ("}" : Str) = 1 := by decide
  omega
mutual
theorem shown_le : ∀ d : PyData, d.shown.length ≤ bnd d
  | .none => by
    simp only [PyData.shown, bnd]
    decide
  | .bool b => by
    simp only [PyData.shown, bnd]
    cases b <;> decide
  | .int i => by
    simp only [PyData.shown, bnd]
    have h := int_text_length_le (a := i) (k := i.natAbs.log2 + 1) (Nat.succ_pos _) (Nat.lt_succ_self _)
    have e : Str.length (Str.ofString (toString i)) = (toString i).length := PySem.ofString_length _
    show Str.length (Str.ofString (toString i)) ≤ _
    omega
  | .str x => by
    simp only [PyData.shown, bnd]
    exact Nat.le_refl _
  | .list xs => by
    simp only [PyData.shown, bnd]
    exact Nat.le_trans (listText_le _) (Nat.add_le_add_left (shownAll_le xs) _)
  | .tuple xs => by
    simp only [PyData.shown, bnd]
    exact Nat.le_trans (tupleText_le _) (Nat.add_le_add_left (shownAll_le xs) _)
  | .dict kvs => by
    simp only [PyData.shown, bnd]
    exact Nat.le_trans (dictText_le _) (Nat.add_le_add_left (shownKv_le kvs) _)
theorem shownAll_le : ∀ xs : List PyData, lens (PyData.shownAll xs) ≤ bndA xs
  | [] => by
    simp only [PyData.shownAll, bndA]
    decide
  | x :: xs => by
    have h1 := shown_le x
    have h2 := shownAll_le xs
    simp only [PyData.shownAll, bndA]
    have e : lens (PyData.shown x :: PyData.shownAll xs) = (PyData.shown x).length + 2 + lens (PyData.shownAll xs) := by
      unfold lens
      rw [List.map_cons, List.sum_cons]
    omega
theorem shownKv_le : ∀ xs : List (PyData × PyData), lens (PyData.shownKv xs) ≤ bndD xs
  | [] => by
    simp only [PyData.shownKv, bndD]
    decide
  | (k, v) :: xs => by
    have h1 := shown_le k
    have h3 := shown_le v
    have h2 := shownKv_le xs
    simp only [PyData.shownKv, bndD]
    have e : lens ((PyData.shown k ++ ": " ++ PyData.shown v) :: PyData.shownKv xs) = (PyData.shown k).length + 2 + (PyData.shown v).length + 2 + lens (PyData.shownKv xs) := by
      unfold lens
      rw [List.map_cons, List.sum_cons, strLen_append, strLen_append]
      have e1 : Str.length (": " : Str) = 2 := by decide
      rw [e1]
      try omega
    omega
end

/-! ### the known part of the heap grows -/
structure Ext (G H1 G2 H2 : Hp) : Prop where
  hh : Ex H1 H2
  gg : Ex G G2
  gh : Ex G2 H2
  ag : ∀ a o, H1 a = some o → G2 a = G a
theorem Ext.refl {G H : Hp} (e : Ex G H) : Ext G H G H := ⟨Ex.refl H, Ex.refl G, e, fun _ _ _ => rfl⟩
theorem Ext.trans {G H1 G2 H2 G3 H3 : Hp} (a : Ext G H1 G2 H2) (b : Ext G2 H2 G3 H3) : Ext G H1 G3 H3 :=
  ⟨a.hh.trans b.hh, a.gg.trans b.gg, b.gh, fun c o h => (b.ag c o (a.hh c o h)).trans (a.ag c o h)⟩
/-- a new object, known from now on -/
theorem Ext.new {G H H2 : Hp} {p : Addr} {o : HO} (e : Ex G H) (hp : H p = none) (hh : Ex H H2) (h : H2 p = some o) : Ext G H (upd G p o) H2 := by
  refine ⟨hh, Ex.new (fresh_back e hp), fun a u q => ?_, fun a u q => upd_ne (ne_of_none q hp)⟩
  by_cases z : a = p
  · rw [z, upd_same] at q
    rw [z, h]
    exact q
  · rw [upd_ne z] at q
    exact hh a u (e a u q)
/-- .. where the known part had grown before -/
theorem Ext.more {G H1 G2 H2 H3 : Hp} {p : Addr} {o : HO} (x : Ext G H1 G2 H2) (hp : H2 p = none) (hh : Ex H2 H3) (h : H3 p = some o) : Ext G H1 (upd G2 p o) H3 := x.trans (Ext.new x.gh hp hh h)

/-- te gives a value of the data d, G being known -/
def EvD (K : PySem.W.Frag) (te : TE) (σ : L2.St) (G : Hp) (d : PyData) : Prop := ∀ H1, Ex G H1 → ∀ Q : VK, (∀ v G2 H2, Ext G H1 G2 H2 → Dq K G2 v d → Q v H2) → te σ H1 Q
def EvDA (K : PySem.W.Frag) (ta : TA) (σ : L2.St) (G : Hp) (ds : List PyData) : Prop := ∀ H1, Ex G H1 → ∀ Q : List V → Hp → Prop, (∀ vs G2 H2, Ext G H1 G2 H2 → DqA K G2 vs ds → Q vs H2) → ta σ H1 Q
section
variable {K : PySem.W.Frag} {σ : L2.St} {G G' : Hp} {te ta tb : TE} {d : PyData}
theorem EvD.mono (e : Ex G G') (h : EvD K te σ G d) : EvD K te σ G' d := fun H1 a Q q => h H1 (e.trans a) Q fun v G2 H2 x hd => by
  let G3 : Hp := fun b => match G' b with
    | some o => some o
    | none => G2 b
  have e3 : Ex G2 G3 := fun b o hb => by
    show (match G' b with | some o => some o | none => G2 b) = some o
    cases z : G' b with
    | none => exact hb
    | some o' =>
      have h1 := x.hh b o' (a b o' z)
      have h2 := x.gh b o hb
      rw [h1] at h2
      exact h2
  refine q v G3 H2 ⟨x.hh, fun b o hb => ?_, fun b o hb => ?_, fun b o hb => ?_⟩ (hd.mono (same_ex e3))
  · show (match G' b with | some o => some o | none => G2 b) = some o
    rw [hb]
  · have hb' : (match G' b with | some o => some o | none => G2 b) = some o := hb
    cases z : G' b with
    | none =>
      rw [z] at hb'
      exact x.gh b o hb'
    | some o' =>
      rw [z] at hb'
      rw [← hb']
      exact x.hh b o' (a b o' z)
  · show (match G' b with | some o => some o | none => G2 b) = G' b
    cases z : G' b with
    | none =>
      show G2 b = none
      rw [x.ag b o hb]
      cases z2 : G b with
      | none => rfl
      | some u =>
        rw [e b u z2] at z
        cases z
    | some o' => rfl
theorem ed_ev {v : V} (h : Ev te σ G v) (hd : Dq K G v d) : EvD K te σ G d := fun H1 e Q q => h H1 e Q fun H2 e2 => q v G H2 ⟨e2, Ex.refl G, e.trans e2, fun _ _ _ => rfl⟩ hd
theorem ed_evL {xs : List V} {ds : List PyData} (h : EvL te σ G xs) (hd : DqA K G xs ds) : EvD K te σ G (.list ds) := fun H1 e Q q => h H1 e Q fun p H2 hp e2 hx =>
  q _ _ H2 (Ext.new e hp e2 hx) (.lst upd_same (hd.mono (same_ex (Ex.new (fresh_back e hp)))))
theorem eda_nil : EvDA K tNil σ G [] := fun H1 e Q q => q [] G H1 (Ext.refl e) .nil
theorem eda_cons {tr : TA} {ds : List PyData} (h : EvD K te σ G d) (hr : ∀ G1, Ex G G1 → EvDA K tr σ G1 ds) : EvDA K (tCons te tr) σ G (d :: ds) := fun H1 e Q q =>
  h H1 e _ fun v G2 H2 x hd => hr G2 x.gg H2 x.gh _ fun vs G3 H3 y hds => q _ G3 H3 (x.trans y) (.cons (hd.mono (same_ex y.gg)) hds)
theorem dqa_len {H : Hp} : ∀ {vs : List V} {ds : List PyData}, DqA K H vs ds → vs.length = ds.length
  | _, _, .nil => rfl
  | _, _, .cons _ b => congrArg Nat.succ (dqa_len b)
theorem ed_lst {ta : TA} {ds : List PyData} (h : EvDA K ta σ G ds) (hl : ds.length ≤ 100000) : EvD K (tLst ta) σ G (.list ds) := fun H1 e Q q =>
  h H1 e _ fun vs G2 H2 x hd => ⟨sz_of (by rw [dqa_len hd]; exact hl), fun p hp => q _ _ _ (x.more hp (Ex.new hp) upd_same) (.lst upd_same (hd.mono (same_ex (Ex.new (fresh_back x.gh hp)))))⟩
theorem ed_tup {ta : TA} {ds : List PyData} (h : EvDA K ta σ G ds) (hl : ds.length ≤ 100000) : EvD K (tTup ta) σ G (.tuple ds) := fun H1 e Q q =>
  h H1 e _ fun vs G2 H2 x hd => ⟨sz_of (by rw [dqa_len hd]; exact hl), fun p hp => q _ _ _ (x.more hp (Ex.new hp) upd_same) (.tup (.inl (.inl upd_same)) (hd.mono (same_ex (Ex.new (fresh_back x.gh hp)))))⟩

/-! ### comprehensions of data -/
def gvn (n : Nat) (f : Nat → Bool) (ds : Nat → PyData) : List PyData := ((List.range n).filter f).map ds
theorem gvn_yes {n : Nat} {f : Nat → Bool} {ds : Nat → PyData} (h : f n = true) : gvn (n + 1) f ds = gvn n f ds ++ [ds n] := by
  unfold gvn
  rw [List.range_succ, List.filter_append, List.map_append, List.filter_cons, if_pos h] <;> rfl
theorem gvn_no {n : Nat} {f : Nat → Bool} {ds : Nat → PyData} (h : f n = false) : gvn (n + 1) f ds = gvn n f ds := by
  unfold gvn
  rw [List.range_succ, List.filter_append, List.map_append, List.filter_cons, if_neg (by rw [h]; decide)]
  exact List.append_nil _
theorem gvn_len (n : Nat) (f : Nat → Bool) (ds : Nat → PyData) : (gvn n f ds).length ≤ n := by
  unfold gvn
  rw [List.length_map]
  have h := List.length_filter_le f (List.range n)
  rw [List.length_range] at h
  exact h
theorem dqa_app {H : Hp} {v : V} : ∀ {vs : List V} {ds : List PyData}, DqA K H vs ds → Dq K H v d → DqA K H (vs ++ [v]) (ds ++ [d])
  | _, _, .nil, h => .cons h .nil
  | _, _, .cons a b, h => .cons a (dqa_app b h)
/-- the word between two turns: Dl grows, all it holds is known without it -/
def Cd (K : PySem.W.Frag) (G H1 : Hp) (f : Nat → Bool) (ds : Nat → PyData) (Dl : Addr) (i : Nat) (H' : Hp) : Prop :=
  ∃ Gi vs, Ext G H1 Gi H' ∧ Gi Dl = none ∧ H' Dl = some (.lst vs) ∧ DqA K Gi vs (gvn i f ds)
theorem cd_turn {G H1 H' : Hp} {f : Nat → Bool} {ds : Nat → PyData} {Dl : Addr} {i : Nat} {σ2 : L2.St} {t : TT} (hD : H1 Dl = none) (p : Cd K G H1 f ds Dl i H') (hi : i < 50000)
    (ht : ∀ G1, Ex G G1 → EvT t σ2 G1 (f i)) (he : ∀ G1, Ex G G1 → f i = true → EvD K te σ2 G1 (ds i)) :
    t σ2 H' fun b H3 => if b = true then te σ2 H3 fun y H4 => ∃ acc, H4 Dl = some (.lst acc) ∧ acc.length < sizeLine ∧ Cd K G H1 f ds Dl (i + 1) (upd H4 Dl (.lst (acc ++ [y]))) else Cd K G H1 f ds Dl (i + 1) H3 := by
  obtain ⟨Gi, vs, x, g0, hv, hd⟩ := p
  refine ht Gi x.gg H' x.gh _ fun H3 e3 => ?_
  cases hf : f i with
  | true =>
    show te σ2 H3 _
    refine he Gi x.gg hf H3 (x.gh.trans e3) _ fun y G2 H4 z hy => ?_
    have e4 : H4 Dl = some (.lst vs) := z.hh _ _ (e3 _ _ hv)
    have g2 : G2 Dl = none := (z.ag _ _ (e3 _ _ hv)).trans g0
    refine ⟨vs, e4, sz_lt (by have h1 := dqa_len hd; have h2 := gvn_len i f ds; omega), G2, vs ++ [y], ⟨?_, x.gg.trans z.gg, ?_, ?_⟩, g2, upd_same, ?_⟩
    · exact Ex.mut ((x.hh.trans e3).trans z.hh) hD
    · exact Ex.mut z.gh g2
    · intro a o ha
      exact (z.ag a o (e3 _ _ (x.hh a o ha))).trans (x.ag a o ha)
    · rw [gvn_yes hf]
      exact dqa_app (hd.mono (same_ex z.gg)) hy
  | false =>
    show Cd K G H1 f ds Dl (i + 1) H3
    refine ⟨Gi, vs, ⟨x.hh.trans e3, x.gg, x.gh.trans e3, x.ag⟩, g0, e3 _ _ hv, ?_⟩
    rw [gvn_no hf]
    exact hd
theorem cd_end {G H1 H' : Hp} {f : Nat → Bool} {ds : Nat → PyData} {Dl : Addr} {n : Nat} (hD : H1 Dl = none) (p : Cd K G H1 f ds Dl n H') : ∃ G2, Ext G H1 G2 H' ∧ Dq K G2 (.ref Dl) (.list (gvn n f ds)) := by
  obtain ⟨Gi, vs, x, g0, hv, hd⟩ := p
  refine ⟨upd Gi Dl (.lst vs), ⟨x.hh, x.gg.trans (Ex.new g0), fun a o h => ?_, fun a o h => ?_⟩, .lst upd_same (hd.mono (same_ex (Ex.new g0)))⟩
  · by_cases z : a = Dl
    · rw [z, upd_same] at h
      rw [z, hv]
      exact h
    · rw [upd_ne z] at h
      exact x.gh a o h
  · rw [upd_ne (ne_of_none h hD)]
    exact x.ag a o h
theorem cd_start {G H1 : Hp} {f : Nat → Bool} {ds : Nat → PyData} {Dl : Addr} (e : Ex G H1) (hD : H1 Dl = none) : Cd K G H1 f ds Dl 0 (upd H1 Dl (.lst [])) :=
  ⟨G, [], ⟨Ex.new hD, Ex.refl G, e.trans (Ex.new hD), fun _ _ _ => rfl⟩, fresh_back e hD, upd_same, .nil⟩
variable {t : TT}
theorem ed_lcL {a : Addr} {xs : List V} {tl : TE} {j : Nat} {ws : List Nat} (f : Nat → Bool) (ds : Nat → PyData) (h : Ev tl σ G (.ref a)) (hx : SqL K G a xs) (hz : xs.length ≤ 40000) (hw : ∀ x, wipe ((wipe σ ws).set j (some x)) ws = wipe σ ws)
    (ht : ∀ (i : Nat) (x : V) G1, Ex G G1 → xs[i]? = some x → EvT t ((wipe σ ws).set j (some x)) G1 (f i)) (he : ∀ (i : Nat) (x : V) G1, Ex G G1 → xs[i]? = some x → f i = true → EvD K te ((wipe σ ws).set j (some x)) G1 (ds i)) :
    EvD K (tLc (iList K tl) (gName j) t te ws) σ G (.list (gvn xs.length f ds)) := fun H0 e Q q => h H0 e _ fun H1 e1 => ⟨a, rfl, ⟨xs, ex_l (e.trans e1) hx⟩, fun Dl hD =>
  lc_list (xs := xs) (Cd K G H1 f ds Dl) (cd_start (e.trans e1) hD) (fun i H' _ p => by obtain ⟨Gi, vs, x, _⟩ := p; exact ex_l (x.gg.trans x.gh) hx)
    (fun i x H' hi p => ⟨hw x, cd_turn hD p (by have := (List.getElem?_eq_some_iff.mp hi).1; omega) (fun G1 g1 => ht i x G1 g1 hi) (fun G1 g1 hf => he i x G1 g1 hi hf)⟩)
    (fun H' p => by
      obtain ⟨G2, x, hd⟩ := cd_end hD p
      exact q _ G2 H' ⟨e1.trans x.hh, x.gg, x.gh, fun b o hb => x.ag b o (e1 b o hb)⟩ hd)⟩
theorem ed_lcR {ta : TA} {j : Nat} {ws : List Nat} {n : Int} (f : Nat → Bool) (ds : Nat → PyData) (h : EvA ta σ G [.int n]) (hn : 0 ≤ n ∧ n ≤ 40000) (hw : ∀ x, wipe ((wipe σ ws).set j (some x)) ws = wipe σ ws)
    (ht : ∀ (i : Nat) G1, Ex G G1 → (i : Int) < n → EvT t ((wipe σ ws).set j (some (.int (i : Int)))) G1 (f i)) (he : ∀ (i : Nat) G1, Ex G G1 → (i : Int) < n → f i = true → EvD K te ((wipe σ ws).set j (some (.int (i : Int)))) G1 (ds i)) :
    EvD K (tLc (iRng1 ta) (gName j) t te ws) σ G (.list (gvn n.toNat f ds)) := fun H0 e Q q => h H0 e _ fun H1 e1 => ⟨n, rfl, by omega, by omega, fun Dl hD =>
  lc_range (lo := 0) (n := n.toNat) (Cd K G H1 f ds Dl) (cd_start (e.trans e1) hD) (fun i H' hi p => by
      have e0 : (0 : Int) + (i : Int) = (i : Int) := Int.zero_add _
      show wipe ((wipe σ ws).set j (some (.int ((0 : Int) + (i : Int))))) ws = wipe σ ws ∧ t ((wipe σ ws).set j (some (.int ((0 : Int) + (i : Int))))) H' _
      rw [e0]
      exact ⟨hw _, cd_turn hD p (by omega) (fun G1 g1 => ht i G1 g1 (by omega)) (fun G1 g1 hf => he i G1 g1 (by omega) hf)⟩)
    (fun H' p => by
      obtain ⟨G2, x, hd⟩ := cd_end hD p
      exact q _ G2 H' ⟨e1.trans x.hh, x.gg, x.gh, fun b o hb => x.ag b o (e1 b o hb)⟩ hd)⟩
theorem et_yes {H : Hp} : EvT tYes σ H true := fun H1 _ _ q => q H1 (Ex.refl H1)
theorem el_cat {H : Hp} {a : Addr} {xs ys : List V} (ha : Ev ta σ H (.ref a)) (h : H a = some (.lst xs)) (hb : EvL tb σ H ys) (hl : xs.length + ys.length ≤ 100000) : EvL (tOp rCat ta tb) σ H (xs ++ ys) := fun H1 e Q q =>
  ha H1 e _ fun H2 e2 => hb H2 (e.trans e2) _ fun p H3 hp e3 h3 => ⟨a, p, xs, ys, rfl, rfl, e3 _ _ (e2 _ _ (e _ _ h)), h3, sz_of hl,
    fun l hl' => q l _ (fresh_back (e2.trans e3) hl') ((e2.trans e3).trans (Ex.new hl')) upd_same⟩
theorem el_catLL {H : Hp} {xs ys : List V} (ha : EvL ta σ H xs) (hb : ∀ H1, Ex H H1 → EvL tb σ H1 ys) (hl : xs.length + ys.length ≤ 100000) : EvL (tOp rCat ta tb) σ H (xs ++ ys) := fun H1 e Q q =>
  ha H1 e _ fun p H2 hp e2 h2 => hb H2 (e.trans e2) H2 (Ex.refl H2) _ fun p' H3 hp' e3 h3 => ⟨p, p', xs, ys, rfl, rfl, e3 _ _ h2, h3, sz_of hl,
    fun l hl' => q l _ (fresh_back (e2.trans e3) hl') ((e2.trans e3).trans (Ex.new hl')) upd_same⟩
/-- two data compared, no dicts in them -/
theorem dp_of {H : Hp} : ∀ {d : PyData} {v : V}, Dq K H v d → d.hasDict = false → Dp K H v d := by
  intro d v h
  exact Dq.rec (motive_1 := fun v d _ => d.hasDict = false → Dp K H v d) (motive_2 := fun vs ds _ => PyData.hasDictAll ds = false → DpAll K H vs ds) (motive_3 := fun _ _ _ => True)
    (fun _ => .non) (fun b _ => .bl b) (fun i _ => .int i) (fun x _ => .str x)
    (fun h1 _ ih q => .lst (SqL.of h1) (ih (by simpa only [PyData.hasDict] using q)))
    (fun h1 _ ih q => .tup h1 (ih (by simpa only [PyData.hasDict] using q)))
    (fun _ _ _ q => absurd q (by simp only [PyData.hasDict]; decide))
    (fun _ => .nil)
    (fun _ _ i1 i2 q => by
      simp only [PyData.hasDictAll, Bool.or_eq_false_iff] at q
      exact .cons (i1 q.1) (i2 q.2))
    trivial (fun _ _ _ _ => trivial) h
end
end Kx
namespace Kx
open PySem PySem.Spec PyProof.Rows L2 Evl
section
variable {X : Cx} {K : PySem.W.Frag}
theorem pe_cls {x : Str} {C : Addr} {pos : Pos} (hg : Gl X x) (hm : X.mg x = some (.ref C)) (hd : (x == ("__debug__" : Str)) = false := by decide) : PE X (.Name x pos) (tC (.ref C)) := pe_glob hg hm rfl hd
/-- the rules that name the written part, the part told from outside (for a comprehension's block) -/
theorem pe_xatK {e : Expr} {te : TE} {pos : Pos} {n : Str} (he : PE X e te) (h : X.K = K := by rfl) (hb : attributeBase e n X.env (eval e X.env) = eval e X.env := by rfl) : PE X (.Attribute e n pos) (tXat K n te) := h ▸ pe_xat he hb
theorem isX_K (h : X.K = K := by rfl) : CallR X (.builtin "isinstance") (rIsX K) := h ▸ call_isX
theorem isi_K (h : X.K = K := by rfl) : CallR X (.builtin "isinstance") (rIsi K) := h ▸ call_isi
theorem ixL_K (h : X.K = K := by rfl) : IxR X (rIxL K) := h ▸ ix_list
theorem ixT_K (h : X.K = K := by rfl) : IxR X (rIxT K) := h ▸ ix_tup
end
end Kx

set_option Elab.async false
set_option maxRecDepth 100000
set_option linter.all false
set_option maxHeartbeats 4000000
/-! KitG: evaluation words for repr, comparisons of data, copies. -/
namespace Kx
open PySem PySem.Spec PyProof.Rows L2 Evl
/-- what may be shown -/
def okD (d : PyData) : Prop := d.showable = true ∧ d.depth ≤ 50 ∧ bnd d ≤ 1000000
theorem okD.fits {d : PyData} (h : okD d) : d.showable = true ∧ d.depth ≤ 60 ∧ d.shown.length ≤ sizeLine :=
  ⟨h.1, Nat.le_trans h.2.1 (by decide), Nat.le_trans (shown_le d) (Nat.le_trans h.2.2 (by decide))⟩
def okL (ds : List PyData) : Prop := (PyData.list ds).showable = true ∧ (PyData.list ds).depth ≤ 60 ∧ bnd (.list ds) ≤ 16000000
section
variable {K : PySem.W.Frag} {σ : L2.St} {G H : Hp} {te ta tb : TE} {d e : PyData} {v : V}
theorem ev_repr (h : Ev te σ H v) (y : Sys H) (hd : Dq K H v d) (ok : okD d) : Ev (tCB (rRepr K) (tCons te tNil)) σ H (.str d.shown) := fun H1 x Q q =>
  h H1 x _ fun H2 x2 => ⟨v, d, rfl, y.mono (same_ex (x.trans x2)), hd.mono (same_ex (x.trans x2)), ok.fits.1, ok.fits.2.1, ok.fits.2.2, q H2 x2⟩
theorem ev_reprB (h : Ev te σ H v) (y : Sys H) (hd : Dq K H v d) (o1 : d.showable = true) (o2 : d.depth ≤ 60) (o3 : bnd d ≤ 16000000) : Ev (tCB (rRepr K) (tCons te tNil)) σ H (.str d.shown) := fun H1 x Q q =>
  h H1 x _ fun H2 x2 => ⟨v, d, rfl, y.mono (same_ex (x.trans x2)), hd.mono (same_ex (x.trans x2)), o1, o2, Nat.le_trans (shown_le d) (Nat.le_trans o3 (by decide)), q H2 x2⟩
theorem ev_reprN {xs : List V} {ds : List PyData} (h : EvL te σ H xs) (y : Sys H) (hd : DqA K H xs ds) (ok : okL ds) : Ev (tCB (rRepr K) (tCons te tNil)) σ H (.str (PyData.list ds).shown) := fun H1 x Q q =>
  h H1 x _ fun p H2 hp x2 hx => ⟨_, .list ds, rfl, y.mono (same_ex (x.trans x2)), .lst hx (hd.mono (same_ex (x.trans x2))), ok.1, ok.2.1, Nat.le_trans (shown_le _) (Nat.le_trans ok.2.2 (by decide)), q H2 x2⟩
theorem ed_repr (h : EvD K te σ G d) (y : Sys G) (ok : okD d) : Ev (tCB (rRepr K) (tCons te tNil)) σ G (.str d.shown) := fun H1 x Q q =>
  h H1 x _ fun v G2 H2 z hd => ⟨v, d, rfl, y.mono (same_ex (z.gg.trans z.gh)), hd.mono (same_ex z.gh), ok.fits.1, ok.fits.2.1, ok.fits.2.2, q H2 z.hh⟩
theorem el_rep {xs : List V} {n : Nat} (h : EvL ta σ H xs) (hn : xs.length * n ≤ 100000) (hn2 : n ≤ 100000) : EvL (tOp rRep ta (tC (.int (n : Int)))) σ H (List.replicate n xs).flatten := fun H1 x Q q =>
  h H1 x _ fun p H2 hp x2 hx => ⟨p, (n : Int), xs, rfl, rfl, hx, by omega, by omega, by rw [Int.toNat_natCast]; exact sz_of hn, fun l hl => by
    rw [Int.toNat_natCast]
    exact q l _ (fresh_back x2 hl) (x2.trans (Ex.new hl)) upd_same⟩
theorem et_neD (ha : EvD K ta σ G d) (hb : EvD K tb σ G e) (n1 : d.hasDict = false) (n2 : e.hasDict = false) (s1 : SeqAt.shaped d = true) (s2 : SeqAt.shaped e = true) :
    EvT (tTest (tOp (rNeD K) ta tb)) σ G (!PyData.eqv d e) := fun H1 x Q q => ha H1 x _ fun v G2 H2 y hd => (hb.mono y.gg) H2 y.gh _ fun v' G3 H3 z he =>
  ⟨d, e, dp_of (hd.mono (same_ex (y.gh.trans z.hh))) n1, dp_of (he.mono (same_ex z.gh)) n2, s1, s2, _, rfl, q H3 (y.hh.trans z.hh)⟩
theorem ev_eqD (ha : EvD K ta σ G d) (hb : EvD K tb σ G e) (n1 : d.hasDict = false) (n2 : e.hasDict = false) (s1 : SeqAt.shaped d = true) (s2 : SeqAt.shaped e = true) :
    Ev (tOp (rEqD K) ta tb) σ G (.bl (PyData.eqv d e)) := fun H1 x Q q => ha H1 x _ fun v G2 H2 y hd => (hb.mono y.gg) H2 y.gh _ fun v' G3 H3 z he =>
  ⟨d, e, dp_of (hd.mono (same_ex (y.gh.trans z.hh))) n1, dp_of (he.mono (same_ex z.gh)) n2, s1, s2, q H3 (y.hh.trans z.hh)⟩
/-- e.f of an exception with one field -/
theorem ev_xat {C a : Addr} {f : Str} (h : Ev te σ H (.ref a)) (hx : XV H a C f v) (T : ExcC K C) (hno : PySem.W.findIn K (.ref C) f = some none) : Ev (tXat K f te) σ H v := fun H1 x Q q =>
  h H1 x _ fun H2 x2 => by
    obtain ⟨dx, h1, h2⟩ := hx.mono (same_ex (x.trans x2))
    exact ⟨a, C, dx, _, v, rfl, xat_exo h1, .inl h2, T, hno, by simp [List.lookup], q H2 x2⟩
end
end Kx

set_option Elab.async false
set_option maxRecDepth 100000
set_option linter.all false
set_option maxHeartbeats 4000000
namespace Lx
open PySem PySem.Spec PyProof.Rows L2 Evl Kx
def top (i : Nat) : Stmt := PySem.Challenge.pw_callersrights_k01_errors.main.body.getD i (.Pass ⟨0, 0, 0, 0⟩)
abbrev sCell : Stmt := top 15
abbrev sHash : Stmt := top 16
abbrev sGen : Stmt := top 17
abbrev sRnd : Stmt := top 18
section
variable {P : Program} {w : World} {K : PySem.W.Frag} {mg : Str → Option Value} {base : Heap} {f : Addr} {fd : FuncData}

theorem scCell : FnScope ["script", "index"] ["script", "index"] (defScope sCell) := ⟨rfl, rfl, rfl, by decide +kernel, rfl, by decide +kernel, by decide +kernel⟩
def spCell (K : PySem.W.Frag) : Sp := fun vs H Q _ => ∃ (l : Addr) (ns : List Int) (j : Nat), vs = [.ref l, .int j] ∧ SqL K H l (ns.map V.int) ∧ Q (.int (ns.getD j 0)) H
theorem ok_cell (F : Fun K "_law_cell" "_law_cell" sCell f fd) (mL : mg "len" = none) : FnOk P w K mg base CX0 1 f fd ["script", "index"] (spCell K) := by
  refine F.ok scCell (fun vs H Q E h => ?_) (fun cdv A outer s H vs Q E hr h => ?_)
  · obtain ⟨l, ns, j, rfl, _⟩ := h
    rfl
  · obtain ⟨l, ns, j, rfl, hS, q⟩ := h
    refine ⟨_, pss_cons (ps_if (pt_cmpR op_lt (pv 1) (pe_callB call_len_seq (by rfl) mL PySem.boot_len (pa_cons (pv 0) pa_nil)) (nomark _))
      (pss_one (ps_ret (pe_ix ix_list (pv 0) (pv 1) (fun _ _ => rfl)))) pss_nil) (pss_one (ps_ret pe_int)), ?_⟩
    refine ⟨_, rfl, _, rfl, l, _, rfl, .inl hS, _, _, rfl, rfl, _, rfl, ?_⟩
    refine ite2 (fun h => ?_) (fun h => ?_)
    · have hj : j < ns.length := by
        have h2 := of_decide_eq_true h
        rw [List.length_map] at h2
        omega
      refine ⟨_, rfl, _, rfl, l, _, _, .int (ns.getD j 0), rfl, rfl, hS, atI_nat ?_, q⟩
      rw [List.getElem?_map, List.getElem?_eq_getElem hj, List.getD_eq_getElem?_getD, List.getElem?_eq_getElem hj] <;> rfl
    · have hj : ¬ j < ns.length := fun z => h (decide_eq_true (by rw [List.length_map]; omega))
      rw [List.getD_eq_getElem?_getD, List.getElem?_eq_none (by omega)] at q
      exact q

theorem scHash : FnScope ["seed", "index", "mixed"] ["seed", "index"] (defScope sHash) := ⟨rfl, rfl, rfl, by decide +kernel, rfl, by decide +kernel, by decide +kernel⟩
def spHash : Sp := fun vs H Q _ => ∃ s i : Int, vs = [.int s, .int i] ∧ (0 ≤ s ∧ s < 2147483647) ∧ (0 ≤ i ∧ i < 2 ^ 60) ∧ ∀ r : Int, 0 ≤ r ∧ r < 2147483587 → Q (.int r) H
theorem ok_hash (F : Fun K "_law_hash" "_law_hash" sHash f fd) (mI : mg "int" = none) : FnOk P w K mg base CX0 1 f fd ["seed", "index"] spHash := by
  refine F.ok scHash (fun vs H Q E h => ?_) (fun cdv A outer s H vs Q E hr h => ?_)
  · obtain ⟨_, _, rfl, _⟩ := h
    rfl
  · obtain ⟨z, i, rfl, hz, hi, q⟩ := h
    refine ⟨_, pss_cons (ps_set (i := 2) scHash.nd rfl (Or.inl rfl) (pe_op op_mod (pe_callTy call_int1 (by rfl) mI PyProof.Rows.boot_int
        (pa_cons (pe_op op_add (pe_op op_add (pe_op op_add (pe_op op_mul (pv 0) pe_int) (pe_op op_mul (pe_op op_mul pe_int (pv 1)) (pv 1))) (pv 1)) pe_int) pa_nil)) pe_int))
      (pss_cons (ps_set (i := 2) scHash.nd rfl (Or.inl rfl) (pe_op op_mod (pe_callTy call_int1 (by rfl) mI PyProof.Rows.boot_int
        (pa_cons (pe_op op_add (pe_op op_mul (pv 2) (pv 2)) pe_int) pa_nil)) pe_int))
      (pss_one (ps_ret (pe_op op_mod (pe_callTy call_int1 (by rfl) mI PyProof.Rows.boot_int (pa_cons (pe_op op_mul (pv 2) pe_int) pa_nil)) pe_int)))), ?_⟩
    have e60 : (2 : Int) ^ 60 = 1152921504606846976 := by decide
    rw [e60] at hi
    have c1 : CMul z 1103515245 := .inr (by decide)
    have c2 : CMul 7919 i := .inl (by decide)
    have c3 : CMul (7919 * i) i := .inr (by
      have e64 : (2 : Int) ^ 64 = 18446744073709551616 := by decide
      rw [e64]
      omega)
    have c4 : ∀ x : Int, CMul (x % 2147483647) (x % 2147483647) := fun x => .inr (by
      have e64 : (2 : Int) ^ 64 = 18446744073709551616 := by decide
      rw [e64]
      omega)
    have c5 : ∀ x : Int, CMul x 48271 := fun x => .inr (by decide)
    have mp : ∀ {b : Int}, 0 < b → 0 < b := fun h => h
    refine ⟨_, rfl, _, _, rfl, rfl, c1, ?_⟩
    refine ⟨_, rfl, _, _, rfl, rfl, c2, _, rfl, _, _, rfl, rfl, c3, _, _, rfl, rfl, _, rfl, _, _, rfl, rfl, _, _, rfl, rfl, ?_⟩
    refine .inl ⟨_, rfl, _, _, rfl, rfl, mp (by decide), ?_⟩
    refine ⟨_, rfl, _, rfl, _, _, rfl, rfl, c4 _, _, _, rfl, rfl, .inl ⟨_, rfl, _, _, rfl, rfl, mp (by decide), ?_⟩⟩
    refine ⟨_, rfl, _, _, rfl, rfl, c5 _, .inl ⟨_, rfl, _, _, rfl, rfl, mp (by decide), ?_⟩⟩
    exact q _ (by omega)
theorem scGen : FnScope ["script", "index", "seed"] ["script", "index"] (defScope sGen) := ⟨rfl, rfl, rfl, by decide +kernel, rfl, by decide +kernel, by decide +kernel⟩
/-- the generator at g: what a draw may ask; n: how far its counter may have gone -/
def GenAt (H : Hp) (g : Addr) (n : Nat) : Prop := ∃ a b c : Int, H g = some (.lst [.int a, .int b, .int c]) ∧ (0 ≤ a ∧ a < 2 ^ 2000) ∧ (0 ≤ b ∧ b < 2147483647) ∧ (0 ≤ c ∧ c ≤ n)
def spGen (K : PySem.W.Frag) : Sp := fun vs H Q _ => ∃ (l : Addr) (ns : List Int) (j : Nat), vs = [.ref l, .int j] ∧ SqL K H l (ns.map V.int) ∧ ∀ p H', H p = none → Same H H' → GenAt H' p (1000 * j) → Q (.ref p) H'
theorem ok_gen {fC : Addr} {fdC : FuncData} (F : Fun K "_law_generator" "_law_generator" sGen f fd) (mI : mg "int" = none) (mM : mg "max" = none)
    (FC : FnOk P w K mg base CX0 1 fC fdC ["script", "index"] (spCell K)) (mC : mg "_law_cell" = some (.ref fC)) (kC : PySem.W.keepIn K (.ref fC) = true) (bC : Binds K fdC ["script", "index"] []) :
    FnOk P w K mg base CX0 2 f fd ["script", "index"] (spGen K) := by
  refine F.ok scGen (fun vs H Q E h => ?_) (fun cdv A outer s H vs Q E hr h => ?_)
  · obtain ⟨_, _, _, rfl, _⟩ := h
    rfl
  · obtain ⟨l, ns, j, rfl, hS, q⟩ := h
    refine ⟨_, pss_cons (ps_set (i := 2) scGen.nd rfl (Or.inl rfl) (pe_call FC hr rfl mC kC bC .nil pass0 (pa_cons (pv 0) (pa_cons (pv 1) pa_nil))))
      (pss_one (ps_ret (pe_lst (pa_cons (pe_op op_mod (pe_callTy call_int1 (by rfl) mI PyProof.Rows.boot_int (pa_cons (pe_callB (call_max2 rfl) (by rfl) mM (by decide +kernel)
          (pa_cons (pe_op op_sub (pv 2) (pe_op op_pow pe_int pe_int)) (pa_cons pe_int pa_nil))) pa_nil)) (pe_op op_powB (pe_op op_pow pe_int pe_int) pe_int))
        (pa_cons (pe_op op_mod (pe_callTy call_int1 (by rfl) mI PyProof.Rows.boot_int (pa_cons (pv 2) pa_nil)) pe_int)
        (pa_cons (pe_op op_mul pe_int (pv 1)) pa_nil)))))), ?_⟩
    have mp : ∀ {b : Int}, 0 < b → 0 < b := fun h => h
    refine ⟨_, rfl, _, rfl, l, ns, j, rfl, hS, ?_⟩
    have hp : CPow 10 18 := ⟨by decide, by decide, by decide⟩
    have hp2 : CPow 10 60 := ⟨by decide, by decide, by decide⟩
    refine ⟨_, rfl, _, _, rfl, rfl, hp, _, _, rfl, rfl, _, _, rfl, ?_⟩
    refine .inl ⟨_, rfl, _, _, rfl, rfl, hp2, _, _, rfl, rfl, ⟨by decide, by decide +kernel⟩, _, _, rfl, rfl, mp (by decide +kernel), ?_⟩
    refine ⟨_, rfl, .inl ⟨_, rfl, _, _, rfl, rfl, mp (by decide), ?_⟩⟩
    refine ⟨_, rfl, _, _, rfl, rfl, .inl (by decide), ?_⟩
    refine ⟨by show 3 ≤ sizeLine; decide, fun p hp => q p _ hp (same_ex (Ex.new hp)) ⟨_, _, _, upd_same, ⟨?_, ?_⟩, ⟨?_, ?_⟩, ?_, ?_⟩⟩
    · exact Int.emod_nonneg _ (by decide +kernel)
    · exact Int.lt_of_lt_of_le (Int.emod_lt_of_pos _ (by decide +kernel)) (by decide +kernel)
    · omega
    · omega
    · omega
    · omega

theorem scRnd : FnScope ["generator", "bound", "drawn", "turn"] ["generator", "bound"] (defScope sRnd) := ⟨rfl, rfl, rfl, by decide +kernel, rfl, by decide +kernel, by decide +kernel⟩
def spRnd : Sp := fun vs H Q _ => ∃ (g : Addr) (n : Nat) (m : Int), vs = [.ref g, .int m] ∧ GenAt H g n ∧ n < 2 ^ 50 ∧ (1 ≤ m ∧ m < 2 ^ 59) ∧
  ∀ (r : Int) H' o, 0 ≤ r ∧ r < m → H' = upd H g o → GenAt H' g (n + 2) → Q (.int r) H'
theorem ok_rnd {fH : Addr} {fdH : FuncData} (F : Fun K "_law_random" "_law_random" sRnd f fd) (mI : mg "int" = none) (mR : mg "range" = none)
    (FH : FnOk P w K mg base CX0 1 fH fdH ["seed", "index"] spHash) (mH : mg "_law_hash" = some (.ref fH)) (kH : PySem.W.keepIn K (.ref fH) = true) (bH : Binds K fdH ["seed", "index"] []) :
    FnOk P w K mg base CX0 2 f fd ["generator", "bound"] spRnd := by
  refine F.ok scRnd (fun vs H Q E h => ?_) (fun cdv A outer s H vs Q E hr h => ?_)
  · obtain ⟨_, _, _, rfl, _⟩ := h
    rfl
  · obtain ⟨g, n, m, rfl, ⟨a, b, c, hg, ha, hb, hc⟩, hn, hm, q⟩ := h
    refine ⟨_, pss_cons (ps_if (pt_cmpR op_gt (pe_ix ix_list (pv 0) pe_int (fun _ _ => rfl)) pe_int (nomark _))
        (pss_cons (ps_set (i := 2) scRnd.nd rfl (Or.inl rfl) (pe_op op_mod (pe_callTy call_int1 (by rfl) mI PyProof.Rows.boot_int (pa_cons (pe_ix ix_list (pv 0) pe_int (fun _ _ => rfl)) pa_nil)) (pv 1)))
        (pss_cons (ps_asg (pe_op op_fdivW (pe_ix ix_list (pv 0) pe_int (fun _ _ => rfl)) (pv 1)) (pg_sub (pv 0) pe_int set_list))
        (pss_one (ps_ret (pv 2))))) pss_nil)
      (pss_cons (ps_set (i := 2) scRnd.nd rfl (Or.inl rfl) pe_int)
      (pss_cons (ps_for PassesOwn.never rfl (pi_range1 (by rfl) mR (pa_cons (pe_op op_add pe_int (pe_op op_fdiv (pe_bits (pv 1)) pe_int)) pa_nil)) (pg_name (i := 3) scRnd.nd rfl (Or.inl rfl))
        (pss_cons (ps_asg (pe_op op_add (pe_ix ix_list (pv 0) pe_int (fun _ _ => rfl)) pe_int) (pg_sub (pv 0) pe_int set_list))
        (pss_one (ps_set (i := 2) scRnd.nd rfl (Or.inl rfl) (pe_op op_add (pe_op op_mul (pv 2) pe_int)
          (pe_call FH hr rfl mH kH bH .nil pass0 (pa_cons (pe_ix ix_list (pv 0) pe_int (fun _ _ => rfl)) (pa_cons (pe_ix ix_list (pv 0) pe_int (fun _ _ => rfl)) pa_nil))))))))
      (pss_one (ps_ret (pe_op op_mod (pe_callTy call_int1 (by rfl) mI PyProof.Rows.boot_int (pa_cons (pv 2) pa_nil)) (pv 1)))))), ?_⟩
    have mp : ∀ {b : Int}, 0 < b → 0 < b := fun h => h
    have hm0 : 0 < m := by omega
    have hmb : m.natAbs < 2 ^ 59 := by
      have e : ((2 ^ 59 : Nat) : Int) = 2 ^ 59 := by decide
      omega
    refine ⟨_, rfl, g, _, _, _, rfl, rfl, SqL.of hg, rfl, _, _, rfl, rfl, _, rfl, ite2 (fun h => ?_) (fun h => ?_)⟩
    · have h0 : 0 < a := of_decide_eq_true h
      refine ⟨_, rfl, g, _, _, _, rfl, rfl, SqL.of hg, rfl, .inl ⟨_, rfl, _, rfl, _, _, rfl, rfl, mp hm0, ?_⟩⟩
      refine ⟨_, rfl, g, _, _, _, rfl, rfl, SqL.of hg, rfl, _, rfl, _, _, rfl, rfl, wide_div hm0 hmb (by decide) (by decide), ?_⟩
      refine ⟨_, rfl, g, _, _, 0, rfl, rfl, hg, rfl, _, rfl, ?_⟩
      refine q _ _ _ ⟨Int.emod_nonneg _ (by omega), Int.emod_lt_of_pos _ hm0⟩ rfl ⟨a / m, b, c, upd_same, ⟨Int.ediv_nonneg (by omega) (by omega), ?_⟩, hb, by omega, by omega⟩
      exact Int.lt_of_le_of_lt (Int.ediv_le_self _ (by omega)) ha.2
    · have bits : Builtin.Int.intBits m ≤ 59 := by
        unfold Builtin.Int.intBits
        split
        · decide
        · have h1 : m.natAbs ≠ 0 := by omega
          exact (Nat.log2_lt h1).mpr hmb
      refine ⟨_, rfl, _, rfl, _, _, rfl, rfl, ⟨by decide, by decide⟩, _, _, rfl, rfl, _, rfl, by omega, by omega, ?_⟩
      refine for_range (lo := 0) (n := (1 + (Builtin.Int.intBits m : Int) / 30).toNat) (fun i σ H' => ∃ (c' d : Int) (t : Option V) (o : HO), σ = [some (.ref g), some (.int m), some (.int d), t] ∧ H' = upd H g o ∧
        H' g = some (.lst [.int a, .int b, .int c']) ∧ 0 ≤ c' ∧ c' ≤ n + i) ?_ ?_ ?_
      · refine ⟨c, 0, none, .lst [.int a, .int b, .int c], rfl, ?_, hg, by omega, by omega⟩
        funext z
        by_cases e : z = g
        · rw [e, hg, upd_same]
        · rw [upd_ne e]
      · rintro i σ H' hi ⟨c', d, t, o, rfl, rfl, h1, h2, h3⟩
        refine ⟨_, rfl, g, _, _, _, rfl, rfl, SqL.of h1, rfl, _, _, rfl, rfl, _, rfl, g, _, _, 2, rfl, rfl, h1, rfl, ?_⟩
        have e60 : (2 : Int) ^ 60 = 1152921504606846976 := by decide
        have e50 : (2 : Nat) ^ 50 = 1125899906842624 := by decide
        refine ⟨_, rfl, _, _, rfl, rfl, .inr (by decide), _, rfl, g, _, _, _, rfl, rfl, SqL.of upd_same, rfl, _, rfl, g, _, _, _, rfl, rfl, SqL.of upd_same, rfl, ?_⟩
        refine ⟨_, _, rfl, hb, ⟨by omega, by rw [e60]; omega⟩, fun r hr => ⟨_, _, rfl, rfl, c' + 1, _, _, _, rfl, upd_upd, upd_same, by omega, by omega⟩⟩
      · rintro σ H' ⟨c', d, t, o, rfl, rfl, h1, h2, h3⟩
        refine ⟨_, rfl, .inl ⟨_, rfl, _, rfl, _, _, rfl, rfl, mp hm0, ?_⟩⟩
        exact q _ _ o ⟨Int.emod_nonneg _ (by omega), Int.emod_lt_of_pos _ hm0⟩ rfl ⟨a, b, c', h1, ha, hb, h2, by omega⟩
end
end Lx

set_option Elab.async false
set_option maxRecDepth 100000
set_option linter.all false
set_option maxHeartbeats 4000000
namespace Lx
open PySem PySem.Spec PyProof.Rows L2 Evl Kx
abbrev sKinds : Stmt := top 19
abbrev sRight : Stmt := top 20
abbrev sPlaced : Stmt := top 21
abbrev sNamed : Stmt := top 22
abbrev sBare : Stmt := top 23
abbrev sLaw : Stmt := top 24
def xn : Nat → Str
  | 0 => "InvalidNumber" | 1 => "InvalidList" | 2 => "InvalidItem" | 3 => "InvalidWord" | 4 => "InvalidProgram" | 5 => "InvalidPlace" | 6 => "InvalidRun" | 7 => "InvalidText"
  | 8 => "InvalidName" | 9 => "TakenName" | 10 => "UnknownName" | _ => "NothingToUndo"
def xf : Nat → Str
  | 8 => "name" | 9 => "name" | 10 => "name" | _ => "value"
structure Txt (P : Program) (w : World) (K : PySem.W.Frag) (mg : Str → Option Value) (C fI : Nat → Addr) (fdI : Nat → FuncData) (R : Addr) : Prop where
  x : ∀ k, k < 11 → XCls P w K mg (xn k) (xf k) (C k) (fI k) (fdI k)
  m11 : mg "NothingToUndo" = some (.ref (C 11))
  e11 : ExcC K (C 11)
  q11 : PySem.W.excIn K (C 11) [.type "ValueError", .type "Exception", .type "BaseException", .type "object"] "ValueError.__new__" = true
  k11 : PySem.W.keepIn K (.ref (C 11)) = true
  mR : mg "RightsError" = some (.ref R)
  kit : ∀ i, i < 12 → ∀ j, j < 12 → PySem.W.kitOne K (.ref (C i)) (.ref (C j)) = some (decide (i = j))
  kitR : ∀ i, i < 12 → PySem.W.kitOne K (.ref (C i)) (.ref R) = some true
  kitV : ∀ i, i < 12 → PySem.W.kitOne K (.ref (C i)) (.type "ValueError") = some true
  isi : mg "isinstance" = none
  rng : mg "range" = none
  rep : mg "repr" = none
  vE : mg "ValueError" = none
  lst : mg "list" = none
  dct : mg "dict" = none
/-- e is an exception of the class number k -/
def KAt (C : Nat → Addr) (H : Hp) (e : Addr) (k : Nat) : Prop := XAt H e (C k) none ∨ ∃ dx fs, XAt H e (C k) (some dx) ∧ FAt H dx fs
theorem KAt.mono {C : Nat → Addr} {H H' : Hp} {e : Addr} {k : Nat} (x : Same H H') (h : KAt C H e k) : KAt C H' e k :=
  h.elim (fun h => .inl (h.mono x)) fun ⟨d, fs, a, b⟩ => .inr ⟨d, fs, a.mono x, b.mono x⟩
section
variable {P : Program} {w : World} {K : PySem.W.Frag} {mg : Str → Option Value} {base : Heap} {f R : Addr} {fd : FuncData} {C fI : Nat → Addr} {fdI : Nat → FuncData}
theorem Txt.exc (T : Txt P w K mg C fI fdI R) {k : Nat} (hk : k < 12) : ExcC K (C k) := by
  by_cases h : k < 11
  · exact (T.x k h).e
  · have e : k = 11 := by omega
    subst e
    exact T.e11
theorem Txt.mg_ (T : Txt P w K mg C fI fdI R) {k : Nat} (hk : k < 12) : mg (xn k) = some (.ref (C k)) := by
  by_cases h : k < 11
  · exact (T.x k h).mgC
  · have e : k = 11 := by omega
    subst e
    exact T.m11
theorem ev_isi (T : Txt P w K mg C fI fdI R) {σ : L2.St} {H : Hp} {e : Addr} {k j : Nat} (hs : σ[0]? = some (some (.ref e))) (h : KAt C H e k) (hk : k < 12) (hj : j < 12) :
    Ev (tCB (rIsX K) (tCons (tVar 0) (tCons (tC (.ref (C j))) tNil))) σ H (.bl (decide (k = j))) := fun H1 x Q q => ⟨_, hs, _, _, _, _, _, rfl, h.mono (same_ex x), T.exc hk, .own _, T.kit k hk j hj, q H1 (Ex.refl H1)⟩
theorem ev_isR (T : Txt P w K mg C fI fdI R) {σ : L2.St} {H : Hp} {e : Addr} {k : Nat} (hs : σ[0]? = some (some (.ref e))) (h : KAt C H e k) (hk : k < 12) :
    Ev (tCB (rIsX K) (tCons (tVar 0) (tCons (tC (.ref R)) tNil))) σ H (.bl true) := fun H1 x Q q => ⟨_, hs, _, _, _, _, _, rfl, h.mono (same_ex x), T.exc hk, .own _, T.kitR k hk, q H1 (Ex.refl H1)⟩
theorem ev_isV (T : Txt P w K mg C fI fdI R) {σ : L2.St} {H : Hp} {e : Addr} {k : Nat} (hs : σ[0]? = some (some (.ref e))) (h : KAt C H e k) (hk : k < 12) :
    Ev (tCB (rIsX K) (tCons (tVar 0) (tCons (tC (.ty "ValueError")) tNil))) σ H (.bl true) := fun H1 x Q q => ⟨_, hs, _, _, _, _, _, rfl, h.mono (same_ex x), T.exc hk, .ty _, T.kitV k hk, q H1 (Ex.refl H1)⟩

theorem scKinds : FnScope ["error", "classes", "at"] ["error"] (defScope sKinds) := ⟨rfl, rfl, rfl, by decide +kernel, rfl, by decide +kernel, by decide +kernel⟩
def spKinds (C : Nat → Addr) : Sp := fun vs H Q _ => ∃ (e : Addr) (k : Nat), vs = [.ref e] ∧ k < 12 ∧ KAt C H e k ∧ RetL [.int (k : Int)] H Q
theorem given12 : ∀ k : Fin 12, given 12 (fun i => decide (k.1 = i)) (fun i => V.int (i : Int)) = [V.int (k.1 : Int)] := by decide +kernel
theorem ok_kinds (T : Txt P w K mg C fI fdI R) (F : Fun K "_law_kinds" "_law_kinds" sKinds f fd) : FnOk P w K mg base CX0 1 f fd ["error"] (spKinds C) := by
  refine F.ok scKinds (fun vs H Q E h => ?_) (fun cdv A outer s H vs Q E hr h => ?_)
  · obtain ⟨_, _, rfl, _⟩ := h
    rfl
  · obtain ⟨e, k, rfl, hk, he, q⟩ := h
    refine ⟨_, pss_cons (ps_set (i := 1) scKinds.nd rfl (Or.inr rfl) (pe_lst (pa_cons (pe_callB call_isX (by rfl) T.isi PyProof.Rows.boot_isinstance (pa_cons (pv 0) (pa_cons (pe_cls rfl (T.mg_ (k := 0) (by decide))) pa_nil)))
        (pa_cons (pe_callB call_isX (by rfl) T.isi PyProof.Rows.boot_isinstance (pa_cons (pv 0) (pa_cons (pe_cls rfl (T.mg_ (k := 1) (by decide))) pa_nil)))
        (pa_cons (pe_callB call_isX (by rfl) T.isi PyProof.Rows.boot_isinstance (pa_cons (pv 0) (pa_cons (pe_cls rfl (T.mg_ (k := 2) (by decide))) pa_nil))) pa_nil)))))
      (pss_cons (ps_set (i := 1) scKinds.nd rfl (Or.inr rfl) (pe_op op_cat (pv 1) (pe_lst (pa_cons (pe_callB call_isX (by rfl) T.isi PyProof.Rows.boot_isinstance (pa_cons (pv 0) (pa_cons (pe_cls rfl (T.mg_ (k := 3) (by decide))) pa_nil)))
        (pa_cons (pe_callB call_isX (by rfl) T.isi PyProof.Rows.boot_isinstance (pa_cons (pv 0) (pa_cons (pe_cls rfl (T.mg_ (k := 4) (by decide))) pa_nil))) pa_nil)))))
      (pss_cons (ps_set (i := 1) scKinds.nd rfl (Or.inr rfl) (pe_op op_cat (pv 1) (pe_lst (pa_cons (pe_callB call_isX (by rfl) T.isi PyProof.Rows.boot_isinstance (pa_cons (pv 0) (pa_cons (pe_cls rfl (T.mg_ (k := 5) (by decide))) pa_nil)))
        (pa_cons (pe_callB call_isX (by rfl) T.isi PyProof.Rows.boot_isinstance (pa_cons (pv 0) (pa_cons (pe_cls rfl (T.mg_ (k := 6) (by decide))) pa_nil)))
        (pa_cons (pe_callB call_isX (by rfl) T.isi PyProof.Rows.boot_isinstance (pa_cons (pv 0) (pa_cons (pe_cls rfl (T.mg_ (k := 7) (by decide))) pa_nil))) pa_nil))))))
      (pss_cons (ps_set (i := 1) scKinds.nd rfl (Or.inr rfl) (pe_op op_cat (pv 1) (pe_lst (pa_cons (pe_callB call_isX (by rfl) T.isi PyProof.Rows.boot_isinstance (pa_cons (pv 0) (pa_cons (pe_cls rfl (T.mg_ (k := 8) (by decide))) pa_nil)))
        (pa_cons (pe_callB call_isX (by rfl) T.isi PyProof.Rows.boot_isinstance (pa_cons (pv 0) (pa_cons (pe_cls rfl (T.mg_ (k := 9) (by decide))) pa_nil)))
        (pa_cons (pe_callB call_isX (by rfl) T.isi PyProof.Rows.boot_isinstance (pa_cons (pv 0) (pa_cons (pe_cls rfl (T.mg_ (k := 10) (by decide))) pa_nil))) pa_nil))))))
      (pss_cons (ps_if (PW.pt (pw_or (pt_not (pt_val (pe_callB call_isX (by rfl) T.isi PyProof.Rows.boot_isinstance (pa_cons (pv 0) (pa_cons (pe_cls rfl T.mR) pa_nil)))))
          (pw_or1 (pt_not (pt_val (pe_callB call_isX (by rfl) T.isi PyProof.Rows.boot_isinstance (pa_cons (pv 0) (pa_cons (pe_bltn (v := .ty "ValueError") (by rfl) T.vE (by decide +kernel) rfl) pa_nil))))))))
        (pss_one (ps_ret (pe_lst pa_nil))) pss_nil)
      (pss_one (ps_ret (pe_lc (own := [("at", 2)]) (g := gName 2) (by rfl) scKinds.nd (pi_range1 rfl T.rng (pa_cons pe_int pa_nil)) (blkOk_by (own := [("at", 2)]) (N := ["error", "classes", "at"]) (sc := defScope sKinds) (by decide +kernel))
        (fun _ _ _ _ _ => pg_name (i := 2) scKinds.nd rfl (Or.inl rfl))
        (fun _ _ _ _ _ => pts_one (pt_val (pe_ix (ixL_K (K := K)) (pe_op op_cat (pv 1) (pe_lst (pa_cons (pe_callB (isX_K (K := K)) (by rfl) T.isi PyProof.Rows.boot_isinstance (pa_cons (pv 0) (pa_cons (pe_cls rfl (T.mg_ (k := 11) (by decide))) pa_nil))) pa_nil))) (pv 2) (fun _ _ => rfl))))
        (fun _ _ _ _ _ => pv 2)))))))), ?_⟩
    have I : ∀ {σ : L2.St} {H1 : Hp} (j : Nat), j < 12 → σ[0]? = some (some (.ref e)) → Ex H H1 → Ev (tCB (rIsX K) (tCons (tVar 0) (tCons (tC (.ref (C j))) tNil))) σ H1 (.bl (decide (k = j))) :=
      fun j hj hs x => ev_isi T hs (he.mono (same_ex x)) hk hj
    refine q_asgL (el_lst (ea_cons (I 0 (by decide) rfl (Ex.refl _)) (ea_cons (I 1 (by decide) rfl (Ex.refl _)) (ea_cons (I 2 (by decide) rfl (Ex.refl _)) ea_nil))) (by show 3 ≤ 100000; decide)) fun p1 H1 n1 x1 g1 => ?_
    refine q_asgL (el_cat (ev_var rfl) g1 (el_lst (ea_cons (I 3 (by decide) rfl x1) (ea_cons (I 4 (by decide) rfl x1) ea_nil)) (by show 2 ≤ 100000; decide)) (by show 3 + 2 ≤ 100000; decide)) fun p2 H2 n2 x2 g2 => ?_
    have y2 := x1.trans x2
    refine q_asgL (el_cat (ev_var rfl) g2 (el_lst (ea_cons (I 5 (by decide) rfl y2) (ea_cons (I 6 (by decide) rfl y2) (ea_cons (I 7 (by decide) rfl y2) ea_nil))) (by show 3 ≤ 100000; decide)) (by show 5 + 3 ≤ 100000; decide)) fun p3 H3 n3 x3 g3 => ?_
    have y3 := y2.trans x3
    refine q_asgL (el_cat (ev_var rfl) g3 (el_lst (ea_cons (I 8 (by decide) rfl y3) (ea_cons (I 9 (by decide) rfl y3) (ea_cons (I 10 (by decide) rfl y3) ea_nil))) (by show 3 ≤ 100000; decide)) (by show 8 + 3 ≤ 100000; decide)) fun p4 H4 n4 x4 g4 => ?_
    have y4 := y3.trans x4
    refine q_when (et_or (et_not (et_B (ev_isR T rfl (he.mono (same_ex y4)) hk))) fun _ => et_not (et_B (ev_isV T rfl (he.mono (same_ex y4)) hk))) (fun z => nomatch z) fun _ H5 x5 => ?_
    have y5 := y4.trans x5
    refine s_retL (el_lcR1 (n := 12) (fun i => decide (k = i)) (fun i => V.int (i : Int)) (ea_cons ev_c ea_nil) (by decide) (fun _ => rfl) (fun i G1 e1 hi => ?_) (fun i G1 e1 hi _ => ?_)) fun p H6 n6 x6 g6 => ?_
    · refine et_B (ev_opL1 (el_cat (ev_var rfl) (e1 _ _ (x5 _ _ g4)) (el_lst (ea_cons (I 11 (by decide) rfl (y5.trans e1)) ea_nil) (by show 1 ≤ 100000; decide)) (by show 11 + 1 ≤ 100000; decide)) (fun G2 e2 => ev_var rfl) fun p G2 hp e2 => rv_ixL (sq_of hp) ?_)
      have hi' : i < 12 := by omega
      refine atI_nat ?_
      match i, hi' with
      | 0, _ => rfl
      | 1, _ => rfl
      | 2, _ => rfl
      | 3, _ => rfl
      | 4, _ => rfl
      | 5, _ => rfl
      | 6, _ => rfl
      | 7, _ => rfl
      | 8, _ => rfl
      | 9, _ => rfl
      | 10, _ => rfl
      | 11, _ => rfl
      | n + 12, h => omega
    · exact ev_var rfl
    · have e := given12 ⟨k, hk⟩
      have g7 : H6 p = some (.lst [.int (k : Int)]) := by
        rw [g6]
        exact congrArg (fun z => some (HO.lst z)) e
      exact q.go y5 n6 x6 g7
end
end Lx

set_option Elab.async false
set_option maxRecDepth 100000
set_option linter.all false
set_option maxHeartbeats 4000000
namespace Lx
open PySem PySem.Spec PyProof.Rows L2 Evl Kx
section
variable {P : Program} {w : World} {K : PySem.W.Frag} {mg : Str → Option Value} {base : Heap} {f R : Addr} {fd : FuncData} {C fI : Nat → Addr} {fdI : Nat → FuncData}
/-- a list of eleven exceptions, one of each class, that all hold v -/
def ErrsAt (C : Nat → Addr) (H : Hp) (es : Addr) (v : V) : Prop := ∃ a : Fin 11 → Addr, H es = some (.lst ((List.finRange 11).map fun k => V.ref (a k))) ∧ ∀ k : Fin 11, XV H (a k) (C k.1) (xf k.1) v
theorem ErrsAt.mono {H H' : Hp} {es : Addr} {v : V} (x : Same H H') (h : ErrsAt C H es v) : ErrsAt C H' es v :=
  let ⟨a, h1, h2⟩ := h
  ⟨a, x _ _ h1, fun k => (h2 k).mono x⟩
theorem XV.kat {H : Hp} {e : Addr} {k : Nat} {g : Str} {v : V} (h : XV H e (C k) g v) : KAt C H e k := .inr h.xat
theorem scRight : FnScope ["errors", "given", "fields", "error", "at"] ["errors", "given"] (defScope sRight) := ⟨rfl, rfl, rfl, by decide +kernel, rfl, by decide +kernel, by decide +kernel⟩
def spRight (K : PySem.W.Frag) (C : Nat → Addr) : Sp := fun vs H Q _ => ∃ (es : Addr) (v : V) (d : PyData), vs = [.ref es, v] ∧ ErrsAt C H es v ∧ Sys H ∧ Dq K H v d ∧ okD d ∧ RetV (.bl true) H Q
theorem ok11 {d : PyData} (h : okD d) : okL (List.replicate 11 d) := by
  obtain ⟨h1, h2, h3⟩ := h
  refine ⟨?_, ?_, ?_⟩
  · simp [PyData.showable, PyData.showableAll, List.replicate, h1]
  · simp only [PyData.depth, PyData.depthAll, List.replicate]
    omega
  · simp only [bnd, bndA, List.replicate]
    omega
theorem dqa_rep {H : Hp} {v : V} {d : PyData} (h : Dq K H v d) : ∀ n, DqA K H (List.replicate n v) (List.replicate n d)
  | 0 => .nil
  | n + 1 => .cons h (dqa_rep h n)
theorem ok_right {fK : Addr} {fdK : FuncData} (T : Txt P w K mg C fI fdI R) (F : Fun K "_law_right" "_law_right" sRight f fd)
    (GK : FnOk P w K mg base CX0 1 fK fdK ["error"] (spKinds C)) (mK : mg "_law_kinds" = some (.ref fK)) (kK : PySem.W.keepIn K (.ref fK) = true) (bK : Binds K fdK ["error"] []) :
    GnOk P w K mg base CX0 2 f fd ["errors", "given"] (spRight K C) := by
  refine gn_ok F scRight (fun vs H Q E h => ?_) (fun cdv A outer s H vs Q E hgu hr h => ?_)
  · obtain ⟨_, _, _, rfl, _⟩ := h
    rfl
  · obtain ⟨es, v, d, rfl, ⟨a, hes, hxs⟩, hy, hd, hok, q⟩ := h
    have hu64 := hr.units
    refine ⟨_, pss_cons (ps_if (pt_cmpR (op_neD hu64)
        (pe_lc (own := [("error", 3)]) (g := gName 3) (tt := tYes) (by rfl) scRight.nd (pi_list (pv 0)) (blkOk_by (own := [("error", 3)]) (N := ["errors", "given", "fields", "error", "at"]) (sc := defScope sRight) (by decide +kernel))
          (fun _ _ _ _ _ => pg_name (i := 3) scRight.nd rfl (Or.inl rfl)) (fun _ _ _ _ _ => pts_nil) (fun _ _ _ _ _ => pe_call GK hr rfl mK kK bK .nil pass0 (pa_cons (pv 3) pa_nil)))
        (pe_lc (own := [("at", 4)]) (g := gName 4) (tt := tYes) (by rfl) scRight.nd (pi_range1 rfl T.rng (pa_cons pe_int pa_nil)) (blkOk_by (own := [("at", 4)]) (N := ["errors", "given", "fields", "error", "at"]) (sc := defScope sRight) (by decide +kernel))
          (fun _ _ _ _ _ => pg_name (i := 4) scRight.nd rfl (Or.inl rfl)) (fun _ _ _ _ _ => pts_nil) (fun _ _ _ _ _ => pe_lst (pa_cons (pv 4) pa_nil))) (nomark _))
        (pss_one (ps_ret pe_bl)) pss_nil)
      (pss_cons (ps_set (i := 2) scRight.nd rfl (Or.inl rfl) (pe_op op_cat
        (pe_lc (own := [("error", 3)]) (g := gName 3) (tt := tYes) (by rfl) scRight.nd (pi_list (pe_slice sl_list (pv 0) po_none (po_some pe_int))) (blkOk_by (own := [("error", 3)]) (N := ["errors", "given", "fields", "error", "at"]) (sc := defScope sRight) (by decide +kernel))
          (fun _ _ _ _ _ => pg_name (i := 3) scRight.nd rfl (Or.inl rfl)) (fun _ _ _ _ _ => pts_nil) (fun _ _ _ _ _ => pe_xatK (K := K) (pv 3)))
        (pe_lc (own := [("error", 3)]) (g := gName 3) (tt := tYes) (by rfl) scRight.nd (pi_list (pe_slice sl_list (pv 0) (po_some pe_int) po_none)) (blkOk_by (own := [("error", 3)]) (N := ["errors", "given", "fields", "error", "at"]) (sc := defScope sRight) (by decide +kernel))
          (fun _ _ _ _ _ => pg_name (i := 3) scRight.nd rfl (Or.inl rfl)) (fun _ _ _ _ _ => pts_nil) (fun _ _ _ _ _ => pe_xatK (K := K) (pv 3)))))
      (pss_one (ps_ret (pe_cmpR op_eq (pe_callB (call_repr hgu hu64) (by rfl) T.rep PyProof.Rows.boot_repr (pa_cons (pv 2) pa_nil))
        (pe_callB (call_repr hgu hu64) (by rfl) T.rep PyProof.Rows.boot_repr (pa_cons (pe_op op_rep (pe_lst (pa_cons (pv 1) pa_nil)) pe_int) pa_nil)) (nomark _))))), ?_⟩
    have e1 : ∀ (G1 : Hp), Ex H G1 → EvD K (tLc (iList K (tVar 0)) (gName 3) tYes (tCall (spKinds C) [] E0 (tCons (tVar 3) tNil)) [3]) (start ["errors", "given", "fields", "error", "at"] [V.ref es, v]) G1 (.list (gvn 11 (fun _ => true) fun i => .list [.int (i : Int)])) := fun G1 g1 => by
      refine ed_lcL (xs := (List.finRange 11).map fun k => V.ref (a k)) (fun _ => true) (fun i => .list [.int (i : Int)]) (ev_var rfl) (sq_of (g1 _ _ hes)) (by rw [List.length_map]; decide) (fun _ => rfl) (fun _ _ _ _ _ => et_yes) (fun i x G2 g2 hi _ => ?_)
      obtain ⟨k, hk, rfl⟩ : ∃ k : Fin 11, k.1 = i ∧ x = V.ref (a k) := by
        rw [List.getElem?_map] at hi
        obtain ⟨hlt, _⟩ := List.getElem?_eq_some_iff.mp (Option.map_eq_some_iff.mp hi).choose_spec.1
        rw [List.length_finRange] at hlt
        refine ⟨⟨i, hlt⟩, rfl, ?_⟩
        rw [List.getElem?_eq_getElem (by rw [List.length_finRange]; exact hlt), List.getElem_finRange] at hi
        exact (Option.some.inj hi).symm
      intro H1 x1 Q' q'
      refine ⟨_, rfl, a k, k.1, rfl, Nat.lt_trans k.2 (by decide), (XV.kat (hxs k)).mono (same_ex ((g1.trans g2).trans x1)), fun p H2 hp e2 h2 => ?_⟩
      subst hk
      exact q' _ _ _ (Ext.new x1 hp e2 h2) (.lst upd_same (.cons (.int _) .nil))
    have e2 : ∀ (G1 : Hp), EvD K (tLc (iRng1 (tCons (tC (.int 11)) tNil)) (gName 4) tYes (tLst (tCons (tVar 4) tNil)) [4]) (start ["errors", "given", "fields", "error", "at"] [V.ref es, v]) G1 (.list (gvn 11 (fun _ => true) fun i => .list [.int (i : Int)])) := fun G1 =>
      ed_lcR (n := 11) (fun _ => true) (fun i => .list [.int (i : Int)]) (ea_cons ev_c ea_nil) (by decide) (fun _ => rfl) (fun _ _ _ _ => et_yes) fun i G2 g2 hi _ =>
        ed_lst (eda_cons (ed_ev (ev_var rfl) (.int _)) fun _ _ => eda_nil) (by show 1 ≤ 100000; decide)
    refine q_when (et_neD (e1 H (Ex.refl H)) (e2 H) (by decide +kernel) (by decide +kernel) (by decide +kernel) (by decide +kernel)) (fun z => ?_) fun _ H1 x1 => ?_
    · exact absurd z (by decide +kernel)
    have fld : ∀ (G1 : Hp), Ex H G1 → ∀ k : Fin 11, Ev (tXat K (xf k.1) (tVar 3)) [some (V.ref es), some v, none, some (V.ref (a k)), none] G1 v := fun G1 g1 k =>
      ev_xat (ev_var rfl) ((hxs k).mono (same_ex g1)) (T.exc (Nat.lt_trans k.2 (by decide))) (T.x k.1 k.2).no
    have c1 : cutV ((List.finRange 11).map fun k => V.ref (a k)) none (some 8) = [V.ref (a 0), V.ref (a 1), V.ref (a 2), V.ref (a 3), V.ref (a 4), V.ref (a 5), V.ref (a 6), V.ref (a 7)] := rfl
    have c2 : cutV ((List.finRange 11).map fun k => V.ref (a k)) (some 8) none = [V.ref (a 8), V.ref (a 9), V.ref (a 10)] := rfl
    have l1 : ∀ (G1 : Hp), Ex H G1 → EvL (tLc (iList K (tSl (rSlL K) (tVar 0) tNoPart (tPart (tC (.int 8))))) (gName 3) tYes (tXat K "value" (tVar 3)) [3]) [some (V.ref es), some v, none, none, none] G1 (given 8 (fun _ => true) fun _ => v) := fun G1 g1 => by
      have z : EvL (tSl (rSlL K) (tVar 0) tNoPart (tPart (tC (.int 8)))) [some (V.ref es), some v, none, none, none] G1 [V.ref (a 0), V.ref (a 1), V.ref (a 2), V.ref (a 3), V.ref (a 4), V.ref (a 5), V.ref (a 6), V.ref (a 7)] := by
        rw [← c1]
        exact el_sl (ev_var rfl) eo_none (eo_some ev_c) (sq_of (g1 _ _ hes))
      refine el_lcNL (fun _ => true) (fun _ => v) z (by show 8 ≤ 40000; decide) (fun _ => rfl) (fun _ _ _ _ _ => et_yes) fun i x G2 g2 hi _ => ?_
      match i, hi with
      | 0, hi => cases hi; exact fld G2 (g1.trans g2) 0
      | 1, hi => cases hi; exact fld G2 (g1.trans g2) 1
      | 2, hi => cases hi; exact fld G2 (g1.trans g2) 2
      | 3, hi => cases hi; exact fld G2 (g1.trans g2) 3
      | 4, hi => cases hi; exact fld G2 (g1.trans g2) 4
      | 5, hi => cases hi; exact fld G2 (g1.trans g2) 5
      | 6, hi => cases hi; exact fld G2 (g1.trans g2) 6
      | 7, hi => cases hi; exact fld G2 (g1.trans g2) 7
      | n + 8, hi => cases hi
    have l2 : ∀ (G1 : Hp), Ex H G1 → EvL (tLc (iList K (tSl (rSlL K) (tVar 0) (tPart (tC (.int 8))) tNoPart)) (gName 3) tYes (tXat K "name" (tVar 3)) [3]) [some (V.ref es), some v, none, none, none] G1 (given 3 (fun _ => true) fun _ => v) := fun G1 g1 => by
      have z : EvL (tSl (rSlL K) (tVar 0) (tPart (tC (.int 8))) tNoPart) [some (V.ref es), some v, none, none, none] G1 [V.ref (a 8), V.ref (a 9), V.ref (a 10)] := by
        rw [← c2]
        exact el_sl (ev_var rfl) (eo_some ev_c) eo_none (sq_of (g1 _ _ hes))
      refine el_lcNL (fun _ => true) (fun _ => v) z (by show 3 ≤ 40000; decide) (fun _ => rfl) (fun _ _ _ _ _ => et_yes) fun i x G2 g2 hi _ => ?_
      match i, hi with
      | 0, hi => cases hi; exact fld G2 (g1.trans g2) 8
      | 1, hi => cases hi; exact fld G2 (g1.trans g2) 9
      | 2, hi => cases hi; exact fld G2 (g1.trans g2) 10
      | n + 3, hi => cases hi
    refine q_asgL (el_catLL (l1 H1 x1) (fun G1 g1 => l2 G1 (x1.trans g1)) (by show 8 + 3 ≤ 100000; decide)) fun p H2 hp x2 h2 => ?_
    have y2 := x1.trans x2
    have d2 := hd.mono (same_ex y2)
    refine s_ret (ev_is (ev_op (ev_reprB (d := .list (List.replicate 11 d)) (ev_var rfl) (hy.mono (same_ex y2)) (.lst h2 (dqa_rep d2 11)) (ok11 hok).1 (ok11 hok).2.1 (ok11 hok).2.2)
      (ev_reprN (ds := List.replicate 11 d) (el_rep (n := 11) (el_lst (ea_cons (ev_var rfl) ea_nil) (by show 1 ≤ 100000; decide)) (by show 1 * 11 ≤ 100000; decide) (by decide)) (hy.mono (same_ex y2)) (dqa_rep d2 11) (ok11 hok)) (rv_eq rfl))
      (congrArg V.bl (decide_eq_true rfl))) fun H3 x3 => ?_
    exact q.go (y2.trans x3)
end
end Lx

set_option Elab.async false
set_option maxRecDepth 100000
set_option linter.all false
set_option maxHeartbeats 4000000
namespace Lx
open PySem PySem.Spec PyProof.Rows L2 Evl Kx
section
variable {P : Program} {w : World} {K : PySem.W.Frag} {mg : Str → Option Value} {base : Heap} {f R : Addr} {fd : FuncData} {C fI : Nat → Addr} {fdI : Nat → FuncData}
def spMade (C : Nat → Addr) : Sp := fun vs H Q _ => ∃ v, vs = [v] ∧ ∀ p H', H p = none → Same H H' → ErrsAt C H' p v → Q (.ref p) H'
def spBare (C : Nat → Addr) : Sp := fun vs H Q _ => vs = [] ∧ ∀ p H', H p = none → Same H H' → ErrsAt C H' p V.non → Q (.ref p) H'
theorem scPlaced : FnScope ["given", "found"] ["given"] (defScope sPlaced) := ⟨rfl, rfl, rfl, by decide +kernel, rfl, by decide +kernel, by decide +kernel⟩
theorem ok_placed (T : Txt P w K mg C fI fdI R) (F : Fun K "_law_placed" "_law_placed" sPlaced f fd) : FnOk P w K mg base CX0 3 f fd ["given"] (spMade C) := by
  refine F.ok scPlaced (fun vs H Q E h => ?_) (fun cdv A outer s H vs Q E hr h => ?_)
  · obtain ⟨_, rfl, _⟩ := h
    rfl
  · obtain ⟨v, rfl, q⟩ := h
    have tv : ∀ (σ : L2.St) (H : Hp) (Q Q' : VK), (∀ v H1, Q v H1 → Q' v H1) → tVar 0 σ H Q → tVar 0 σ H Q' := fun _ _ _ _ k ⟨v, a, b⟩ => ⟨v, a, k _ _ b⟩
    refine ⟨_, (pss_cons (ps_set (i := 1) scPlaced.nd rfl (Or.inl rfl) (pe_lst (pa_cons (pe_xv1 (T.x 0 (by decide)) hr rfl (pv 0) tv) (pa_cons (pe_xv1 (T.x 1 (by decide)) hr rfl (pv 0) tv) (pa_cons (pe_xv1 (T.x 2 (by decide)) hr rfl (pv 0) tv) (pa_cons (pe_xv1 (T.x 3 (by decide)) hr rfl (pv 0) tv) pa_nil))))))
      (pss_cons (ps_set (i := 1) scPlaced.nd rfl (Or.inl rfl) (pe_op op_cat (pv 1) (pe_lst (pa_cons (pe_xv1 (T.x 4 (by decide)) hr rfl (pv 0) tv) (pa_cons (pe_xv1 (T.x 5 (by decide)) hr rfl (pv 0) tv) (pa_cons (pe_xv1 (T.x 6 (by decide)) hr rfl (pv 0) tv) (pa_cons (pe_xv1 (T.x 7 (by decide)) hr rfl (pv 0) tv) pa_nil)))))))
      (pss_one (ps_ret (pe_op op_cat (pv 1) (pe_lst (pa_cons (pe_xv1 (T.x 8 (by decide)) hr rfl (pv 0) tv) (pa_cons (pe_xv1 (T.x 9 (by decide)) hr rfl (pv 0) tv) (pa_cons (pe_xv1 (T.x 10 (by decide)) hr rfl (pv 0) tv) pa_nil))))))))), ?_⟩
    refine ⟨_, rfl, fun a0 H0 n0 s0 x0 => ⟨_, rfl, fun a1 H1 n1 s1 x1 => ⟨_, rfl, fun a2 H2 n2 s2 x2 => ⟨_, rfl, fun a3 H3 n3 s3 x3 => ⟨by show 4 ≤ sizeLine; decide, fun p0 hp0 => ?_⟩⟩⟩⟩⟩
    refine ⟨_, rfl, ⟨_, rfl, fun a4 H4 n4 s4 x4 => ⟨_, rfl, fun a5 H5 n5 s5 x5 => ⟨_, rfl, fun a6 H6 n6 s6 x6 => ⟨_, rfl, fun a7 H7 n7 s7 x7 => ⟨by show 4 ≤ sizeLine; decide, fun p1 hp1 => ⟨p0, p1, _, _, rfl, rfl, ((same_ex (Ex.new hp1)) _ _ (s7 _ _ (s6 _ _ (s5 _ _ (s4 _ _ upd_same))))), upd_same, by show 4 + 4 ≤ sizeLine; decide, fun r1 hr1 => ?_⟩⟩⟩⟩⟩⟩⟩
    refine ⟨_, rfl, ⟨_, rfl, fun a8 H8 n8 s8 x8 => ⟨_, rfl, fun a9 H9 n9 s9 x9 => ⟨_, rfl, fun a10 H10 n10 s10 x10 => ⟨by show 3 ≤ sizeLine; decide, fun p2 hp2 => ⟨r1, p2, _, _, rfl, rfl, ((same_ex (Ex.new hp2)) _ _ (s10 _ _ (s9 _ _ (s8 _ _ upd_same)))), upd_same, by show 8 + 3 ≤ sizeLine; decide, fun r2 hr2 => ?_⟩⟩⟩⟩⟩⟩
    let a : Fin 11 → Addr := fun k => match k with | 0 => a0 | 1 => a1 | 2 => a2 | 3 => a3 | 4 => a4 | 5 => a5 | 6 => a6 | 7 => a7 | 8 => a8 | 9 => a9 | 10 => a10
    refine q _ _ ?_ ((Same.trans (Same.trans (Same.trans (Same.trans (Same.trans (Same.trans (Same.trans (Same.trans (Same.trans (Same.trans (Same.trans (Same.trans (Same.trans (Same.trans (Same.trans s0 s1) s2) s3) (same_ex (Ex.new hp0))) s4) s5) s6) s7) (same_ex (Ex.new hp1))) (same_ex (Ex.new hr1))) s8) s9) s10) (same_ex (Ex.new hp2))) (same_ex (Ex.new hr2)))) ⟨a, upd_same, fun k => ?_⟩
    · exact fresh_back (ex_same (Same.trans (Same.trans (Same.trans (Same.trans (Same.trans (Same.trans (Same.trans (Same.trans (Same.trans (Same.trans (Same.trans (Same.trans (Same.trans (Same.trans s0 s1) s2) s3) (same_ex (Ex.new hp0))) s4) s5) s6) s7) (same_ex (Ex.new hp1))) (same_ex (Ex.new hr1))) s8) s9) s10) (same_ex (Ex.new hp2)))) hr2
    · match k with
      | 0 => exact x0.mono (Same.trans (Same.trans (Same.trans (Same.trans (Same.trans (Same.trans (Same.trans (Same.trans (Same.trans (Same.trans (Same.trans (Same.trans (Same.trans (Same.trans s1 s2) s3) (same_ex (Ex.new hp0))) s4) s5) s6) s7) (same_ex (Ex.new hp1))) (same_ex (Ex.new hr1))) s8) s9) s10) (same_ex (Ex.new hp2))) (same_ex (Ex.new hr2)))
      | 1 => exact x1.mono (Same.trans (Same.trans (Same.trans (Same.trans (Same.trans (Same.trans (Same.trans (Same.trans (Same.trans (Same.trans (Same.trans (Same.trans (Same.trans s2 s3) (same_ex (Ex.new hp0))) s4) s5) s6) s7) (same_ex (Ex.new hp1))) (same_ex (Ex.new hr1))) s8) s9) s10) (same_ex (Ex.new hp2))) (same_ex (Ex.new hr2)))
      | 2 => exact x2.mono (Same.trans (Same.trans (Same.trans (Same.trans (Same.trans (Same.trans (Same.trans (Same.trans (Same.trans (Same.trans (Same.trans (Same.trans s3 (same_ex (Ex.new hp0))) s4) s5) s6) s7) (same_ex (Ex.new hp1))) (same_ex (Ex.new hr1))) s8) s9) s10) (same_ex (Ex.new hp2))) (same_ex (Ex.new hr2)))
      | 3 => exact x3.mono (Same.trans (Same.trans (Same.trans (Same.trans (Same.trans (Same.trans (Same.trans (Same.trans (Same.trans (Same.trans (Same.trans (same_ex (Ex.new hp0)) s4) s5) s6) s7) (same_ex (Ex.new hp1))) (same_ex (Ex.new hr1))) s8) s9) s10) (same_ex (Ex.new hp2))) (same_ex (Ex.new hr2)))
      | 4 => exact x4.mono (Same.trans (Same.trans (Same.trans (Same.trans (Same.trans (Same.trans (Same.trans (Same.trans (Same.trans s5 s6) s7) (same_ex (Ex.new hp1))) (same_ex (Ex.new hr1))) s8) s9) s10) (same_ex (Ex.new hp2))) (same_ex (Ex.new hr2)))
      | 5 => exact x5.mono (Same.trans (Same.trans (Same.trans (Same.trans (Same.trans (Same.trans (Same.trans (Same.trans s6 s7) (same_ex (Ex.new hp1))) (same_ex (Ex.new hr1))) s8) s9) s10) (same_ex (Ex.new hp2))) (same_ex (Ex.new hr2)))
      | 6 => exact x6.mono (Same.trans (Same.trans (Same.trans (Same.trans (Same.trans (Same.trans (Same.trans s7 (same_ex (Ex.new hp1))) (same_ex (Ex.new hr1))) s8) s9) s10) (same_ex (Ex.new hp2))) (same_ex (Ex.new hr2)))
      | 7 => exact x7.mono (Same.trans (Same.trans (Same.trans (Same.trans (Same.trans (Same.trans (same_ex (Ex.new hp1)) (same_ex (Ex.new hr1))) s8) s9) s10) (same_ex (Ex.new hp2))) (same_ex (Ex.new hr2)))
      | 8 => exact x8.mono (Same.trans (Same.trans (Same.trans s9 s10) (same_ex (Ex.new hp2))) (same_ex (Ex.new hr2)))
      | 9 => exact x9.mono (Same.trans (Same.trans s10 (same_ex (Ex.new hp2))) (same_ex (Ex.new hr2)))
      | 10 => exact x10.mono (Same.trans (same_ex (Ex.new hp2)) (same_ex (Ex.new hr2)))
theorem scNamed : FnScope ["given", "found"] ["given"] (defScope sNamed) := ⟨rfl, rfl, rfl, by decide +kernel, rfl, by decide +kernel, by decide +kernel⟩
theorem ok_named (T : Txt P w K mg C fI fdI R) (F : Fun K "_law_named" "_law_named" sNamed f fd) : FnOk P w K mg base CX0 3 f fd ["given"] (spMade C) := by
  refine F.ok scNamed (fun vs H Q E h => ?_) (fun cdv A outer s H vs Q E hr h => ?_)
  · obtain ⟨_, rfl, _⟩ := h
    rfl
  · obtain ⟨v, rfl, q⟩ := h
    have tv : ∀ (σ : L2.St) (H : Hp) (Q Q' : VK), (∀ v H1, Q v H1 → Q' v H1) → tVar 0 σ H Q → tVar 0 σ H Q' := fun _ _ _ _ k ⟨v, a, b⟩ => ⟨v, a, k _ _ b⟩
    refine ⟨_, (pss_cons (ps_set (i := 1) scNamed.nd rfl (Or.inl rfl) (pe_lst (pa_cons (pe_xvk (T.x 0 (by decide)) hr rfl (pv 0) tv) (pa_cons (pe_xvk (T.x 1 (by decide)) hr rfl (pv 0) tv) (pa_cons (pe_xvk (T.x 2 (by decide)) hr rfl (pv 0) tv) (pa_cons (pe_xvk (T.x 3 (by decide)) hr rfl (pv 0) tv) pa_nil))))))
      (pss_cons (ps_set (i := 1) scNamed.nd rfl (Or.inl rfl) (pe_op op_cat (pv 1) (pe_lst (pa_cons (pe_xvk (T.x 4 (by decide)) hr rfl (pv 0) tv) (pa_cons (pe_xvk (T.x 5 (by decide)) hr rfl (pv 0) tv) (pa_cons (pe_xvk (T.x 6 (by decide)) hr rfl (pv 0) tv) pa_nil))))))
      (pss_cons (ps_set (i := 1) scNamed.nd rfl (Or.inl rfl) (pe_op op_cat (pv 1) (pe_lst (pa_cons (pe_xvk (T.x 7 (by decide)) hr rfl (pv 0) tv) (pa_cons (pe_xvk (T.x 8 (by decide)) hr rfl (pv 0) tv) (pa_cons (pe_xvk (T.x 9 (by decide)) hr rfl (pv 0) tv) pa_nil))))))
      (pss_one (ps_ret (pe_op op_cat (pv 1) (pe_lst (pa_cons (pe_xvk (T.x 10 (by decide)) hr rfl (pv 0) tv) pa_nil)))))))), ?_⟩
    refine ⟨_, rfl, fun a0 H0 n0 s0 x0 => ⟨_, rfl, fun a1 H1 n1 s1 x1 => ⟨_, rfl, fun a2 H2 n2 s2 x2 => ⟨_, rfl, fun a3 H3 n3 s3 x3 => ⟨by show 4 ≤ sizeLine; decide, fun p0 hp0 => ?_⟩⟩⟩⟩⟩
    refine ⟨_, rfl, ⟨_, rfl, fun a4 H4 n4 s4 x4 => ⟨_, rfl, fun a5 H5 n5 s5 x5 => ⟨_, rfl, fun a6 H6 n6 s6 x6 => ⟨by show 3 ≤ sizeLine; decide, fun p1 hp1 => ⟨p0, p1, _, _, rfl, rfl, ((same_ex (Ex.new hp1)) _ _ (s6 _ _ (s5 _ _ (s4 _ _ upd_same)))), upd_same, by show 4 + 3 ≤ sizeLine; decide, fun r1 hr1 => ?_⟩⟩⟩⟩⟩⟩
    refine ⟨_, rfl, ⟨_, rfl, fun a7 H7 n7 s7 x7 => ⟨_, rfl, fun a8 H8 n8 s8 x8 => ⟨_, rfl, fun a9 H9 n9 s9 x9 => ⟨by show 3 ≤ sizeLine; decide, fun p2 hp2 => ⟨r1, p2, _, _, rfl, rfl, ((same_ex (Ex.new hp2)) _ _ (s9 _ _ (s8 _ _ (s7 _ _ upd_same)))), upd_same, by show 7 + 3 ≤ sizeLine; decide, fun r2 hr2 => ?_⟩⟩⟩⟩⟩⟩
    refine ⟨_, rfl, ⟨_, rfl, fun a10 H10 n10 s10 x10 => ⟨by show 1 ≤ sizeLine; decide, fun p3 hp3 => ⟨r2, p3, _, _, rfl, rfl, ((same_ex (Ex.new hp3)) _ _ (s10 _ _ upd_same)), upd_same, by show 10 + 1 ≤ sizeLine; decide, fun r3 hr3 => ?_⟩⟩⟩⟩
    let a : Fin 11 → Addr := fun k => match k with | 0 => a0 | 1 => a1 | 2 => a2 | 3 => a3 | 4 => a4 | 5 => a5 | 6 => a6 | 7 => a7 | 8 => a8 | 9 => a9 | 10 => a10
    refine q _ _ ?_ ((Same.trans (Same.trans (Same.trans (Same.trans (Same.trans (Same.trans (Same.trans (Same.trans (Same.trans (Same.trans (Same.trans (Same.trans (Same.trans (Same.trans (Same.trans (Same.trans (Same.trans s0 s1) s2) s3) (same_ex (Ex.new hp0))) s4) s5) s6) (same_ex (Ex.new hp1))) (same_ex (Ex.new hr1))) s7) s8) s9) (same_ex (Ex.new hp2))) (same_ex (Ex.new hr2))) s10) (same_ex (Ex.new hp3))) (same_ex (Ex.new hr3)))) ⟨a, upd_same, fun k => ?_⟩
    · exact fresh_back (ex_same (Same.trans (Same.trans (Same.trans (Same.trans (Same.trans (Same.trans (Same.trans (Same.trans (Same.trans (Same.trans (Same.trans (Same.trans (Same.trans (Same.trans (Same.trans (Same.trans s0 s1) s2) s3) (same_ex (Ex.new hp0))) s4) s5) s6) (same_ex (Ex.new hp1))) (same_ex (Ex.new hr1))) s7) s8) s9) (same_ex (Ex.new hp2))) (same_ex (Ex.new hr2))) s10) (same_ex (Ex.new hp3)))) hr3
    · match k with
      | 0 => exact x0.mono (Same.trans (Same.trans (Same.trans (Same.trans (Same.trans (Same.trans (Same.trans (Same.trans (Same.trans (Same.trans (Same.trans (Same.trans (Same.trans (Same.trans (Same.trans (Same.trans s1 s2) s3) (same_ex (Ex.new hp0))) s4) s5) s6) (same_ex (Ex.new hp1))) (same_ex (Ex.new hr1))) s7) s8) s9) (same_ex (Ex.new hp2))) (same_ex (Ex.new hr2))) s10) (same_ex (Ex.new hp3))) (same_ex (Ex.new hr3)))
      | 1 => exact x1.mono (Same.trans (Same.trans (Same.trans (Same.trans (Same.trans (Same.trans (Same.trans (Same.trans (Same.trans (Same.trans (Same.trans (Same.trans (Same.trans (Same.trans (Same.trans s2 s3) (same_ex (Ex.new hp0))) s4) s5) s6) (same_ex (Ex.new hp1))) (same_ex (Ex.new hr1))) s7) s8) s9) (same_ex (Ex.new hp2))) (same_ex (Ex.new hr2))) s10) (same_ex (Ex.new hp3))) (same_ex (Ex.new hr3)))
      | 2 => exact x2.mono (Same.trans (Same.trans (Same.trans (Same.trans (Same.trans (Same.trans (Same.trans (Same.trans (Same.trans (Same.trans (Same.trans (Same.trans (Same.trans (Same.trans s3 (same_ex (Ex.new hp0))) s4) s5) s6) (same_ex (Ex.new hp1))) (same_ex (Ex.new hr1))) s7) s8) s9) (same_ex (Ex.new hp2))) (same_ex (Ex.new hr2))) s10) (same_ex (Ex.new hp3))) (same_ex (Ex.new hr3)))
      | 3 => exact x3.mono (Same.trans (Same.trans (Same.trans (Same.trans (Same.trans (Same.trans (Same.trans (Same.trans (Same.trans (Same.trans (Same.trans (Same.trans (Same.trans (same_ex (Ex.new hp0)) s4) s5) s6) (same_ex (Ex.new hp1))) (same_ex (Ex.new hr1))) s7) s8) s9) (same_ex (Ex.new hp2))) (same_ex (Ex.new hr2))) s10) (same_ex (Ex.new hp3))) (same_ex (Ex.new hr3)))
      | 4 => exact x4.mono (Same.trans (Same.trans (Same.trans (Same.trans (Same.trans (Same.trans (Same.trans (Same.trans (Same.trans (Same.trans (Same.trans s5 s6) (same_ex (Ex.new hp1))) (same_ex (Ex.new hr1))) s7) s8) s9) (same_ex (Ex.new hp2))) (same_ex (Ex.new hr2))) s10) (same_ex (Ex.new hp3))) (same_ex (Ex.new hr3)))
      | 5 => exact x5.mono (Same.trans (Same.trans (Same.trans (Same.trans (Same.trans (Same.trans (Same.trans (Same.trans (Same.trans (Same.trans s6 (same_ex (Ex.new hp1))) (same_ex (Ex.new hr1))) s7) s8) s9) (same_ex (Ex.new hp2))) (same_ex (Ex.new hr2))) s10) (same_ex (Ex.new hp3))) (same_ex (Ex.new hr3)))
      | 6 => exact x6.mono (Same.trans (Same.trans (Same.trans (Same.trans (Same.trans (Same.trans (Same.trans (Same.trans (Same.trans (same_ex (Ex.new hp1)) (same_ex (Ex.new hr1))) s7) s8) s9) (same_ex (Ex.new hp2))) (same_ex (Ex.new hr2))) s10) (same_ex (Ex.new hp3))) (same_ex (Ex.new hr3)))
      | 7 => exact x7.mono (Same.trans (Same.trans (Same.trans (Same.trans (Same.trans (Same.trans s8 s9) (same_ex (Ex.new hp2))) (same_ex (Ex.new hr2))) s10) (same_ex (Ex.new hp3))) (same_ex (Ex.new hr3)))
      | 8 => exact x8.mono (Same.trans (Same.trans (Same.trans (Same.trans (Same.trans s9 (same_ex (Ex.new hp2))) (same_ex (Ex.new hr2))) s10) (same_ex (Ex.new hp3))) (same_ex (Ex.new hr3)))
      | 9 => exact x9.mono (Same.trans (Same.trans (Same.trans (Same.trans (same_ex (Ex.new hp2)) (same_ex (Ex.new hr2))) s10) (same_ex (Ex.new hp3))) (same_ex (Ex.new hr3)))
      | 10 => exact x10.mono (Same.trans (same_ex (Ex.new hp3)) (same_ex (Ex.new hr3)))
theorem scBare : FnScope ["found"] [] (defScope sBare) := ⟨rfl, rfl, rfl, by decide +kernel, rfl, by decide +kernel, by decide +kernel⟩
theorem ok_bare (T : Txt P w K mg C fI fdI R) (F : Fun K "_law_bare" "_law_bare" sBare f fd) : FnOk P w K mg base CX0 3 f fd [] (spBare C) := by
  refine F.ok scBare (fun vs H Q E h => ?_) (fun cdv A outer s H vs Q E hr h => ?_)
  · obtain ⟨rfl, _⟩ := h
    rfl
  · obtain ⟨rfl, q⟩ := h
    refine ⟨_, (pss_cons (ps_set (i := 0) scBare.nd rfl (Or.inl rfl) (pe_lst (pa_cons (pe_xv0 (T.x 0 (by decide)) hr rfl) (pa_cons (pe_xv0 (T.x 1 (by decide)) hr rfl) (pa_cons (pe_xv0 (T.x 2 (by decide)) hr rfl) (pa_cons (pe_xv0 (T.x 3 (by decide)) hr rfl) (pa_cons (pe_xv0 (T.x 4 (by decide)) hr rfl) (pa_cons (pe_xv0 (T.x 5 (by decide)) hr rfl) pa_nil))))))))
      (pss_one (ps_ret (pe_op op_cat (pv 0) (pe_lst (pa_cons (pe_xv0 (T.x 6 (by decide)) hr rfl) (pa_cons (pe_xv0 (T.x 7 (by decide)) hr rfl) (pa_cons (pe_xv0 (T.x 8 (by decide)) hr rfl) (pa_cons (pe_xv0 (T.x 9 (by decide)) hr rfl) (pa_cons (pe_xv0 (T.x 10 (by decide)) hr rfl) pa_nil)))))))))), ?_⟩
    refine fun a0 H0 n0 s0 x0 => fun a1 H1 n1 s1 x1 => fun a2 H2 n2 s2 x2 => fun a3 H3 n3 s3 x3 => fun a4 H4 n4 s4 x4 => fun a5 H5 n5 s5 x5 => ⟨by show 6 ≤ sizeLine; decide, fun p0 hp0 => ?_⟩
    refine ⟨_, rfl, fun a6 H6 n6 s6 x6 => fun a7 H7 n7 s7 x7 => fun a8 H8 n8 s8 x8 => fun a9 H9 n9 s9 x9 => fun a10 H10 n10 s10 x10 => ⟨by show 5 ≤ sizeLine; decide, fun p1 hp1 => ⟨p0, p1, _, _, rfl, rfl, ((same_ex (Ex.new hp1)) _ _ (s10 _ _ (s9 _ _ (s8 _ _ (s7 _ _ (s6 _ _ upd_same)))))), upd_same, by show 6 + 5 ≤ sizeLine; decide, fun r1 hr1 => ?_⟩⟩⟩
    let a : Fin 11 → Addr := fun k => match k with | 0 => a0 | 1 => a1 | 2 => a2 | 3 => a3 | 4 => a4 | 5 => a5 | 6 => a6 | 7 => a7 | 8 => a8 | 9 => a9 | 10 => a10
    refine q _ _ ?_ ((Same.trans (Same.trans (Same.trans (Same.trans (Same.trans (Same.trans (Same.trans (Same.trans (Same.trans (Same.trans (Same.trans (Same.trans (Same.trans s0 s1) s2) s3) s4) s5) (same_ex (Ex.new hp0))) s6) s7) s8) s9) s10) (same_ex (Ex.new hp1))) (same_ex (Ex.new hr1)))) ⟨a, upd_same, fun k => ?_⟩
    · exact fresh_back (ex_same (Same.trans (Same.trans (Same.trans (Same.trans (Same.trans (Same.trans (Same.trans (Same.trans (Same.trans (Same.trans (Same.trans (Same.trans s0 s1) s2) s3) s4) s5) (same_ex (Ex.new hp0))) s6) s7) s8) s9) s10) (same_ex (Ex.new hp1)))) hr1
    · match k with
      | 0 => exact x0.mono (Same.trans (Same.trans (Same.trans (Same.trans (Same.trans (Same.trans (Same.trans (Same.trans (Same.trans (Same.trans (Same.trans (Same.trans s1 s2) s3) s4) s5) (same_ex (Ex.new hp0))) s6) s7) s8) s9) s10) (same_ex (Ex.new hp1))) (same_ex (Ex.new hr1)))
      | 1 => exact x1.mono (Same.trans (Same.trans (Same.trans (Same.trans (Same.trans (Same.trans (Same.trans (Same.trans (Same.trans (Same.trans (Same.trans s2 s3) s4) s5) (same_ex (Ex.new hp0))) s6) s7) s8) s9) s10) (same_ex (Ex.new hp1))) (same_ex (Ex.new hr1)))
      | 2 => exact x2.mono (Same.trans (Same.trans (Same.trans (Same.trans (Same.trans (Same.trans (Same.trans (Same.trans (Same.trans (Same.trans s3 s4) s5) (same_ex (Ex.new hp0))) s6) s7) s8) s9) s10) (same_ex (Ex.new hp1))) (same_ex (Ex.new hr1)))
      | 3 => exact x3.mono (Same.trans (Same.trans (Same.trans (Same.trans (Same.trans (Same.trans (Same.trans (Same.trans (Same.trans s4 s5) (same_ex (Ex.new hp0))) s6) s7) s8) s9) s10) (same_ex (Ex.new hp1))) (same_ex (Ex.new hr1)))
      | 4 => exact x4.mono (Same.trans (Same.trans (Same.trans (Same.trans (Same.trans (Same.trans (Same.trans (Same.trans s5 (same_ex (Ex.new hp0))) s6) s7) s8) s9) s10) (same_ex (Ex.new hp1))) (same_ex (Ex.new hr1)))
      | 5 => exact x5.mono (Same.trans (Same.trans (Same.trans (Same.trans (Same.trans (Same.trans (Same.trans (same_ex (Ex.new hp0)) s6) s7) s8) s9) s10) (same_ex (Ex.new hp1))) (same_ex (Ex.new hr1)))
      | 6 => exact x6.mono (Same.trans (Same.trans (Same.trans (Same.trans (Same.trans s7 s8) s9) s10) (same_ex (Ex.new hp1))) (same_ex (Ex.new hr1)))
      | 7 => exact x7.mono (Same.trans (Same.trans (Same.trans (Same.trans s8 s9) s10) (same_ex (Ex.new hp1))) (same_ex (Ex.new hr1)))
      | 8 => exact x8.mono (Same.trans (Same.trans (Same.trans s9 s10) (same_ex (Ex.new hp1))) (same_ex (Ex.new hr1)))
      | 9 => exact x9.mono (Same.trans (Same.trans s10 (same_ex (Ex.new hp1))) (same_ex (Ex.new hr1)))
      | 10 => exact x10.mono (Same.trans (same_ex (Ex.new hp1)) (same_ex (Ex.new hr1)))
end
end Lx

set_option Elab.async false
set_option maxRecDepth 100000
set_option linter.all false
set_option maxHeartbeats 4000000
namespace Lx
open PySem PySem.Spec PyProof.Rows L2 Evl Kx
section
variable {P : Program} {w : World} {K : PySem.W.Frag} {mg : Str → Option Value} {base : Heap} {f R : Addr} {fd : FuncData} {C fI : Nat → Addr} {fdI : Nat → FuncData}
theorem scLaw : FnScope ["script", "mark", "elder", "given", "first", "second"] ["script"] (defScope sLaw) := ⟨rfl, rfl, rfl, by decide +kernel, rfl, by decide +kernel, by decide +kernel⟩
def spLaw (K : PySem.W.Frag) : Sp := fun vs H Q _ => ∃ (l : Addr) (ns : List Int), vs = [.ref l] ∧ SqL K H l (ns.map V.int) ∧ Sys H ∧ ∀ H', Q (.bl true) H'
/-! ### the law's own objects -/
theorem ErrsAt.upd_ {H : Hp} {es g : Addr} {v : V} {o o' : HO} (h : ErrsAt C H es v) (hg : H g = some o) (n1 : ∀ φ, o ≠ .ext φ) (n2 : ∀ xs, o = .lst xs → xs.length ≠ 11) : ErrsAt C (upd H g o') es v := by
  obtain ⟨a, h1, h2⟩ := h
  refine ⟨a, ?_, fun k => ?_⟩
  · rw [upd_ne fun z => ?_]
    · exact h1
    · rw [z, hg] at h1
      exact n2 _ (Option.some.inj h1) (by rw [List.length_map]; decide)
  · obtain ⟨d, k1, k2⟩ := h2 k
    refine ⟨d, ?_, ?_⟩
    · rw [upd_ne fun z => ?_]
      · exact k1
      · rw [z, hg] at k1
        exact n1 _ (Option.some.inj k1)
    · rw [upd_ne fun z => ?_]
      · exact k2
      · rw [z, hg] at k2
        exact n1 _ (Option.some.inj k2)
def itms (r : Int) (t1 t2 t3 g4 g5 g6 g7 : Addr) : List V := [.int r, .int (0 - r), .ref t1, .ref t2, .ref g4, .ref g5, .ref g6, .ref g7, .str "a b", .str "", .bl true, .non, .ref t3]
structure St0 (C : Nat → Addr) (r : Int) (el e0 e1 L t1 t2 t3 t4 g4 g5 g6 g7 m : Addr) (i : Nat) (H : Hp) : Prop where
  sys : Sys H
  hel : H el = some (.lst [.ref e0, .ref e1])
  he0 : ErrsAt C H e0 (.int r)
  he1 : ErrsAt C H e1 (.str "elder")
  hL : H L = some (.lst (itms r t1 t2 t3 g4 g5 g6 g7))
  ht1 : H t1 = some (.tup [.int 1, .int 2])
  ht2 : H t2 = some (.tup [])
  ht4 : H t4 = some (.tup [.int 0])
  ht3 : H t3 = some (.tup [.str "f", .ref t4])
  f4 : i ≤ 4 → H g4 = some (.lst [.int 1])
  f5 : i ≤ 5 → H g5 = some (.lst [])
  f6 : i ≤ 6 → H g6 = some (.dK [])
  f7 : i ≤ 7 → H g7 = some (.dK [(Sum.inr "a", V.ref m)])
  fm : i ≤ 7 → H m = some (.lst [.int r])
  ne : m ≠ g4
section
variable {r : Int} {el e0 e1 L t1 t2 t3 t4 g4 g5 g6 g7 m : Addr} {i j : Nat} {H H' : Hp}
theorem St0.same (s : St0 C r el e0 e1 L t1 t2 t3 t4 g4 g5 g6 g7 m i H) (x : Same H H') (hj : i ≤ j) : St0 C r el e0 e1 L t1 t2 t3 t4 g4 g5 g6 g7 m j H' :=
  ⟨s.sys.mono x, x _ _ s.hel, s.he0.mono x, s.he1.mono x, x _ _ s.hL, x _ _ s.ht1, x _ _ s.ht2, x _ _ s.ht4, x _ _ s.ht3, fun h => x _ _ (s.f4 (by omega)), fun h => x _ _ (s.f5 (by omega)), fun h => x _ _ (s.f6 (by omega)), fun h => x _ _ (s.f7 (by omega)), fun h => x _ _ (s.fm (by omega)), s.ne⟩
/-- an object g of the items' own is changed; what comes behind its turn is not it -/
theorem St0.upd_ {g : Addr} {o o' : HO} (s : St0 C r el e0 e1 L t1 t2 t3 t4 g4 g5 g6 g7 m i H) (hg : H g = some o) (hj : i ≤ j) (n0 : ∀ ob u, o ≠ .frz ob u) (n1 : ∀ φ, o ≠ .ext φ) (n2 : ∀ xs, o = .lst xs → xs.length ≤ 1) (n3 : ∀ xs, o ≠ .tup xs)
    (k4 : j ≤ 4 → g4 ≠ g) (k5 : j ≤ 5 → g5 ≠ g) (k6 : j ≤ 6 → g6 ≠ g) (k7 : j ≤ 7 → g7 ≠ g) (km : j ≤ 7 → m ≠ g) : St0 C r el e0 e1 L t1 t2 t3 t4 g4 g5 g6 g7 m j (upd H g o') := by
  have nl : ∀ {a : Addr} {xs : List V}, H a = some (.lst xs) → 2 ≤ xs.length → a ≠ g := fun {a xs} h hl z => by
    rw [z, hg] at h
    have := n2 _ (Option.some.inj h)
    omega
  have nt : ∀ {a : Addr} {xs : List V}, H a = some (.tup xs) → a ≠ g := fun {a xs} h z => by
    rw [z, hg] at h
    exact n3 _ (Option.some.inj h)
  have ns : sysModules ≠ g := fun z => by
    obtain ⟨ob, u, e⟩ := s.sys
    rw [z, hg] at e
    exact n0 _ _ (Option.some.inj e)
  obtain ⟨ob, u, e⟩ := s.sys
  refine ⟨⟨ob, u, by rw [upd_ne ns]; exact e⟩, by rw [upd_ne (nl s.hel (by show 2 ≤ 2; decide))]; exact s.hel, s.he0.upd_ hg n1 fun xs z => by have := n2 xs z; omega, s.he1.upd_ hg n1 fun xs z => by have := n2 xs z; omega,
    by rw [upd_ne (nl s.hL (by show 2 ≤ 13; decide))]; exact s.hL, by rw [upd_ne (nt s.ht1)]; exact s.ht1, by rw [upd_ne (nt s.ht2)]; exact s.ht2, by rw [upd_ne (nt s.ht4)]; exact s.ht4, by rw [upd_ne (nt s.ht3)]; exact s.ht3,
    fun h => by rw [upd_ne (k4 h)]; exact s.f4 (by omega), fun h => by rw [upd_ne (k5 h)]; exact s.f5 (by omega), fun h => by rw [upd_ne (k6 h)]; exact s.f6 (by omega), fun h => by rw [upd_ne (k7 h)]; exact s.f7 (by omega), fun h => by rw [upd_ne (km h)]; exact s.fm (by omega), s.ne⟩
end
/-- what one turn of the law's loop needs of its item -/
inductive Mode (K : PySem.W.Frag) (H : Hp) (x : V) (d : PyData) (nxt : Hp → Prop) : Prop
  | plain (T : String) (h1 : ∀ H', Same H H' → TyX K H' x (.type T)) (h2 : kitB T "list" = some false) (h3 : kitB T "dict" = some false) (h4 : ∀ H', Same H H' → nxt H')
  | lst (g : Addr) (xs : List V) (ds : List PyData) (e : x = .ref g) (hg : H g = some (.lst xs)) (hl : xs.length ≤ 1) (hd : ∀ H', DqA K H' xs ds) (ok : okD (.list (ds ++ [.str "more"]))) (h4 : ∀ H' H'' o', Same H H' → Same (upd H' g o') H'' → nxt H'')
  | dic (g : Addr) (kvs : List (Key × V)) (ds : List (PyData × PyData)) (e : x = .ref g) (hg : H g = some (.dK kvs)) (hl : kvs.length ≤ 1) (hp : ∀ v : V, putK kvs (Sum.inr "more" : Key) v = kvs ++ [((Sum.inr "more" : Key), v)])
      (hd : ∀ H' o', Same H H' → DqD K (upd H' g o') kvs ds) (ok : okD (.dict (ds ++ [(.str "more", .list [.int 1])]))) (h4 : ∀ H' H'' o', Same H H' → Same (upd H' g o') H'' → nxt H'')
theorem dqd_app {H : Hp} {k : Key} {v : V} {d : PyData} : ∀ {vs : List (Key × V)} {ds : List (PyData × PyData)}, DqD K H vs ds → Dq K H v d → DqD K H (vs ++ [(k, v)]) (ds ++ [(keyD k, d)])
  | _, _, .nil, h => .cons h .nil
  | _, _, .cons a b, h => .cons a (dqd_app b h)
/-- a def that the law calls -/
structure Cal (K : PySem.W.Frag) (mg : Str → Option Value) (x : Str) (g : Addr) (fd : FuncData) (ps : List Str) : Prop where
  m : mg x = some (.ref g)
  k : PySem.W.keepIn K (.ref g) = true
  b : Binds K fd ps []
theorem ev_right {es : Addr} {v : V} {d : PyData} {H : Hp} {σ : L2.St} {te tf : TE} (h1 : Ev te σ H (.ref es)) (h2 : Ev tf σ H v) (he : ErrsAt C H es v) (hy : Sys H) (hd : Dq K H v d) (ok : okD d) :
    Ev (tCall (spRight K C) [] E0 (tCons te (tCons tf tNil))) σ H (.bl true) := fun H1 x Q q => h1 H1 x _ fun H2 x2 => h2 H2 (x.trans x2) _ fun H3 x3 =>
  have y := (x.trans x2).trans x3
  ⟨es, v, d, rfl, he.mono (same_ex y), hy.mono (same_ex y), hd.mono (same_ex y), ok, fun H4 x4 => q H4 ((x2.trans x3).trans x4)⟩
theorem ok_law {fG fR fP fN fB fT fK : Addr} {dG dR dP dN dB dT dK : FuncData} (T : Txt P w K mg C fI fdI R) (F : Fun K "law" "law" sLaw f fd)
    (GG : FnOk P w K mg base CX0 2 fG dG ["script", "index"] (spGen K)) (cG : Cal K mg "_law_generator" fG dG ["script", "index"])
    (GR : FnOk P w K mg base CX0 2 fR dR ["generator", "bound"] spRnd) (cR : Cal K mg "_law_random" fR dR ["generator", "bound"])
    (GP : FnOk P w K mg base CX0 3 fP dP ["given"] (spMade C)) (cP : Cal K mg "_law_placed" fP dP ["given"])
    (GN : FnOk P w K mg base CX0 3 fN dN ["given"] (spMade C)) (cN : Cal K mg "_law_named" fN dN ["given"])
    (GB : FnOk P w K mg base CX0 3 fB dB [] (spBare C)) (cB : Cal K mg "_law_bare" fB dB [])
    (GT : GnOk P w K mg base CX0 2 fT dT ["errors", "given"] (spRight K C)) (cT : Cal K mg "_law_right" fT dT ["errors", "given"])
    (GK : FnOk P w K mg base CX0 1 fK dK ["error"] (spKinds C)) (cK : Cal K mg "_law_kinds" fK dK ["error"]) :
    GnOk P w K mg base CX0 4 f fd ["script"] (spLaw K) := by
  refine gn_ok F scLaw (fun vs H Q E h => ?_) (fun cdv A outer s H vs Q E hgu hr h => ?_)
  · obtain ⟨_, _, rfl, _⟩ := h
    rfl
  · obtain ⟨l, ns, rfl, hS, hy, q⟩ := h
    have hu64 := hr.units
    have hu := hu_of hr
    have r2 := hr.mono (j := 2) (by decide)
    have r1 := hr.mono (j := 1) (by decide)
    refine ⟨_, (pss_cons (ps_set (i := 1) scLaw.nd rfl (Or.inl rfl) (pe_call GR r2 rfl cR.m cR.k cR.b .nil pass0 (pa_cons (pe_call GG r2 rfl cG.m cG.k cG.b .nil pass0 (pa_cons (pv 0) (pa_cons pe_int pa_nil))) (pa_cons (pe_op op_pow pe_int pe_int) pa_nil))))
      (pss_cons (ps_set (i := 2) scLaw.nd rfl (Or.inl rfl) (pe_lst (pa_cons (pe_call GP hr rfl cP.m cP.k cP.b .nil pass0 (pa_cons (pv 1) pa_nil)) (pa_cons (pe_call GN hr rfl cN.m cN.k cN.b .nil pass0 (pa_cons pe_str pa_nil)) pa_nil))))
      (pss_cons (ps_for PassesOwn.never rfl (pi_list (pe_lst (pa_cons (pv 1) (pa_cons (pe_op op_sub pe_int (pv 1)) (pa_cons (pe_tup (pa_cons pe_int (pa_cons pe_int pa_nil))) (pa_cons (pe_tup pa_nil) (pa_cons (pe_lst (pa_cons pe_int pa_nil)) (pa_cons (pe_lst pa_nil) (pa_cons pe_dnewK (pa_cons (pe_disp (pps_cons pe_str (pe_lst (pa_cons (pv 1) pa_nil)) pps_nil) (by rfl) (by rfl) (fun z => by cases z) (by decide)) (pa_cons pe_str (pa_cons pe_str (pa_cons pe_bl (pa_cons pe_non (pa_cons (pe_tup (pa_cons pe_str (pa_cons (pe_tup (pa_cons pe_int pa_nil)) pa_nil))) pa_nil))))))))))))))) (pg_name (i := 3) scLaw.nd rfl (Or.inl rfl)) (pss_cons (ps_par (i := 4) (j := 5) (by rfl) scLaw.nd rfl rfl (by decide) rfl rfl (pa_cons (pe_call GP hr rfl cP.m cP.k cP.b .nil pass0 (pa_cons (pv 3) pa_nil)) (pa_cons (pe_call GN hr rfl cN.m cN.k cN.b .nil pass0 (pa_cons (pv 3) pa_nil)) pa_nil)) (by rfl))
      (pss_cons (ps_if (PW.pt (pw_or (pt_not (pt_val (pe_callG GT hgu r2 rfl cT.m cT.k cT.b .nil pass0 (pa_cons (pv 4) (pa_cons (pv 3) pa_nil))))) (pw_or1 (pt_not (pt_val (pe_callG GT hgu r2 rfl cT.m cT.k cT.b .nil pass0 (pa_cons (pv 5) (pa_cons (pv 3) pa_nil)))))))) (pss_one (ps_ret pe_bl)) pss_nil)
      (pss_cons (ps_if (pt_val (pe_callB call_isi (by rfl) T.isi PyProof.Rows.boot_isinstance (pa_cons (pv 3) (pa_cons (pe_bltn (v := .ty "list") (by rfl) T.lst (by decide +kernel) rfl) pa_nil)))) (pss_one (ps_expr (pe_bm PySem.F.plainAttrs_list PySem.F.slot_list_append PySem.F.type_list_append mt_append (pv 3) (pa_cons pe_str pa_nil)))) pss_nil)
      (pss_cons (ps_if (pt_val (pe_callB call_isi (by rfl) T.isi PyProof.Rows.boot_isinstance (pa_cons (pv 3) (pa_cons (pe_bltn (v := .ty "dict") (by rfl) T.dct (by decide +kernel) rfl) pa_nil)))) (pss_one (ps_dput hu (pv 3) pe_str (pe_lst (pa_cons pe_int pa_nil)) rfl)) pss_nil)
      (pss_one (ps_if (PW.pt (pw_or (pt_not (pt_val (pe_callG GT hgu r2 rfl cT.m cT.k cT.b .nil pass0 (pa_cons (pv 4) (pa_cons (pv 3) pa_nil))))) (pw_or1 (pt_not (pt_val (pe_callG GT hgu r2 rfl cT.m cT.k cT.b .nil pass0 (pa_cons (pv 5) (pa_cons (pv 3) pa_nil)))))))) (pss_one (ps_ret pe_bl)) pss_nil)))))))
      (pss_cons (ps_if (PW.pt (pw_or (pt_not (pt_val (pe_callG GT hgu r2 rfl cT.m cT.k cT.b .nil pass0 (pa_cons (pe_ix ix_list (pv 2) pe_int (fun _ _ => rfl)) (pa_cons (pv 1) pa_nil))))) (pw_or (pt_not (pt_val (pe_callG GT hgu r2 rfl cT.m cT.k cT.b .nil pass0 (pa_cons (pe_ix ix_list (pv 2) pe_int (fun _ _ => rfl)) (pa_cons pe_str pa_nil))))) (pw_or1 (pt_not (pt_val (pe_callG GT hgu r2 rfl cT.m cT.k cT.b .nil pass0 (pa_cons (pe_call0 GB hr rfl cB.m cB.k cB.b .nil pass0) (pa_cons pe_non pa_nil))))))))) (pss_one (ps_ret pe_bl)) pss_nil)
      (pss_one (ps_ret (pe_cmpR (op_eqD hu64) (pe_call GK r1 rfl cK.m cK.k cK.b .nil pass0 (pa_cons (pe_exc0 PySem.F.excBase_ValueError T.q11 T.m11 T.k11 rfl) pa_nil)) (pe_lst (pa_cons pe_int pa_nil)) (nomark _)))))))), ?_⟩
    have hp : CPow 10 12 := ⟨by decide, by decide, by decide⟩
    refine ⟨_, rfl, l, ns, 0, rfl, hS, fun p H1 np s1 g1 => ⟨_, _, rfl, rfl, hp, p, 1000 * 0, _, rfl, g1, by decide, by decide, fun r H2 o hr2 hH2 g2 => ?_⟩⟩
    have y2 : Sys H2 := by
      obtain ⟨ob, u, e⟩ := hy.mono s1
      refine ⟨ob, u, ?_⟩
      obtain ⟨_, _, _, g1', _⟩ := g1
      rw [hH2, upd_ne (fun z => by
        rw [z, g1'] at e
        cases e)]
      exact e
    refine ⟨_, rfl, _, rfl, fun e0 H3 n0 s3 x0 => ⟨_, rfl, fun e1 H4 n1 s4 x1 => ⟨by show 2 ≤ sizeLine; decide, fun el nel => ?_⟩⟩⟩
    refine ⟨_, rfl, _, rfl, _, _, rfl, rfl, by show 2 ≤ sizeLine; decide, fun t1 h1 => ⟨by show 0 ≤ sizeLine; decide, fun t2 h2 => ⟨by show 1 ≤ sizeLine; decide, fun g4 h4 => ⟨by show 0 ≤ sizeLine; decide, fun g5 h5 => fun g6 h6 => fun g7 h7 => ?_⟩⟩⟩⟩
    refine ⟨_, rfl, by show 1 ≤ sizeLine; decide, fun m hm => ⟨?_, [(Sum.inr "a", V.ref m)], rfl, by show 1 ≤ 15; decide, by show 1 ≤ sizeLine; decide, fun t4 h9 => ⟨by show 2 ≤ sizeLine; decide, fun t3 h10 => ⟨by show 13 ≤ sizeLine; decide, fun L hL => ⟨L, rfl, ⟨_, SqL.of upd_same⟩, ?_⟩⟩⟩⟩⟩
    · rw [upd_ne (ne_of_none upd_same hm)]
      exact upd_same
    have hr40 : r.natAbs < 2 ^ 40 := by
      have e1 : ((10 : Int) ^ Int.toNat 12) = 1000000000000 := by decide
      have e2 : (2 : Nat) ^ 40 = 1099511627776 := by decide
      rw [e1] at hr2
      omega
    have lg : ∀ z : Int, z.natAbs < 2 ^ 40 → z.natAbs.log2 < 40 := fun z hz => by
      by_cases h0 : z.natAbs = 0
      · rw [h0]
        decide
      · exact (Nat.log2_lt h0).mpr hz
    have okI : ∀ z : Int, z.natAbs < 2 ^ 40 → okD (.int z) := fun z hz => by
      have := lg z hz
      refine ⟨?_, ?_, ?_⟩
      · simp only [PyData.showable, decide_eq_true_eq]
        omega
      · simp only [PyData.depth]
        omega
      · simp only [bnd]
        omega
    refine for_list (K := K) (a := L) (xs := itms r t1 t2 t3 g4 g5 g6 g7) (fun i σ H' => ∃ a b c : Option V, σ = [some (.ref l), some (.int r), some (.ref el), a, b, c] ∧ St0 C r el e0 e1 L t1 t2 t3 t4 g4 g5 g6 g7 m i H') ?_
      (fun i σ H' _ ⟨_, _, _, _, s⟩ => SqL.of s.hL) ?_ ?_
    · have z11 := Ex.new (o := .lst (itms r t1 t2 t3 g4 g5 g6 g7)) hL
      have z10 := (Ex.new h10).trans z11
      have z9 := (Ex.new h9).trans z10
      have z5 := (Ex.mut ((Ex.new h7).trans (Ex.new hm)) h7).trans z9
      have z4 := (Ex.new h6).trans z5
      have z3 := (Ex.new h5).trans z4
      have z2 := (Ex.new h4).trans z3
      have z1 := (Ex.new h2).trans z2
      have z0 := (Ex.new h1).trans z1
      have ze := (Ex.new nel).trans z0
      have mg7 : m ≠ g7 := fun z => by
        rw [z, upd_same] at hm
        cases hm
      have mg4 : m ≠ g4 := fun z => by
        have e := ((Ex.new h5).trans ((Ex.new h6).trans (Ex.new (o := .dK []) h7))) g4 _ upd_same
        rw [z, e] at hm
        cases hm
      refine ⟨none, none, none, rfl, ⟨(y2.mono (s3.trans s4)).mono (same_ex ze), z0 _ _ upd_same, x0.mono (s4.trans (same_ex ze)), x1.mono (same_ex ze), upd_same, z1 _ _ upd_same, z2 _ _ upd_same, z10 _ _ upd_same, z11 _ _ upd_same,
        fun _ => z3 _ _ upd_same, fun _ => z4 _ _ upd_same, fun _ => z5 _ _ upd_same, fun _ => z9 _ _ upd_same, fun _ => z9 _ _ (by rw [upd_ne mg7]; exact upd_same), mg4⟩⟩
    · rintro i x σ H5 hi ⟨a, b, c, rfl, s⟩
      obtain ⟨d, hd, okd, mode⟩ : ∃ d, Dq K H5 x d ∧ okD d ∧ Mode K H5 x d (St0 C r el e0 e1 L t1 t2 t3 t4 g4 g5 g6 g7 m (i + 1)) := by
        have nx0 : ∀ H', Same H5 H' → St0 C r el e0 e1 L t1 t2 t3 t4 g4 g5 g6 g7 m (i + 1) H' := fun H' z => s.same z (Nat.le_succ i)
        have kF : ∀ {xs : List V} (ob : Obj) (u : HO), HO.lst xs ≠ .frz ob u := fun _ _ z => by cases z
        have kD : ∀ {xs : List (Key × V)} (ob : Obj) (u : HO), HO.dK xs ≠ .frz ob u := fun _ _ z => by cases z
        have lF : ∀ {xs : List V} (φ : Heap → Prop), HO.lst xs ≠ .ext φ := fun _ z => by cases z
        have lD : ∀ {xs : List (Key × V)} (φ : Heap → Prop), HO.dK xs ≠ .ext φ := fun _ z => by cases z
        have tF : ∀ {xs : List V} (ys : List V), HO.lst xs ≠ .tup ys := fun _ z => by cases z
        have tD : ∀ {xs : List (Key × V)} (ys : List V), HO.dK xs ≠ .tup ys := fun _ z => by cases z
        have oF : ∀ {xs : List V}, xs.length ≤ 1 → ∀ ys, HO.lst xs = .lst ys → ys.length ≤ 1 := fun h ys z => by
          cases z
          exact h
        have oD : ∀ {xs : List (Key × V)} (ys : List V), HO.dK xs = .lst ys → ys.length ≤ 1 := fun _ z => by cases z
        match i, hi, s, nx0 with
        | 0, hi, s, nx0 =>
          cases hi
          exact ⟨.int r, .int r, okI r hr40, .plain "int" (fun _ _ => .base (.int r)) (by decide +kernel) (by decide +kernel) nx0⟩
        | 1, hi, s, nx0 =>
          cases hi
          exact ⟨.int (0 - r), .int (0 - r), okI (0 - r) (by omega), .plain "int" (fun _ _ => .base (.int _)) (by decide +kernel) (by decide +kernel) nx0⟩
        | 2, hi, s, nx0 =>
          cases hi
          exact ⟨.tuple [.int 1, .int 2], .tup (SqT.of s.ht1) (.cons (.int 1) (.cons (.int 2) .nil)), ⟨by decide +kernel, by decide +kernel, by decide +kernel⟩, .plain "tuple" (fun _ z => .base (.tup (z _ _ s.ht1))) (by decide +kernel) (by decide +kernel) nx0⟩
        | 3, hi, s, nx0 =>
          cases hi
          exact ⟨.tuple [], .tup (SqT.of s.ht2) .nil, ⟨by decide +kernel, by decide +kernel, by decide +kernel⟩, .plain "tuple" (fun _ z => .base (.tup (z _ _ s.ht2))) (by decide +kernel) (by decide +kernel) nx0⟩
        | 4, hi, s, nx0 =>
          cases hi
          have h4 := s.f4 (by decide)
          refine ⟨.list [.int 1], .lst h4 (.cons (.int 1) .nil), ⟨by decide +kernel, by decide +kernel, by decide +kernel⟩, .lst g4 [.int 1] [.int 1] rfl h4 (by decide) (fun _ => .cons (.int 1) .nil) ⟨by decide +kernel, by decide +kernel, by decide +kernel⟩ fun H' H'' o' z z2 => ?_⟩
          have s' := s.same z (Nat.le_refl 4)
          refine (s'.upd_ (j := 5) (z _ _ h4) (by decide) kF lF (oF (by decide)) tF (fun h => absurd h (by decide)) (fun _ => ?_) (fun _ => ?_) (fun _ => ?_) fun _ => s.ne).same z2 (Nat.le_refl 5)
          · exact ne_of (s'.f5 (by decide)) (z _ _ h4) (fun z => by cases z)
          · exact ne_of (s'.f6 (by decide)) (z _ _ h4) (fun z => by cases z)
          · exact ne_of (s'.f7 (by decide)) (z _ _ h4) (fun z => by cases z)
        | 5, hi, s, nx0 =>
          cases hi
          have h4 := s.f5 (by decide)
          refine ⟨.list [], .lst h4 .nil, ⟨by decide +kernel, by decide +kernel, by decide +kernel⟩, .lst g5 [] [] rfl h4 (by decide) (fun _ => .nil) ⟨by decide +kernel, by decide +kernel, by decide +kernel⟩ fun H' H'' o' z z2 => ?_⟩
          have s' := s.same z (Nat.le_refl 5)
          refine (s'.upd_ (j := 6) (z _ _ h4) (by decide) kF lF (oF (by decide)) tF (fun h => absurd h (by decide)) (fun h => absurd h (by decide)) (fun _ => ?_) (fun _ => ?_) fun _ => ?_).same z2 (Nat.le_refl 6)
          · exact ne_of (s'.f6 (by decide)) (z _ _ h4) (fun z => by cases z)
          · exact ne_of (s'.f7 (by decide)) (z _ _ h4) (fun z => by cases z)
          · exact ne_of (s'.fm (by decide)) (z _ _ h4) (fun z => by cases z)
        | 6, hi, s, nx0 =>
          cases hi
          have h4 := s.f6 (by decide)
          refine ⟨.dict [], .dic h4 .nil, ⟨by decide +kernel, by decide +kernel, by decide +kernel⟩, .dic g6 [] [] rfl h4 (by decide) (fun _ => rfl) (fun _ _ _ => .nil) ⟨by decide +kernel, by decide +kernel, by decide +kernel⟩ fun H' H'' o' z z2 => ?_⟩
          have s' := s.same z (Nat.le_refl 6)
          refine (s'.upd_ (j := 7) (z _ _ h4) (by decide) kD lD oD tD (fun h => absurd h (by decide)) (fun h => absurd h (by decide)) (fun h => absurd h (by decide)) (fun _ => ?_) fun _ => ?_).same z2 (Nat.le_refl 7)
          · exact ne_of (s'.f7 (by decide)) (z _ _ h4) (fun z => by cases z)
          · exact ne_of (s'.fm (by decide)) (z _ _ h4) (fun z => by cases z)
        | 7, hi, s, nx0 =>
          cases hi
          have h4 := s.f7 (by decide)
          have hm' := s.fm (by decide)
          have l40 := lg r hr40
          refine ⟨.dict [(.str "a", .list [.int r])], .dic h4 (.cons (.lst hm' (.cons (.int r) .nil)) .nil), ⟨?_, ?_, ?_⟩, .dic g7 _ [(.str "a", .list [.int r])] rfl h4 (by show 1 ≤ 1; decide) (fun v => ?_) (fun H' o' z => ?_) ⟨?_, ?_, ?_⟩ fun H' H'' o' z z2 => ?_⟩
          · simp only [PyData.showable, PyData.showableKv, PyData.showableAll, Bool.and_true, Bool.true_and, decide_eq_true_eq]
            omega
          · simp only [PyData.depth, PyData.depthKv, PyData.depthAll]
            omega
          · have e1 : (reprText "a").length = 3 := by decide +kernel
            simp only [bnd, bndD, bndA, e1]
            omega
          · show (if ([((Sum.inr "a" : Key), V.ref m)].any fun kv => decide (kv.1 = (Sum.inr "more" : Key))) = true then _ else _) = _
            exact if_neg (fun z => by
              have z2 : decide ((Sum.inr "a" : Key) = (Sum.inr "more" : Key)) || false = true := z
              exact absurd z2 (by decide +kernel))
          · refine .cons (.lst ?_ (.cons (.int r) .nil)) .nil
            rw [upd_ne (ne_of (z _ _ hm') (z _ _ h4) (fun z => by cases z))]
            exact z _ _ hm'
          · simp only [PyData.showable, PyData.showableKv, PyData.showableAll, List.cons_append, List.nil_append, Bool.and_true, Bool.true_and, Bool.and_eq_true, decide_eq_true_eq]
            refine ⟨by omega, by decide +kernel⟩
          · simp only [PyData.depth, PyData.depthKv, PyData.depthAll, List.cons_append, List.nil_append]
            omega
          · have e1 : (reprText "a").length = 3 := by decide +kernel
            have e2 : (reprText "more").length = 6 := by decide +kernel
            have e3 : bnd (.int 1) = 2 := by decide +kernel
            simp only [bnd, bndD, bndA, List.cons_append, List.nil_append, e1, e2]
            simp only [bnd] at e3
            omega
          · have s' := s.same z (Nat.le_refl 7)
            exact (s'.upd_ (j := 8) (z _ _ h4) (by decide) kD lD oD tD (fun h => absurd h (by decide)) (fun h => absurd h (by decide)) (fun h => absurd h (by decide)) (fun h => absurd h (by decide)) (fun h => absurd h (by decide))).same z2 (Nat.le_refl 8)
        | 8, hi, s, nx0 =>
          cases hi
          exact ⟨.str "a b", .str _, ⟨by decide +kernel, by decide +kernel, by decide +kernel⟩, .plain "str" (fun _ _ => .base (.str _)) (by decide +kernel) (by decide +kernel) nx0⟩
        | 9, hi, s, nx0 =>
          cases hi
          exact ⟨.str "", .str _, ⟨by decide +kernel, by decide +kernel, by decide +kernel⟩, .plain "str" (fun _ _ => .base (.str _)) (by decide +kernel) (by decide +kernel) nx0⟩
        | 10, hi, s, nx0 =>
          cases hi
          exact ⟨.bool true, .bl _, ⟨by decide +kernel, by decide +kernel, by decide +kernel⟩, .plain "bool" (fun _ _ => .base (.bl _)) (by decide +kernel) (by decide +kernel) nx0⟩
        | 11, hi, s, nx0 =>
          cases hi
          exact ⟨.none, .non, ⟨by decide +kernel, by decide +kernel, by decide +kernel⟩, .plain "NoneType" (fun _ _ => .base .non) (by decide +kernel) (by decide +kernel) nx0⟩
        | 12, hi, s, nx0 =>
          cases hi
          exact ⟨.tuple [.str "f", .tuple [.int 0]], .tup (SqT.of s.ht3) (.cons (.str _) (.cons (.tup (SqT.of s.ht4) (.cons (.int 0) .nil)) .nil)), ⟨by decide +kernel, by decide +kernel, by decide +kernel⟩, .plain "tuple" (fun _ z => .base (.tup (z _ _ s.ht3))) (by decide +kernel) (by decide +kernel) nx0⟩
        | n + 13, hi, s, nx0 => cases hi
      refine ⟨_, rfl, _, rfl, fun fa Ha na sa xa => ⟨_, rfl, _, rfl, fun fb Hb nb sb xb => ⟨_, _, rfl, ?_⟩⟩⟩
      have yb := sa.trans sb
      refine q_when (et_or (et_not (et_B (ev_right (K := K) (ev_var rfl) (ev_var rfl) (xa.mono sb) (s.sys.mono yb) (hd.mono yb) okd))) fun _ => et_not (et_B (ev_right (ev_var rfl) (ev_var rfl) xb (s.sys.mono yb) (hd.mono yb) okd))) (fun z => nomatch z) fun _ H6 x6 => ?_
      have y6 := yb.trans x6
      have a6 := xa.mono (sb.trans x6)
      have b6 := xb.mono (same_ex x6)
      have isT : ∀ {σ : L2.St} {Hn : Hp} {T N : String} {k : Bool}, σ[3]? = some (some x) → (∀ H', Same Hn H' → TyX K H' x (.type T)) → kitB T N = some k → Ev (tCB (rIsi K) (tCons (tVar 3) (tCons (tC (.ty N)) tNil))) σ Hn (.bl k) :=
        fun hs h1 h2 H1 x1 Q1 q1 => ⟨_, hs, x, _, _, _, _, rfl, .ty _, h1 H1 (same_ex x1), kit_ty h2, q1 H1 (Ex.refl H1)⟩
      have s6 := s.sys.mono y6
      have d6 := hd.mono y6
      cases mode with
      | plain T0 h1 h2 h3 h4 =>
        refine q_when (et_B (isT rfl (fun H' z => h1 H' (y6.trans z)) h2)) (fun z => nomatch z) fun _ H7 x7 => ?_
        refine q_when (et_B (isT rfl (fun H' z => h1 H' ((y6.trans x7).trans z)) h3)) (fun z => nomatch z) fun _ H8 x8 => ?_
        have y8 := x7.trans x8
        refine s_when (et_or (et_not (et_B (ev_right (K := K) (ev_var rfl) (ev_var rfl) (a6.mono (same_ex y8)) (s6.mono (same_ex y8)) (d6.mono (same_ex y8)) okd))) fun _ => et_not (et_B (ev_right (ev_var rfl) (ev_var rfl) (b6.mono (same_ex y8)) (s6.mono (same_ex y8)) (d6.mono (same_ex y8)) okd))) (fun z => nomatch z) fun _ H9 x9 => ?_
        exact ⟨_, _, _, rfl, h4 H9 (y6.trans (same_ex (y8.trans x9)))⟩
      | lst g xs ds ex hg hl hds ok' h4 =>
        subst ex
        refine q_when (et_B (isT (T := "list") (k := true) rfl (fun H' z => .base (.lst ((y6.trans z) _ _ hg))) (by decide +kernel))) (fun _ H7 x7 => ?_) (fun z => nomatch z)
        have y7 := y6.trans (same_ex x7)
        refine s_app (K := K) (y7 _ _ hg) (ev_var rfl) ev_c (by omega) fun H8 x8 => ?_
        have y8 := y7.trans (same_ex x8)
        have g8 := y8 _ _ hg
        have n1 : ∀ φ, HO.lst xs ≠ .ext φ := fun _ z => by cases z
        have n2 : ∀ ys, HO.lst xs = .lst ys → ys.length ≠ 11 := fun ys z => by
          cases z
          omega
        have sy : Sys (upd H8 g (.lst (xs ++ [V.str "more"]))) := by
          obtain ⟨ob, u, e⟩ := s.sys.mono y8
          exact ⟨ob, u, by rw [upd_ne (ne_of e g8 (fun z => by cases z))]; exact e⟩
        refine q_when (et_B (isT (T := "list") (k := false) rfl (fun H' z => .base (.lst (z _ _ upd_same))) (by decide +kernel))) (fun z => nomatch z) fun _ H9 x9 => ?_
        have dd : Dq K (upd H8 g (.lst (xs ++ [V.str "more"]))) (.ref g) (.list (ds ++ [.str "more"])) := .lst upd_same (dqa_app (hds _) (.str _))
        have ea : ErrsAt C (upd H8 g (.lst (xs ++ [V.str "more"]))) fa (.ref g) := (a6.mono (same_ex (x7.trans x8))).upd_ g8 n1 n2
        have eb : ErrsAt C (upd H8 g (.lst (xs ++ [V.str "more"]))) fb (.ref g) := (b6.mono (same_ex (x7.trans x8))).upd_ g8 n1 n2
        refine s_when (et_or (et_not (et_B (ev_right (K := K) (ev_var rfl) (ev_var rfl) (ea.mono (same_ex x9)) (sy.mono (same_ex x9)) (dd.mono (same_ex x9)) ok'))) fun _ => et_not (et_B (ev_right (ev_var rfl) (ev_var rfl) (eb.mono (same_ex x9)) (sy.mono (same_ex x9)) (dd.mono (same_ex x9)) ok'))) (fun z => nomatch z) fun _ H10 x10 => ?_
        exact ⟨_, _, _, rfl, h4 H8 H10 _ y8 (same_ex (x9.trans x10))⟩
      | dic g kvs ds ex hg hl hp hds ok' h4 =>
        subst ex
        refine q_when (et_B (isT (T := "dict") (k := false) rfl (fun H' z => .base (.dK ((y6.trans z) _ _ hg))) (by decide +kernel))) (fun z => nomatch z) fun _ H7 x7 => ?_
        refine q_when (et_B (isT (T := "dict") (k := true) rfl (fun H' z => .base (.dK ((y6.trans (x7.trans z)) _ _ hg))) (by decide +kernel))) (fun _ H8 x8 => ?_) (fun z => nomatch z)
        have y8 := (y6.trans (same_ex x7)).trans (same_ex x8)
        have g8 := y8 _ _ hg
        refine ⟨by show 1 ≤ sizeLine; decide, fun p np => ?_⟩
        have gp : g ≠ p := ne_of_none g8 np
        have g9 : upd H8 p (.lst [V.int 1]) g = some (.dK kvs) := by
          rw [upd_ne gp]
          exact g8
        refine ⟨_, rfl, g, _, rfl, DPut.k (k := Sum.inr "more") g9 (Nat.lt_of_le_of_lt hl (by decide)), ?_⟩
        rw [hp]
        have y9 : Same H5 (upd H8 p (.lst [V.int 1])) := y8.trans (same_ex (Ex.new np))
        have n1 : ∀ φ, HO.dK kvs ≠ .ext φ := fun _ z => by cases z
        have n2 : ∀ ys, HO.dK kvs = .lst ys → ys.length ≠ 11 := fun ys z => by cases z
        have sy : Sys (upd (upd H8 p (.lst [V.int 1])) g (.dK (kvs ++ [((Sum.inr "more" : Key), V.ref p)]))) := by
          obtain ⟨ob, u, e⟩ := s.sys.mono y9
          exact ⟨ob, u, by rw [upd_ne (ne_of e g9 (fun z => by cases z))]; exact e⟩
        have dd : Dq K (upd (upd H8 p (.lst [V.int 1])) g (.dK (kvs ++ [((Sum.inr "more" : Key), V.ref p)]))) (.ref g) (.dict (ds ++ [(.str "more", .list [.int 1])])) :=
          .dic upd_same (dqd_app (hds _ _ y9) (.lst (by rw [upd_ne gp.symm]; exact upd_same) (.cons (.int 1) .nil)))
        have w8 := same_ex (x7.trans x8)
        have ea : ErrsAt C (upd (upd H8 p (.lst [V.int 1])) g (.dK (kvs ++ [((Sum.inr "more" : Key), V.ref p)]))) fa (.ref g) := (a6.mono (w8.trans (same_ex (Ex.new np)))).upd_ g9 n1 n2
        have eb : ErrsAt C (upd (upd H8 p (.lst [V.int 1])) g (.dK (kvs ++ [((Sum.inr "more" : Key), V.ref p)]))) fb (.ref g) := (b6.mono (w8.trans (same_ex (Ex.new np)))).upd_ g9 n1 n2
        refine s_when (et_or (et_not (et_B (ev_right (K := K) (ev_var rfl) (ev_var rfl) ea sy dd ok'))) fun _ => et_not (et_B (ev_right (ev_var rfl) (ev_var rfl) eb sy dd ok'))) (fun z => nomatch z) fun _ H10 x10 => ?_
        exact ⟨_, _, _, rfl, h4 _ H10 _ y9 (same_ex x10)⟩
    · rintro σ H5 ⟨a, b, c, rfl, s⟩
      have bare : EvT (tNot (tB (tCall (spRight K C) [] E0 (tCons (tCall (spBare C) [] E0 tNil) (tCons (tC .non) tNil))))) [some (.ref l), some (.int r), some (.ref el), a, b, c] H5 false := fun H1 x Q1 q1 =>
        ⟨rfl, fun p H2 np s2 e2 => ⟨p, .non, .none, rfl, e2, s.sys.mono (x.trans s2), .non, ⟨by decide +kernel, by decide +kernel, by decide +kernel⟩, fun H3 x3 => ⟨true, rfl, q1 H3 (ex_same (s2.trans (same_ex x3)))⟩⟩⟩
      refine q_when (et_or (et_not (et_B (ev_right (K := K) (ev_op (ev_var rfl) ev_c (rv_ixL (sq_of s.hel) rfl)) (ev_var rfl) s.he0 s.sys (.int r) (okI r hr40)))) fun _ => et_or (et_not (et_B (ev_right (ev_op (ev_var rfl) ev_c (rv_ixL (sq_of s.hel) rfl)) ev_c s.he1 s.sys (.str _) ⟨by decide +kernel, by decide +kernel, by decide +kernel⟩))) fun _ => bare)
        (fun z => nomatch z) fun _ H6 x6 => ?_
      refine fun a na => ⟨a, 11, rfl, by decide, .inl (xat_ExO upd_same), fun p H7 hp e7 h7 => ⟨by show 1 ≤ sizeLine; decide, fun p2 hp2 => ⟨.list [.int 11], .list [.int 11], ?_, ?_, by decide +kernel, by decide +kernel, ?_⟩⟩⟩
      · exact .lst (SqL.of (by rw [upd_ne (ne_of_none h7 hp2)]; exact h7)) (.cons (.int 11) .nil)
      · exact .lst (SqL.of upd_same) (.cons (.int 11) .nil)
      · show Q (.bl (PyData.eqv (.list [.int 11]) (.list [.int 11]))) _
        rw [show PyData.eqv (.list [.int 11]) (.list [.int 11]) = true from by decide +kernel]
        exact q _
end
end Lx

set_option Elab.async false
set_option maxRecDepth 100000
set_option linter.all false
set_option maxHeartbeats 4000000
namespace Lx
open PySem PySem.Spec PyProof.Rows L2 Evl Kx
def sInit (i : Nat) : Stmt := inClass (top i) 0
def exB (K : PySem.W.Frag) (C : Addr) : Bool :=
  decide (PySem.W.findIn K (.ref C) "__getattribute__" = some (some (.builtin "BaseException.__getattribute__"))) && decide (PySem.W.findIn K (.ref C) "__getattr__" = some none) &&
    decide (PySem.W.subIn K (.ref C) (.type "BaseException") = some true) && PySem.W.hasDictIn K C && decide (PySem.W.findIn K (.ref C) "__class__" = some (some (.builtin "object.__class__"))) &&
    decide (PySem.W.specialIn K (.builtin "object.__class__") "__get__" = some (some (.builtin "getset_descriptor.__get__"))) && decide (PySem.W.takesIn K (.builtin "object.__class__") = some true) &&
    decide (PySem.W.mroIn K C (.type "object") = some true) && decide (PySem.W.findIn K (.ref C) "__setattr__" = some (some (.builtin "object.__setattr__"))) && decide (PySem.W.typeIn K (.ref C) = some (.type "type")) && PySem.W.keepIn K (.ref C)
def chkAll (K : PySem.W.Frag) (Cs fs : List Addr) (R : Addr) : Bool :=
  (Cs.all fun C => exB K C) && (fs.all fun g => decide (PySem.W.typeIn K (.ref g) = some (.type "function")) && PySem.W.keepIn K (.ref g)) &&
    ((List.range 11).all fun k => decide (PySem.W.findIn K (.ref (Cs.getD k 0)) (xf k) = some none)) &&
    ((List.range 12).all fun i => (List.range 12).all fun j => decide (PySem.W.kitOne K (.ref (Cs.getD i 0)) (.ref (Cs.getD j 0)) = some (decide (i = j)))) &&
    ((List.range 12).all fun i => decide (PySem.W.kitOne K (.ref (Cs.getD i 0)) (.ref R) = some true) && decide (PySem.W.kitOne K (.ref (Cs.getD i 0)) (.type "ValueError") = some true)) &&
    PySem.W.excIn K (Cs.getD 11 0) [.type "ValueError", .type "Exception", .type "BaseException", .type "object"] "ValueError.__new__"
theorem exB_ok {K : PySem.W.Frag} {C : Addr} (h : exB K C = true) : ExcC K C ∧ PySem.W.findIn K (.ref C) "__setattr__" = some (some (.builtin "object.__setattr__")) ∧ PySem.W.typeIn K (.ref C) = some (.type "type") ∧ PySem.W.keepIn K (.ref C) = true := by
  unfold exB at h
  simp only [Bool.and_eq_true, decide_eq_true_eq] at h
  obtain ⟨⟨⟨⟨⟨⟨⟨⟨⟨⟨h1, h2⟩, h3⟩, h4⟩, h5⟩, h6⟩, h7⟩, h8⟩, h9⟩, h10⟩, h11⟩ := h
  exact ⟨⟨h1, h2, h3, h4, h5, h6, h7, h8⟩, h9, h10, h11⟩
section
variable {P : Program} {w : World} {K : PySem.W.Frag} {mg : Str → Option Value}
theorem xcls_mk {h : Heap} {x f qual : Str} {C R fI N T : Addr} {st : Stmt} {nm q : Str} {bs : List Value} {sn : List Str} {sub : List Value} {ab : Bool} {col : Option Bool} {dd : Option Addr} {m0 m1 m2 m3 m5 : Option Value}
    {o : Obj} {n : Nat} {od an : Option Addr} {sl : Array (Option Value)} {oc kV dc pm cd ct : Value} {p1 p2 p3 p4 : Pos} (X : K.In h) (G : h.Ns mainGlobals mg)
    (aC : PySem.W.nsIn K mainGlobals x = some (some (.ref C))) (xL : K.lookup C = some (excClassObj nm q C N bs [.ref R, .type "ValueError", .type "Exception", .type "BaseException", .type "object"] true sn sub ab col dd m0 m1 m2 m3 m5 "ValueError.__new__"))
    (a : PySem.W.findIn K (.ref C) "__init__" = some (some (.ref fI))) (l : K.lookup fI = some ⟨oc, od, .func (PySem.W.fnOf "__init__" qual (defArgs st) (defBody st) (defScope st) (.ref T) kV dc pm an cd ct), sl⟩)
    (c : PySem.W.codeIn K cd qual = true) (tl : K.lookup T = some o) (to : o.data = .seq (#[Value.none]) n) (e : exB K C = true) (t : PySem.W.typeIn K (.ref fI) = some (.type "function")) (kp : PySem.W.keepIn K (.ref fI) = true)
    (no : PySem.W.findIn K (.ref C) f = some none) (S : FnScope ["self", f] ["self", f] (defScope st)) (hb : defBody st = [.Assign [.Attribute (.Name "self" p1) f p2] (.Name f p3) p4])
    (v0 : Vis (defScope st) "self") (v1 : Vis (defScope st) f) (n1 : (f == ("__debug__" : Str)) = false) (n2 : (f == ("__classdict__" : Str)) = false)
    (hs : ∀ env : Env, swapsWith (.Name f p3) (some (.Attribute (.Name "self" p1) f p2)) p4.line env = pure false)
    (B2 : ∀ (kV doc pm : Value) (an : Option Addr) (cdv ct : Value) (us its : List Value), us.length = 2 → its.length = 1 → ∃ k, bindArgs (PySem.W.fnOf "__init__" qual (defArgs st) (defBody st) (defScope st) (.ref T) kV doc pm an cdv ct) ⟨us, []⟩ = seqItems? (.ref T) >>= k ∧ k (some its.toArray) = pure ((["self", f] : List Str).zip (us ++ its.drop 1)))
    (B1 : ∀ (kV doc pm : Value) (an : Option Addr) (cdv ct : Value) (us its : List Value), us.length = 1 → its.length = 1 → ∃ k, bindArgs (PySem.W.fnOf "__init__" qual (defArgs st) (defBody st) (defScope st) (.ref T) kV doc pm an cdv ct) ⟨us, []⟩ = seqItems? (.ref T) >>= k ∧ k (some its.toArray) = pure ((["self", f] : List Str).zip (us ++ its.drop 0)))
    (BK : ∀ (kV doc pm : Value) (an : Option Addr) (cdv ct : Value) (us its ws : List Value), us.length = 1 → its.length = 1 → ws.length = 1 → ∃ k, bindArgs (PySem.W.fnOf "__init__" qual (defArgs st) (defBody st) (defScope st) (.ref T) kV doc pm an cdv ct) ⟨us, ([f] : List Str).zip ws⟩ = seqItems? (.ref T) >>= k ∧ k (some its.toArray) = pure ((["self", f] : List Str).zip (us ++ ws))) :
    XCls P w K mg x f C fI (PySem.W.fnOf "__init__" qual (defArgs st) (defBody st) (defScope st) (.ref T) kV dc pm an cd ct) := by
  obtain ⟨e1, e2, e3, e4⟩ := exB_ok e
  have O : OexC K C := ⟨⟨nm, q, N, bs, _, sn, sub, ab, col, dd, m0, m1, m2, m3, m5, xL, by rfl⟩, e2, e1.hs, e3, e4⟩
  have lk : ∀ (us : List Value) (kw : List (Str × Value)) (binds : List (Str × Value)), (∃ k, bindArgs (PySem.W.fnOf "__init__" qual (defArgs st) (defBody st) (defScope st) (.ref T) kV dc pm an cd ct) ⟨us, kw⟩ = seqItems? (.ref T) >>= k ∧ k (some #[Value.none]) = pure binds) →
      ∀ s : Shared, K.In s.heap → BindsTo s (PySem.W.fnOf "__init__" qual (defArgs st) (defBody st) (defScope st) (.ref T) kV dc pm an cd ct) ⟨us, kw⟩ binds := fun us kw binds ⟨k, q1, q2⟩ s hs => BindsTo.of_looks fun M => by
    rw [q1]
    exact looks_items hs tl to (.of_pure q2)
  refine ⟨PySem.W.mg_of X G aC, O, e1, no, a, t, fun s us hs hl => ?_, ⟨[Value.none], .cons rfl .nil, fun s us hs hl => ?_⟩, fun s self ws hs hl => ?_, fun base => ?_⟩
  · rw [List.append_nil] at hl ⊢
    have q := B2 kV dc pm an cd ct us [Value.none] hl rfl
    rw [show us ++ List.drop 1 [Value.none] = us from List.append_nil us] at q
    exact lk us [] _ q s hs
  · have hl' : us.length = 1 := by
      rw [List.length_append] at hl
      have h2 : us.length + 1 = 2 := hl
      omega
    exact lk us [] _ (B1 kV dc pm an cd ct us [Value.none] hl' rfl) s hs
  · exact lk [self] _ _ (BK kV dc pm an cd ct [self] [Value.none] ws rfl rfl hl) s hs
  · exact ok_XI (p1 := p1) (p2 := p2) (p3 := p3) (p4 := p4) ⟨⟨oc, od, _, kV, dc, pm, an, cd, ct, sl, rfl, l, c, .inr ⟨by simp, T, o, [Value.none], n, rfl, tl, to, .cons rfl .nil⟩, .inl rfl⟩, kp⟩ S hb O no v0 v1 n1 n2 hs
end
theorem all_mk {P : Program} {w : World} {K : PySem.W.Frag} {h : Heap} {mg : Str → Option Value} {fa : Addr} (X : K.In h) (G : h.Ns mainGlobals mg) (hfa : mg "law" = some (.ref fa))
    {C11 : Addr}
    {nm0 q0 : Str} {N0 C0 : Addr} {bs0 : List Value} {sn0 : List Str} {sub0 : List Value} {ab0 : Bool} {col0 : Option Bool} {dd0 : Option Addr} {m00 m10 m20 m30 m50 : Option Value}
    {nm1 q1 : Str} {N1 C1 : Addr} {bs1 : List Value} {sn1 : List Str} {sub1 : List Value} {ab1 : Bool} {col1 : Option Bool} {dd1 : Option Addr} {m01 m11 m21 m31 m51 : Option Value}
    {nm2 q2 : Str} {N2 C2 : Addr} {bs2 : List Value} {sn2 : List Str} {sub2 : List Value} {ab2 : Bool} {col2 : Option Bool} {dd2 : Option Addr} {m02 m12 m22 m32 m52 : Option Value}
    {nm3 q3 : Str} {N3 C3 : Addr} {bs3 : List Value} {sn3 : List Str} {sub3 : List Value} {ab3 : Bool} {col3 : Option Bool} {dd3 : Option Addr} {m03 m13 m23 m33 m53 : Option Value}
    {nm4 q4 : Str} {N4 C4 : Addr} {bs4 : List Value} {sn4 : List Str} {sub4 : List Value} {ab4 : Bool} {col4 : Option Bool} {dd4 : Option Addr} {m04 m14 m24 m34 m54 : Option Value}
    {nm5 q5 : Str} {N5 C5 : Addr} {bs5 : List Value} {sn5 : List Str} {sub5 : List Value} {ab5 : Bool} {col5 : Option Bool} {dd5 : Option Addr} {m05 m15 m25 m35 m55 : Option Value}
    {nm6 q6 : Str} {N6 C6 : Addr} {bs6 : List Value} {sn6 : List Str} {sub6 : List Value} {ab6 : Bool} {col6 : Option Bool} {dd6 : Option Addr} {m06 m16 m26 m36 m56 : Option Value}
    {nm7 q7 : Str} {N7 C7 : Addr} {bs7 : List Value} {sn7 : List Str} {sub7 : List Value} {ab7 : Bool} {col7 : Option Bool} {dd7 : Option Addr} {m07 m17 m27 m37 m57 : Option Value}
    {nm8 q8 : Str} {N8 C8 : Addr} {bs8 : List Value} {sn8 : List Str} {sub8 : List Value} {ab8 : Bool} {col8 : Option Bool} {dd8 : Option Addr} {m08 m18 m28 m38 m58 : Option Value}
    {nm9 q9 : Str} {N9 C9 : Addr} {bs9 : List Value} {sn9 : List Str} {sub9 : List Value} {ab9 : Bool} {col9 : Option Bool} {dd9 : Option Addr} {m09 m19 m29 m39 m59 : Option Value}
    {nm10 q10 : Str} {N10 C10 : Addr} {bs10 : List Value} {sn10 : List Str} {sub10 : List Value} {ab10 : Bool} {col10 : Option Bool} {dd10 : Option Addr} {m010 m110 m210 m310 m510 : Option Value}
    {R : Addr}
    {f0 T0 : Addr} {o0 : Obj} {n0 : Nat} {od0 an0 : Option Addr} {sl0 : Array (Option Value)} {oc0 kV0 dc0 pm0 cd0 ct0 : Value}
    {f1 T1 : Addr} {o1 : Obj} {n1 : Nat} {od1 an1 : Option Addr} {sl1 : Array (Option Value)} {oc1 kV1 dc1 pm1 cd1 ct1 : Value}
    {f2 T2 : Addr} {o2 : Obj} {n2 : Nat} {od2 an2 : Option Addr} {sl2 : Array (Option Value)} {oc2 kV2 dc2 pm2 cd2 ct2 : Value}
    {f3 T3 : Addr} {o3 : Obj} {n3 : Nat} {od3 an3 : Option Addr} {sl3 : Array (Option Value)} {oc3 kV3 dc3 pm3 cd3 ct3 : Value}
    {f4 T4 : Addr} {o4 : Obj} {n4 : Nat} {od4 an4 : Option Addr} {sl4 : Array (Option Value)} {oc4 kV4 dc4 pm4 cd4 ct4 : Value}
    {f5 T5 : Addr} {o5 : Obj} {n5 : Nat} {od5 an5 : Option Addr} {sl5 : Array (Option Value)} {oc5 kV5 dc5 pm5 cd5 ct5 : Value}
    {f6 T6 : Addr} {o6 : Obj} {n6 : Nat} {od6 an6 : Option Addr} {sl6 : Array (Option Value)} {oc6 kV6 dc6 pm6 cd6 ct6 : Value}
    {f7 T7 : Addr} {o7 : Obj} {n7 : Nat} {od7 an7 : Option Addr} {sl7 : Array (Option Value)} {oc7 kV7 dc7 pm7 cd7 ct7 : Value}
    {f8 T8 : Addr} {o8 : Obj} {n8 : Nat} {od8 an8 : Option Addr} {sl8 : Array (Option Value)} {oc8 kV8 dc8 pm8 cd8 ct8 : Value}
    {f9 T9 : Addr} {o9 : Obj} {n9 : Nat} {od9 an9 : Option Addr} {sl9 : Array (Option Value)} {oc9 kV9 dc9 pm9 cd9 ct9 : Value}
    {f10 T10 : Addr} {o10 : Obj} {n10 : Nat} {od10 an10 : Option Addr} {sl10 : Array (Option Value)} {oc10 kV10 dc10 pm10 cd10 ct10 : Value}
    {g0 : Addr} {god0 gan0 : Option Addr} {gsl0 : Array (Option Value)} {goc0 gkV0 gdc0 gpm0 gcd0 gct0 : Value}
    {g1 : Addr} {god1 gan1 : Option Addr} {gsl1 : Array (Option Value)} {goc1 gkV1 gdc1 gpm1 gcd1 gct1 : Value}
    {g2 : Addr} {god2 gan2 : Option Addr} {gsl2 : Array (Option Value)} {goc2 gkV2 gdc2 gpm2 gcd2 gct2 : Value}
    {g3 : Addr} {god3 gan3 : Option Addr} {gsl3 : Array (Option Value)} {goc3 gkV3 gdc3 gpm3 gcd3 gct3 : Value}
    {g4 : Addr} {god4 gan4 : Option Addr} {gsl4 : Array (Option Value)} {goc4 gkV4 gdc4 gpm4 gcd4 gct4 : Value}
    {g5 : Addr} {god5 gan5 : Option Addr} {gsl5 : Array (Option Value)} {goc5 gkV5 gdc5 gpm5 gcd5 gct5 : Value}
    {g6 : Addr} {god6 gan6 : Option Addr} {gsl6 : Array (Option Value)} {goc6 gkV6 gdc6 gpm6 gcd6 gct6 : Value}
    {g7 : Addr} {god7 gan7 : Option Addr} {gsl7 : Array (Option Value)} {goc7 gkV7 gdc7 gpm7 gcd7 gct7 : Value}
    {g8 : Addr} {god8 gan8 : Option Addr} {gsl8 : Array (Option Value)} {goc8 gkV8 gdc8 gpm8 gcd8 gct8 : Value}
    {g9 : Addr} {god9 gan9 : Option Addr} {gsl9 : Array (Option Value)} {goc9 gkV9 gdc9 gpm9 gcd9 gct9 : Value}
    (aR : PySem.W.nsIn K mainGlobals "RightsError" = some (some (.ref R)))
    (aC0 : PySem.W.nsIn K mainGlobals "InvalidNumber" = some (some (.ref C0)))
    (aC1 : PySem.W.nsIn K mainGlobals "InvalidList" = some (some (.ref C1)))
    (aC2 : PySem.W.nsIn K mainGlobals "InvalidItem" = some (some (.ref C2)))
    (aC3 : PySem.W.nsIn K mainGlobals "InvalidWord" = some (some (.ref C3)))
    (aC4 : PySem.W.nsIn K mainGlobals "InvalidProgram" = some (some (.ref C4)))
    (aC5 : PySem.W.nsIn K mainGlobals "InvalidPlace" = some (some (.ref C5)))
    (aC6 : PySem.W.nsIn K mainGlobals "InvalidRun" = some (some (.ref C6)))
    (aC7 : PySem.W.nsIn K mainGlobals "InvalidText" = some (some (.ref C7)))
    (aC8 : PySem.W.nsIn K mainGlobals "InvalidName" = some (some (.ref C8)))
    (aC9 : PySem.W.nsIn K mainGlobals "TakenName" = some (some (.ref C9)))
    (aC10 : PySem.W.nsIn K mainGlobals "UnknownName" = some (some (.ref C10)))
    (aC11 : PySem.W.nsIn K mainGlobals "NothingToUndo" = some (some (.ref C11)))
    (xL0 : K.lookup C0 = some (excClassObj nm0 q0 C0 N0 bs0 [.ref R, .type "ValueError", .type "Exception", .type "BaseException", .type "object"] true sn0 sub0 ab0 col0 dd0 m00 m10 m20 m30 m50 "ValueError.__new__"))
    (a0 : PySem.W.findIn K (.ref C0) "__init__" = some (some (.ref f0)))
    (l0 : K.lookup f0 = some ⟨oc0, od0, .func (PySem.W.fnOf "__init__" "InvalidNumber.__init__" (defArgs (sInit 2)) (defBody (sInit 2)) (defScope (sInit 2)) (.ref T0) kV0 dc0 pm0 an0 cd0 ct0), sl0⟩)
    (c0 : PySem.W.codeIn K cd0 "InvalidNumber.__init__" = true)
    (tl0 : K.lookup T0 = some o0)
    (to0 : o0.data = .seq (#[Value.none]) n0)
    (xL1 : K.lookup C1 = some (excClassObj nm1 q1 C1 N1 bs1 [.ref R, .type "ValueError", .type "Exception", .type "BaseException", .type "object"] true sn1 sub1 ab1 col1 dd1 m01 m11 m21 m31 m51 "ValueError.__new__"))
    (a1 : PySem.W.findIn K (.ref C1) "__init__" = some (some (.ref f1)))
    (l1 : K.lookup f1 = some ⟨oc1, od1, .func (PySem.W.fnOf "__init__" "InvalidList.__init__" (defArgs (sInit 3)) (defBody (sInit 3)) (defScope (sInit 3)) (.ref T1) kV1 dc1 pm1 an1 cd1 ct1), sl1⟩)
    (c1 : PySem.W.codeIn K cd1 "InvalidList.__init__" = true)
    (tl1 : K.lookup T1 = some o1)
    (to1 : o1.data = .seq (#[Value.none]) n1)
    (xL2 : K.lookup C2 = some (excClassObj nm2 q2 C2 N2 bs2 [.ref R, .type "ValueError", .type "Exception", .type "BaseException", .type "object"] true sn2 sub2 ab2 col2 dd2 m02 m12 m22 m32 m52 "ValueError.__new__"))
    (a2 : PySem.W.findIn K (.ref C2) "__init__" = some (some (.ref f2)))
    (l2 : K.lookup f2 = some ⟨oc2, od2, .func (PySem.W.fnOf "__init__" "InvalidItem.__init__" (defArgs (sInit 4)) (defBody (sInit 4)) (defScope (sInit 4)) (.ref T2) kV2 dc2 pm2 an2 cd2 ct2), sl2⟩)
    (c2 : PySem.W.codeIn K cd2 "InvalidItem.__init__" = true)
    (tl2 : K.lookup T2 = some o2)
    (to2 : o2.data = .seq (#[Value.none]) n2)
    (xL3 : K.lookup C3 = some (excClassObj nm3 q3 C3 N3 bs3 [.ref R, .type "ValueError", .type "Exception", .type "BaseException", .type "object"] true sn3 sub3 ab3 col3 dd3 m03 m13 m23 m33 m53 "ValueError.__new__"))
    (a3 : PySem.W.findIn K (.ref C3) "__init__" = some (some (.ref f3)))
    (l3 : K.lookup f3 = some ⟨oc3, od3, .func (PySem.W.fnOf "__init__" "InvalidWord.__init__" (defArgs (sInit 5)) (defBody (sInit 5)) (defScope (sInit 5)) (.ref T3) kV3 dc3 pm3 an3 cd3 ct3), sl3⟩)
    (c3 : PySem.W.codeIn K cd3 "InvalidWord.__init__" = true)
    (tl3 : K.lookup T3 = some o3)
    (to3 : o3.data = .seq (#[Value.none]) n3)
    (xL4 : K.lookup C4 = some (excClassObj nm4 q4 C4 N4 bs4 [.ref R, .type "ValueError", .type "Exception", .type "BaseException", .type "object"] true sn4 sub4 ab4 col4 dd4 m04 m14 m24 m34 m54 "ValueError.__new__"))
    (a4 : PySem.W.findIn K (.ref C4) "__init__" = some (some (.ref f4)))
    (l4 : K.lookup f4 = some ⟨oc4, od4, .func (PySem.W.fnOf "__init__" "InvalidProgram.__init__" (defArgs (sInit 6)) (defBody (sInit 6)) (defScope (sInit 6)) (.ref T4) kV4 dc4 pm4 an4 cd4 ct4), sl4⟩)
    (c4 : PySem.W.codeIn K cd4 "InvalidProgram.__init__" = true)
    (tl4 : K.lookup T4 = some o4)
    (to4 : o4.data = .seq (#[Value.none]) n4)
    (xL5 : K.lookup C5 = some (excClassObj nm5 q5 C5 N5 bs5 [.ref R, .type "ValueError", .type "Exception", .type "BaseException", .type "object"] true sn5 sub5 ab5 col5 dd5 m05 m15 m25 m35 m55 "ValueError.__new__"))
    (a5 : PySem.W.findIn K (.ref C5) "__init__" = some (some (.ref f5)))
    (l5 : K.lookup f5 = some ⟨oc5, od5, .func (PySem.W.fnOf "__init__" "InvalidPlace.__init__" (defArgs (sInit 7)) (defBody (sInit 7)) (defScope (sInit 7)) (.ref T5) kV5 dc5 pm5 an5 cd5 ct5), sl5⟩)
    (c5 : PySem.W.codeIn K cd5 "InvalidPlace.__init__" = true)
    (tl5 : K.lookup T5 = some o5)
    (to5 : o5.data = .seq (#[Value.none]) n5)
    (xL6 : K.lookup C6 = some (excClassObj nm6 q6 C6 N6 bs6 [.ref R, .type "ValueError", .type "Exception", .type "BaseException", .type "object"] true sn6 sub6 ab6 col6 dd6 m06 m16 m26 m36 m56 "ValueError.__new__"))
    (a6 : PySem.W.findIn K (.ref C6) "__init__" = some (some (.ref f6)))
    (l6 : K.lookup f6 = some ⟨oc6, od6, .func (PySem.W.fnOf "__init__" "InvalidRun.__init__" (defArgs (sInit 8)) (defBody (sInit 8)) (defScope (sInit 8)) (.ref T6) kV6 dc6 pm6 an6 cd6 ct6), sl6⟩)
    (c6 : PySem.W.codeIn K cd6 "InvalidRun.__init__" = true)
    (tl6 : K.lookup T6 = some o6)
    (to6 : o6.data = .seq (#[Value.none]) n6)
    (xL7 : K.lookup C7 = some (excClassObj nm7 q7 C7 N7 bs7 [.ref R, .type "ValueError", .type "Exception", .type "BaseException", .type "object"] true sn7 sub7 ab7 col7 dd7 m07 m17 m27 m37 m57 "ValueError.__new__"))
    (a7 : PySem.W.findIn K (.ref C7) "__init__" = some (some (.ref f7)))
    (l7 : K.lookup f7 = some ⟨oc7, od7, .func (PySem.W.fnOf "__init__" "InvalidText.__init__" (defArgs (sInit 9)) (defBody (sInit 9)) (defScope (sInit 9)) (.ref T7) kV7 dc7 pm7 an7 cd7 ct7), sl7⟩)
    (c7 : PySem.W.codeIn K cd7 "InvalidText.__init__" = true)
    (tl7 : K.lookup T7 = some o7)
    (to7 : o7.data = .seq (#[Value.none]) n7)
    (xL8 : K.lookup C8 = some (excClassObj nm8 q8 C8 N8 bs8 [.ref R, .type "ValueError", .type "Exception", .type "BaseException", .type "object"] true sn8 sub8 ab8 col8 dd8 m08 m18 m28 m38 m58 "ValueError.__new__"))
    (a8 : PySem.W.findIn K (.ref C8) "__init__" = some (some (.ref f8)))
    (l8 : K.lookup f8 = some ⟨oc8, od8, .func (PySem.W.fnOf "__init__" "InvalidName.__init__" (defArgs (sInit 10)) (defBody (sInit 10)) (defScope (sInit 10)) (.ref T8) kV8 dc8 pm8 an8 cd8 ct8), sl8⟩)
    (c8 : PySem.W.codeIn K cd8 "InvalidName.__init__" = true)
    (tl8 : K.lookup T8 = some o8)
    (to8 : o8.data = .seq (#[Value.none]) n8)
    (xL9 : K.lookup C9 = some (excClassObj nm9 q9 C9 N9 bs9 [.ref R, .type "ValueError", .type "Exception", .type "BaseException", .type "object"] true sn9 sub9 ab9 col9 dd9 m09 m19 m29 m39 m59 "ValueError.__new__"))
    (a9 : PySem.W.findIn K (.ref C9) "__init__" = some (some (.ref f9)))
    (l9 : K.lookup f9 = some ⟨oc9, od9, .func (PySem.W.fnOf "__init__" "TakenName.__init__" (defArgs (sInit 11)) (defBody (sInit 11)) (defScope (sInit 11)) (.ref T9) kV9 dc9 pm9 an9 cd9 ct9), sl9⟩)
    (c9 : PySem.W.codeIn K cd9 "TakenName.__init__" = true)
    (tl9 : K.lookup T9 = some o9)
    (to9 : o9.data = .seq (#[Value.none]) n9)
    (xL10 : K.lookup C10 = some (excClassObj nm10 q10 C10 N10 bs10 [.ref R, .type "ValueError", .type "Exception", .type "BaseException", .type "object"] true sn10 sub10 ab10 col10 dd10 m010 m110 m210 m310 m510 "ValueError.__new__"))
    (a10 : PySem.W.findIn K (.ref C10) "__init__" = some (some (.ref f10)))
    (l10 : K.lookup f10 = some ⟨oc10, od10, .func (PySem.W.fnOf "__init__" "UnknownName.__init__" (defArgs (sInit 12)) (defBody (sInit 12)) (defScope (sInit 12)) (.ref T10) kV10 dc10 pm10 an10 cd10 ct10), sl10⟩)
    (c10 : PySem.W.codeIn K cd10 "UnknownName.__init__" = true)
    (tl10 : K.lookup T10 = some o10)
    (to10 : o10.data = .seq (#[Value.none]) n10)
    (chk : chkAll K [C0, C1, C2, C3, C4, C5, C6, C7, C8, C9, C10, C11] [f0, f1, f2, f3, f4, f5, f6, f7, f8, f9, f10] R = true)
    (ga0 : PySem.W.nsIn K mainGlobals "_law_cell" = some (some (.ref g0)))
    (gl0 : K.lookup g0 = some ⟨goc0, god0, .func (PySem.W.fnOf "_law_cell" "_law_cell" (defArgs sCell) (defBody sCell) (defScope sCell) .none gkV0 gdc0 gpm0 gan0 gcd0 gct0), gsl0⟩)
    (gc0 : PySem.W.codeIn K gcd0 "_law_cell" = true)
    (gk0 : PySem.W.keepIn K (.ref g0) = true)
    (ga1 : PySem.W.nsIn K mainGlobals "_law_hash" = some (some (.ref g1)))
    (gl1 : K.lookup g1 = some ⟨goc1, god1, .func (PySem.W.fnOf "_law_hash" "_law_hash" (defArgs sHash) (defBody sHash) (defScope sHash) .none gkV1 gdc1 gpm1 gan1 gcd1 gct1), gsl1⟩)
    (gc1 : PySem.W.codeIn K gcd1 "_law_hash" = true)
    (gk1 : PySem.W.keepIn K (.ref g1) = true)
    (ga2 : PySem.W.nsIn K mainGlobals "_law_generator" = some (some (.ref g2)))
    (gl2 : K.lookup g2 = some ⟨goc2, god2, .func (PySem.W.fnOf "_law_generator" "_law_generator" (defArgs sGen) (defBody sGen) (defScope sGen) .none gkV2 gdc2 gpm2 gan2 gcd2 gct2), gsl2⟩)
    (gc2 : PySem.W.codeIn K gcd2 "_law_generator" = true)
    (gk2 : PySem.W.keepIn K (.ref g2) = true)
    (ga3 : PySem.W.nsIn K mainGlobals "_law_random" = some (some (.ref g3)))
    (gl3 : K.lookup g3 = some ⟨goc3, god3, .func (PySem.W.fnOf "_law_random" "_law_random" (defArgs sRnd) (defBody sRnd) (defScope sRnd) .none gkV3 gdc3 gpm3 gan3 gcd3 gct3), gsl3⟩)
    (gc3 : PySem.W.codeIn K gcd3 "_law_random" = true)
    (gk3 : PySem.W.keepIn K (.ref g3) = true)
    (ga4 : PySem.W.nsIn K mainGlobals "_law_kinds" = some (some (.ref g4)))
    (gl4 : K.lookup g4 = some ⟨goc4, god4, .func (PySem.W.fnOf "_law_kinds" "_law_kinds" (defArgs sKinds) (defBody sKinds) (defScope sKinds) .none gkV4 gdc4 gpm4 gan4 gcd4 gct4), gsl4⟩)
    (gc4 : PySem.W.codeIn K gcd4 "_law_kinds" = true)
    (gk4 : PySem.W.keepIn K (.ref g4) = true)
    (ga5 : PySem.W.nsIn K mainGlobals "_law_right" = some (some (.ref g5)))
    (gl5 : K.lookup g5 = some ⟨goc5, god5, .func (PySem.W.fnOf "_law_right" "_law_right" (defArgs sRight) (defBody sRight) (defScope sRight) .none gkV5 gdc5 gpm5 gan5 gcd5 gct5), gsl5⟩)
    (gc5 : PySem.W.codeIn K gcd5 "_law_right" = true)
    (gk5 : PySem.W.keepIn K (.ref g5) = true)
    (ga6 : PySem.W.nsIn K mainGlobals "_law_placed" = some (some (.ref g6)))
    (gl6 : K.lookup g6 = some ⟨goc6, god6, .func (PySem.W.fnOf "_law_placed" "_law_placed" (defArgs sPlaced) (defBody sPlaced) (defScope sPlaced) .none gkV6 gdc6 gpm6 gan6 gcd6 gct6), gsl6⟩)
    (gc6 : PySem.W.codeIn K gcd6 "_law_placed" = true)
    (gk6 : PySem.W.keepIn K (.ref g6) = true)
    (ga7 : PySem.W.nsIn K mainGlobals "_law_named" = some (some (.ref g7)))
    (gl7 : K.lookup g7 = some ⟨goc7, god7, .func (PySem.W.fnOf "_law_named" "_law_named" (defArgs sNamed) (defBody sNamed) (defScope sNamed) .none gkV7 gdc7 gpm7 gan7 gcd7 gct7), gsl7⟩)
    (gc7 : PySem.W.codeIn K gcd7 "_law_named" = true)
    (gk7 : PySem.W.keepIn K (.ref g7) = true)
    (ga8 : PySem.W.nsIn K mainGlobals "_law_bare" = some (some (.ref g8)))
    (gl8 : K.lookup g8 = some ⟨goc8, god8, .func (PySem.W.fnOf "_law_bare" "_law_bare" (defArgs sBare) (defBody sBare) (defScope sBare) .none gkV8 gdc8 gpm8 gan8 gcd8 gct8), gsl8⟩)
    (gc8 : PySem.W.codeIn K gcd8 "_law_bare" = true)
    (gk8 : PySem.W.keepIn K (.ref g8) = true)
    (ga9 : PySem.W.nsIn K mainGlobals "law" = some (some (.ref g9)))
    (gl9 : K.lookup g9 = some ⟨goc9, god9, .func (PySem.W.fnOf "law" "law" (defArgs sLaw) (defBody sLaw) (defScope sLaw) .none gkV9 gdc9 gpm9 gan9 gcd9 gct9), gsl9⟩)
    (gc9 : PySem.W.codeIn K gcd9 "law" = true)
    (gk9 : PySem.W.keepIn K (.ref g9) = true)
    (zlen : PySem.W.nsIn K mainGlobals "len" = some none)
    (zint : PySem.W.nsIn K mainGlobals "int" = some none)
    (zmax : PySem.W.nsIn K mainGlobals "max" = some none)
    (zrange : PySem.W.nsIn K mainGlobals "range" = some none)
    (zisinstance : PySem.W.nsIn K mainGlobals "isinstance" = some none)
    (zrepr : PySem.W.nsIn K mainGlobals "repr" = some none)
    (zValueError : PySem.W.nsIn K mainGlobals "ValueError" = some none)
    (zlist : PySem.W.nsIn K mainGlobals "list" = some none)
    (zdict : PySem.W.nsIn K mainGlobals "dict" = some none) :
    ∃ fd : FuncData, (∀ (s : Shared) (v : Value), BindsTo s fd ⟨[v], []⟩ [("script", v)]) ∧ ∀ base : Heap, K.In base → base.Ns mainGlobals mg → GnOk P w K mg base CX0 4 fa fd ["script"] (spLaw K) := by
  have e := hfa.symm.trans (PySem.W.mg_of X G ga9)
  cases e
  unfold chkAll at chk
  simp only [Bool.and_eq_true] at chk
  obtain ⟨⟨⟨⟨⟨h1, h2⟩, h3⟩, h4⟩, h5⟩, h6⟩ := chk
  have E : ∀ k, k < 12 → exB K (([C0, C1, C2, C3, C4, C5, C6, C7, C8, C9, C10, C11] : List Addr).getD k 0) = true := fun k hk => List.all_eq_true.mp h1 _ (by rw [List.getD_eq_getElem?_getD, List.getElem?_eq_getElem (show k < 12 from hk)]; exact List.getElem_mem _)
  have Fk : ∀ k, k < 11 → PySem.W.typeIn K (.ref (([f0, f1, f2, f3, f4, f5, f6, f7, f8, f9, f10] : List Addr).getD k 0)) = some (.type "function") ∧ PySem.W.keepIn K (.ref (([f0, f1, f2, f3, f4, f5, f6, f7, f8, f9, f10] : List Addr).getD k 0)) = true := fun k hk => by
    have q := List.all_eq_true.mp h2 _ (show ([f0, f1, f2, f3, f4, f5, f6, f7, f8, f9, f10] : List Addr).getD k 0 ∈ ([f0, f1, f2, f3, f4, f5, f6, f7, f8, f9, f10] : List Addr) by rw [List.getD_eq_getElem?_getD, List.getElem?_eq_getElem (show k < 11 from hk)]; exact List.getElem_mem _)
    simp only [Bool.and_eq_true, decide_eq_true_eq] at q
    exact q
  have Nk : ∀ k, k < 11 → PySem.W.findIn K (.ref (([C0, C1, C2, C3, C4, C5, C6, C7, C8, C9, C10, C11] : List Addr).getD k 0)) (xf k) = some none := fun k hk => of_decide_eq_true (List.all_eq_true.mp h3 k (List.mem_range.mpr hk))
  have X0 := xcls_mk (P := P) (w := w) (st := sInit 2) (x := "InvalidNumber") (f := "value") X G aC0 xL0 a0 l0 c0 tl0 to0 (E 0 (by decide)) (Fk 0 (by decide)).1 (Fk 0 (by decide)).2 (Nk 0 (by decide)) ⟨rfl, rfl, rfl, by decide +kernel, rfl, by decide +kernel, by decide +kernel⟩ rfl
    (.inl rfl) (.inl rfl) (by decide) (by decide) (fun _ => rfl) (fun _ _ _ _ _ _ us its h1 h2 => match us, its, h1, h2 with | [_, _], [_], _, _ => ⟨_, rfl, rfl⟩) (fun _ _ _ _ _ _ us its h1 h2 => match us, its, h1, h2 with | [_], [_], _, _ => ⟨_, rfl, rfl⟩)
    (fun _ _ _ _ _ _ us its ws h1 h2 h3 => match us, its, ws, h1, h2, h3 with | [_], [_], [_], _, _, _ => ⟨_, rfl, rfl⟩)
  have X1 := xcls_mk (P := P) (w := w) (st := sInit 3) (x := "InvalidList") (f := "value") X G aC1 xL1 a1 l1 c1 tl1 to1 (E 1 (by decide)) (Fk 1 (by decide)).1 (Fk 1 (by decide)).2 (Nk 1 (by decide)) ⟨rfl, rfl, rfl, by decide +kernel, rfl, by decide +kernel, by decide +kernel⟩ rfl
    (.inl rfl) (.inl rfl) (by decide) (by decide) (fun _ => rfl) (fun _ _ _ _ _ _ us its h1 h2 => match us, its, h1, h2 with | [_, _], [_], _, _ => ⟨_, rfl, rfl⟩) (fun _ _ _ _ _ _ us its h1 h2 => match us, its, h1, h2 with | [_], [_], _, _ => ⟨_, rfl, rfl⟩)
    (fun _ _ _ _ _ _ us its ws h1 h2 h3 => match us, its, ws, h1, h2, h3 with | [_], [_], [_], _, _, _ => ⟨_, rfl, rfl⟩)
  have X2 := xcls_mk (P := P) (w := w) (st := sInit 4) (x := "InvalidItem") (f := "value") X G aC2 xL2 a2 l2 c2 tl2 to2 (E 2 (by decide)) (Fk 2 (by decide)).1 (Fk 2 (by decide)).2 (Nk 2 (by decide)) ⟨rfl, rfl, rfl, by decide +kernel, rfl, by decide +kernel, by decide +kernel⟩ rfl
    (.inl rfl) (.inl rfl) (by decide) (by decide) (fun _ => rfl) (fun _ _ _ _ _ _ us its h1 h2 => match us, its, h1, h2 with | [_, _], [_], _, _ => ⟨_, rfl, rfl⟩) (fun _ _ _ _ _ _ us its h1 h2 => match us, its, h1, h2 with | [_], [_], _, _ => ⟨_, rfl, rfl⟩)
    (fun _ _ _ _ _ _ us its ws h1 h2 h3 => match us, its, ws, h1, h2, h3 with | [_], [_], [_], _, _, _ => ⟨_, rfl, rfl⟩)
  have X3 := xcls_mk (P := P) (w := w) (st := sInit 5) (x := "InvalidWord") (f := "value") X G aC3 xL3 a3 l3 c3 tl3 to3 (E 3 (by decide)) (Fk 3 (by decide)).1 (Fk 3 (by decide)).2 (Nk 3 (by decide)) ⟨rfl, rfl, rfl, by decide +kernel, rfl, by decide +kernel, by decide +kernel⟩ rfl
    (.inl rfl) (.inl rfl) (by decide) (by decide) (fun _ => rfl) (fun _ _ _ _ _ _ us its h1 h2 => match us, its, h1, h2 with | [_, _], [_], _, _ => ⟨_, rfl, rfl⟩) (fun _ _ _ _ _ _ us its h1 h2 => match us, its, h1, h2 with | [_], [_], _, _ => ⟨_, rfl, rfl⟩)
    (fun _ _ _ _ _ _ us its ws h1 h2 h3 => match us, its, ws, h1, h2, h3 with | [_], [_], [_], _, _, _ => ⟨_, rfl, rfl⟩)
  have X4 := xcls_mk (P := P) (w := w) (st := sInit 6) (x := "InvalidProgram") (f := "value") X G aC4 xL4 a4 l4 c4 tl4 to4 (E 4 (by decide)) (Fk 4 (by decide)).1 (Fk 4 (by decide)).2 (Nk 4 (by decide)) ⟨rfl, rfl, rfl, by decide +kernel, rfl, by decide +kernel, by decide +kernel⟩ rfl
    (.inl rfl) (.inl rfl) (by decide) (by decide) (fun _ => rfl) (fun _ _ _ _ _ _ us its h1 h2 => match us, its, h1, h2 with | [_, _], [_], _, _ => ⟨_, rfl, rfl⟩) (fun _ _ _ _ _ _ us its h1 h2 => match us, its, h1, h2 with | [_], [_], _, _ => ⟨_, rfl, rfl⟩)
    (fun _ _ _ _ _ _ us its ws h1 h2 h3 => match us, its, ws, h1, h2, h3 with | [_], [_], [_], _, _, _ => ⟨_, rfl, rfl⟩)
  have X5 := xcls_mk (P := P) (w := w) (st := sInit 7) (x := "InvalidPlace") (f := "value") X G aC5 xL5 a5 l5 c5 tl5 to5 (E 5 (by decide)) (Fk 5 (by decide)).1 (Fk 5 (by decide)).2 (Nk 5 (by decide)) ⟨rfl, rfl, rfl, by decide +kernel, rfl, by decide +kernel, by decide +kernel⟩ rfl
    (.inl rfl) (.inl rfl) (by decide) (by decide) (fun _ => rfl) (fun _ _ _ _ _ _ us its h1 h2 => match us, its, h1, h2 with | [_, _], [_], _, _ => ⟨_, rfl, rfl⟩) (fun _ _ _ _ _ _ us its h1 h2 => match us, its, h1, h2 with | [_], [_], _, _ => ⟨_, rfl, rfl⟩)
    (fun _ _ _ _ _ _ us its ws h1 h2 h3 => match us, its, ws, h1, h2, h3 with | [_], [_], [_], _, _, _ => ⟨_, rfl, rfl⟩)
  have X6 := xcls_mk (P := P) (w := w) (st := sInit 8) (x := "InvalidRun") (f := "value") X G aC6 xL6 a6 l6 c6 tl6 to6 (E 6 (by decide)) (Fk 6 (by decide)).1 (Fk 6 (by decide)).2 (Nk 6 (by decide)) ⟨rfl, rfl, rfl, by decide +kernel, rfl, by decide +kernel, by decide +kernel⟩ rfl
    (.inl rfl) (.inl rfl) (by decide) (by decide) (fun _ => rfl) (fun _ _ _ _ _ _ us its h1 h2 => match us, its, h1, h2 with | [_, _], [_], _, _ => ⟨_, rfl, rfl⟩) (fun _ _ _ _ _ _ us its h1 h2 => match us, its, h1, h2 with | [_], [_], _, _ => ⟨_, rfl, rfl⟩)
    (fun _ _ _ _ _ _ us its ws h1 h2 h3 => match us, its, ws, h1, h2, h3 with | [_], [_], [_], _, _, _ => ⟨_, rfl, rfl⟩)
  have X7 := xcls_mk (P := P) (w := w) (st := sInit 9) (x := "InvalidText") (f := "value") X G aC7 xL7 a7 l7 c7 tl7 to7 (E 7 (by decide)) (Fk 7 (by decide)).1 (Fk 7 (by decide)).2 (Nk 7 (by decide)) ⟨rfl, rfl, rfl, by decide +kernel, rfl, by decide +kernel, by decide +kernel⟩ rfl
    (.inl rfl) (.inl rfl) (by decide) (by decide) (fun _ => rfl) (fun _ _ _ _ _ _ us its h1 h2 => match us, its, h1, h2 with | [_, _], [_], _, _ => ⟨_, rfl, rfl⟩) (fun _ _ _ _ _ _ us its h1 h2 => match us, its, h1, h2 with | [_], [_], _, _ => ⟨_, rfl, rfl⟩)
    (fun _ _ _ _ _ _ us its ws h1 h2 h3 => match us, its, ws, h1, h2, h3 with | [_], [_], [_], _, _, _ => ⟨_, rfl, rfl⟩)
  have X8 := xcls_mk (P := P) (w := w) (st := sInit 10) (x := "InvalidName") (f := "name") X G aC8 xL8 a8 l8 c8 tl8 to8 (E 8 (by decide)) (Fk 8 (by decide)).1 (Fk 8 (by decide)).2 (Nk 8 (by decide)) ⟨rfl, rfl, rfl, by decide +kernel, rfl, by decide +kernel, by decide +kernel⟩ rfl
    (.inl rfl) (.inl rfl) (by decide) (by decide) (fun _ => rfl) (fun _ _ _ _ _ _ us its h1 h2 => match us, its, h1, h2 with | [_, _], [_], _, _ => ⟨_, rfl, rfl⟩) (fun _ _ _ _ _ _ us its h1 h2 => match us, its, h1, h2 with | [_], [_], _, _ => ⟨_, rfl, rfl⟩)
    (fun _ _ _ _ _ _ us its ws h1 h2 h3 => match us, its, ws, h1, h2, h3 with | [_], [_], [_], _, _, _ => ⟨_, rfl, rfl⟩)
  have X9 := xcls_mk (P := P) (w := w) (st := sInit 11) (x := "TakenName") (f := "name") X G aC9 xL9 a9 l9 c9 tl9 to9 (E 9 (by decide)) (Fk 9 (by decide)).1 (Fk 9 (by decide)).2 (Nk 9 (by decide)) ⟨rfl, rfl, rfl, by decide +kernel, rfl, by decide +kernel, by decide +kernel⟩ rfl
    (.inl rfl) (.inl rfl) (by decide) (by decide) (fun _ => rfl) (fun _ _ _ _ _ _ us its h1 h2 => match us, its, h1, h2 with | [_, _], [_], _, _ => ⟨_, rfl, rfl⟩) (fun _ _ _ _ _ _ us its h1 h2 => match us, its, h1, h2 with | [_], [_], _, _ => ⟨_, rfl, rfl⟩)
    (fun _ _ _ _ _ _ us its ws h1 h2 h3 => match us, its, ws, h1, h2, h3 with | [_], [_], [_], _, _, _ => ⟨_, rfl, rfl⟩)
  have X10 := xcls_mk (P := P) (w := w) (st := sInit 12) (x := "UnknownName") (f := "name") X G aC10 xL10 a10 l10 c10 tl10 to10 (E 10 (by decide)) (Fk 10 (by decide)).1 (Fk 10 (by decide)).2 (Nk 10 (by decide)) ⟨rfl, rfl, rfl, by decide +kernel, rfl, by decide +kernel, by decide +kernel⟩ rfl
    (.inl rfl) (.inl rfl) (by decide) (by decide) (fun _ => rfl) (fun _ _ _ _ _ _ us its h1 h2 => match us, its, h1, h2 with | [_, _], [_], _, _ => ⟨_, rfl, rfl⟩) (fun _ _ _ _ _ _ us its h1 h2 => match us, its, h1, h2 with | [_], [_], _, _ => ⟨_, rfl, rfl⟩)
    (fun _ _ _ _ _ _ us its ws h1 h2 h3 => match us, its, ws, h1, h2, h3 with | [_], [_], [_], _, _, _ => ⟨_, rfl, rfl⟩)
  have G0 := fun_mk (st := sCell) gl0 gc0 gk0
  have b0 := G0.binds (ps := ["script", "index"]) fun _ _ _ _ _ _ us hl => match us, hl with | [_, _], _ => rfl
  have G1 := fun_mk (st := sHash) gl1 gc1 gk1
  have b1 := G1.binds (ps := ["seed", "index"]) fun _ _ _ _ _ _ us hl => match us, hl with | [_, _], _ => rfl
  have G2 := fun_mk (st := sGen) gl2 gc2 gk2
  have b2 := G2.binds (ps := ["script", "index"]) fun _ _ _ _ _ _ us hl => match us, hl with | [_, _], _ => rfl
  have G3 := fun_mk (st := sRnd) gl3 gc3 gk3
  have b3 := G3.binds (ps := ["generator", "bound"]) fun _ _ _ _ _ _ us hl => match us, hl with | [_, _], _ => rfl
  have G4 := fun_mk (st := sKinds) gl4 gc4 gk4
  have b4 := G4.binds (ps := ["error"]) fun _ _ _ _ _ _ us hl => match us, hl with | [_], _ => rfl
  have G5 := fun_mk (st := sRight) gl5 gc5 gk5
  have b5 := G5.binds (ps := ["errors", "given"]) fun _ _ _ _ _ _ us hl => match us, hl with | [_, _], _ => rfl
  have G6 := fun_mk (st := sPlaced) gl6 gc6 gk6
  have b6 := G6.binds (ps := ["given"]) fun _ _ _ _ _ _ us hl => match us, hl with | [_], _ => rfl
  have G7 := fun_mk (st := sNamed) gl7 gc7 gk7
  have b7 := G7.binds (ps := ["given"]) fun _ _ _ _ _ _ us hl => match us, hl with | [_], _ => rfl
  have G8 := fun_mk (st := sBare) gl8 gc8 gk8
  have b8 := G8.binds (ps := ([] : List Str)) fun _ _ _ _ _ _ us hl => match us, hl with | [], _ => rfl
  have G9 := fun_mk (st := sLaw) gl9 gc9 gk9
  have T : Txt P w K mg (fun k => ([C0, C1, C2, C3, C4, C5, C6, C7, C8, C9, C10, C11] : List Addr).getD k 0) (fun k => match k with | 0 => f0 | 1 => f1 | 2 => f2 | 3 => f3 | 4 => f4 | 5 => f5 | 6 => f6 | 7 => f7 | 8 => f8 | 9 => f9 | 10 => f10 | _ => 0) (fun k => match k with | 0 => PySem.W.fnOf "__init__" "InvalidNumber.__init__" (defArgs (sInit 2)) (defBody (sInit 2)) (defScope (sInit 2)) (.ref T0) kV0 dc0 pm0 an0 cd0 ct0 | 1 => PySem.W.fnOf "__init__" "InvalidList.__init__" (defArgs (sInit 3)) (defBody (sInit 3)) (defScope (sInit 3)) (.ref T1) kV1 dc1 pm1 an1 cd1 ct1 | 2 => PySem.W.fnOf "__init__" "InvalidItem.__init__" (defArgs (sInit 4)) (defBody (sInit 4)) (defScope (sInit 4)) (.ref T2) kV2 dc2 pm2 an2 cd2 ct2 | 3 => PySem.W.fnOf "__init__" "InvalidWord.__init__" (defArgs (sInit 5)) (defBody (sInit 5)) (defScope (sInit 5)) (.ref T3) kV3 dc3 pm3 an3 cd3 ct3 | 4 => PySem.W.fnOf "__init__" "InvalidProgram.__init__" (defArgs (sInit 6)) (defBody (sInit 6)) (defScope (sInit 6)) (.ref T4) kV4 dc4 pm4 an4 cd4 ct4 | 5 => PySem.W.fnOf "__init__" "InvalidPlace.__init__" (defArgs (sInit 7)) (defBody (sInit 7)) (defScope (sInit 7)) (.ref T5) kV5 dc5 pm5 an5 cd5 ct5 | 6 => PySem.W.fnOf "__init__" "InvalidRun.__init__" (defArgs (sInit 8)) (defBody (sInit 8)) (defScope (sInit 8)) (.ref T6) kV6 dc6 pm6 an6 cd6 ct6 | 7 => PySem.W.fnOf "__init__" "InvalidText.__init__" (defArgs (sInit 9)) (defBody (sInit 9)) (defScope (sInit 9)) (.ref T7) kV7 dc7 pm7 an7 cd7 ct7 | 8 => PySem.W.fnOf "__init__" "InvalidName.__init__" (defArgs (sInit 10)) (defBody (sInit 10)) (defScope (sInit 10)) (.ref T8) kV8 dc8 pm8 an8 cd8 ct8 | 9 => PySem.W.fnOf "__init__" "TakenName.__init__" (defArgs (sInit 11)) (defBody (sInit 11)) (defScope (sInit 11)) (.ref T9) kV9 dc9 pm9 an9 cd9 ct9 | 10 => PySem.W.fnOf "__init__" "UnknownName.__init__" (defArgs (sInit 12)) (defBody (sInit 12)) (defScope (sInit 12)) (.ref T10) kV10 dc10 pm10 an10 cd10 ct10 | _ => PySem.W.fnOf "law" "law" (defArgs sLaw) (defBody sLaw) (defScope sLaw) .none gkV9 gdc9 gpm9 gan9 gcd9 gct9) R := by
    obtain ⟨e1, e2, e3, e4⟩ := exB_ok (E 11 (by decide))
    refine ⟨fun k hk => ?_, PySem.W.mg_of X G aC11, e1, h6, e4, PySem.W.mg_of X G aR, fun i hi j hj => ?_, fun i hi => ?_, fun i hi => ?_, PySem.W.mg_none_of X G zisinstance, PySem.W.mg_none_of X G zrange, PySem.W.mg_none_of X G zrepr, PySem.W.mg_none_of X G zValueError, PySem.W.mg_none_of X G zlist, PySem.W.mg_none_of X G zdict⟩
    · match k, hk with
      | 0, _ => exact X0
      | 1, _ => exact X1
      | 2, _ => exact X2
      | 3, _ => exact X3
      | 4, _ => exact X4
      | 5, _ => exact X5
      | 6, _ => exact X6
      | 7, _ => exact X7
      | 8, _ => exact X8
      | 9, _ => exact X9
      | 10, _ => exact X10
      | n + 11, h => omega
    · exact of_decide_eq_true (List.all_eq_true.mp (List.all_eq_true.mp h4 i (List.mem_range.mpr hi)) j (List.mem_range.mpr hj))
    · have q := List.all_eq_true.mp h5 i (List.mem_range.mpr hi)
      simp only [Bool.and_eq_true, decide_eq_true_eq] at q
      exact q.1
    · have q := List.all_eq_true.mp h5 i (List.mem_range.mpr hi)
      simp only [Bool.and_eq_true, decide_eq_true_eq] at q
      exact q.2
  refine ⟨PySem.W.fnOf "law" "law" (defArgs sLaw) (defBody sLaw) (defScope sLaw) .none gkV9 gdc9 gpm9 gan9 gcd9 gct9, fun s v => .of_eq rfl, fun base _ _ => ?_⟩
  have kC := ok_cell (P := P) (w := w) (mg := mg) (base := base) G0 (PySem.W.mg_none_of X G zlen)
  have kH := ok_hash (P := P) (w := w) (mg := mg) (base := base) G1 (PySem.W.mg_none_of X G zint)
  have kG := ok_gen (P := P) (w := w) (base := base) G2 (PySem.W.mg_none_of X G zint) (PySem.W.mg_none_of X G zmax) kC (PySem.W.mg_of X G ga0) gk0 b0
  have kR := ok_rnd (P := P) (w := w) (base := base) G3 (PySem.W.mg_none_of X G zint) (PySem.W.mg_none_of X G zrange) kH (PySem.W.mg_of X G ga1) gk1 b1
  have kK := ok_kinds (base := base) T G4
  have kT := ok_right (base := base) T G5 kK (PySem.W.mg_of X G ga4) gk4 b4
  exact ok_law T G9 kG ⟨PySem.W.mg_of X G ga2, gk2, b2⟩ kR ⟨PySem.W.mg_of X G ga3, gk3, b3⟩ (ok_placed T G6) ⟨PySem.W.mg_of X G ga6, gk6, b6⟩ (ok_named T G7) ⟨PySem.W.mg_of X G ga7, gk7, b7⟩
    (ok_bare T G8) ⟨PySem.W.mg_of X G ga8, gk8, b8⟩ kT ⟨PySem.W.mg_of X G ga5, gk5, b5⟩ kK ⟨PySem.W.mg_of X G ga4, gk4, b4⟩
end Lx

open PySem PySem.W PyProof.Rows in
set_option maxRecDepth 100000 in
set_option maxHeartbeats 0 in
theorem PySem.Challenge.cw_callersrights_k01_errors_holds : PySem.Challenge.rw_callersrights_k01_errors.Holds := by
  w_on; o_law; k_head; (case hw => w_witness2)
  k_fill
  refine Kx.walk_G (l := PySem.Challenge.rw_callersrights_k01_errors) (n := 63) (k := 4) (x := "script") (CX := fun _ => L2.CX0) (sp := fun w => Lx.spLaw _) rfl (by decide) rfl ⟨rfl, by decide, by decide⟩ (fun w h Y => PySem.W.kIn_of Y) ?K1 ?Q1 ?F
    (fun w H a ns hl hb hS hQ => ⟨a, ns, rfl, hQ, hS, fun _ => rfl⟩) (fun _ _ _ _ _ z => z)
  case K1 => intro w; first | rfl | kernel_rfl
  case Q1 => first | rfl | decide +kernel
  case F =>
    intro w mg fa h KX G hmg
    refine' Lx.all_mk KX G hmg ?aR ?aC0 ?aC1 ?aC2 ?aC3 ?aC4 ?aC5 ?aC6 ?aC7 ?aC8 ?aC9 ?aC10 ?aC11 ?xL0 ?a0 ?l0 ?c0 ?tl0 ?to0 ?xL1 ?a1 ?l1 ?c1 ?tl1 ?to1 ?xL2 ?a2 ?l2 ?c2 ?tl2 ?to2 ?xL3 ?a3 ?l3 ?c3 ?tl3 ?to3 ?xL4 ?a4 ?l4 ?c4 ?tl4 ?to4 ?xL5 ?a5 ?l5 ?c5 ?tl5 ?to5 ?xL6 ?a6 ?l6 ?c6 ?tl6 ?to6 ?xL7 ?a7 ?l7 ?c7 ?tl7 ?to7 ?xL8 ?a8 ?l8 ?c8 ?tl8 ?to8 ?xL9 ?a9 ?l9 ?c9 ?tl9 ?to9 ?xL10 ?a10 ?l10 ?c10 ?tl10 ?to10 ?chk ?ga0 ?gl0 ?gc0 ?gk0 ?ga1 ?gl1 ?gc1 ?gk1 ?ga2 ?gl2 ?gc2 ?gk2 ?ga3 ?gl3 ?gc3 ?gk3 ?ga4 ?gl4 ?gc4 ?gk4 ?ga5 ?gl5 ?gc5 ?gk5 ?ga6 ?gl6 ?gc6 ?gk6 ?ga7 ?gl7 ?gc7 ?gk7 ?ga8 ?gl8 ?gc8 ?gk8 ?ga9 ?gl9 ?gc9 ?gk9 ?zlen ?zint ?zmax ?zrange ?zisinstance ?zrepr ?zValueError ?zlist ?zdict
    (case aR => k_is)
    (case aC0 => k_is)
    (case aC1 => k_is)
    (case aC2 => k_is)
    (case aC3 => k_is)
    (case aC4 => k_is)
    (case aC5 => k_is)
    (case aC6 => k_is)
    (case aC7 => k_is)
    (case aC8 => k_is)
    (case aC9 => k_is)
    (case aC10 => k_is)
    (case aC11 => k_is)
    (case xL0 => k_is)
    (case a0 => k_is)
    (case l0 => k_is)
    (case c0 => k_is)
    (case tl0 => k_is)
    (case to0 => rfl)
    (case xL1 => k_is)
    (case a1 => k_is)
    (case l1 => k_is)
    (case c1 => k_is)
    (case tl1 => k_is)
    (case to1 => rfl)
    (case xL2 => k_is)
    (case a2 => k_is)
    (case l2 => k_is)
    (case c2 => k_is)
    (case tl2 => k_is)
    (case to2 => rfl)
    (case xL3 => k_is)
    (case a3 => k_is)
    (case l3 => k_is)
    (case c3 => k_is)
    (case tl3 => k_is)
    (case to3 => rfl)
    (case xL4 => k_is)
    (case a4 => k_is)
    (case l4 => k_is)
    (case c4 => k_is)
    (case tl4 => k_is)
    (case to4 => rfl)
    (case xL5 => k_is)
    (case a5 => k_is)
    (case l5 => k_is)
    (case c5 => k_is)
    (case tl5 => k_is)
    (case to5 => rfl)
    (case xL6 => k_is)
    (case a6 => k_is)
    (case l6 => k_is)
    (case c6 => k_is)
    (case tl6 => k_is)
    (case to6 => rfl)
    (case xL7 => k_is)
    (case a7 => k_is)
    (case l7 => k_is)
    (case c7 => k_is)
    (case tl7 => k_is)
    (case to7 => rfl)
    (case xL8 => k_is)
    (case a8 => k_is)
    (case l8 => k_is)
    (case c8 => k_is)
    (case tl8 => k_is)
    (case to8 => rfl)
    (case xL9 => k_is)
    (case a9 => k_is)
    (case l9 => k_is)
    (case c9 => k_is)
    (case tl9 => k_is)
    (case to9 => rfl)
    (case xL10 => k_is)
    (case a10 => k_is)
    (case l10 => k_is)
    (case c10 => k_is)
    (case tl10 => k_is)
    (case to10 => rfl)
    (case chk => kernel_rfl)
    (case ga0 => k_is)
    (case gl0 => k_is)
    (case gc0 => k_is)
    (case gk0 => k_is)
    (case ga1 => k_is)
    (case gl1 => k_is)
    (case gc1 => k_is)
    (case gk1 => k_is)
    (case ga2 => k_is)
    (case gl2 => k_is)
    (case gc2 => k_is)
    (case gk2 => k_is)
    (case ga3 => k_is)
    (case gl3 => k_is)
    (case gc3 => k_is)
    (case gk3 => k_is)
    (case ga4 => k_is)
    (case gl4 => k_is)
    (case gc4 => k_is)
    (case gk4 => k_is)
    (case ga5 => k_is)
    (case gl5 => k_is)
    (case gc5 => k_is)
    (case gk5 => k_is)
    (case ga6 => k_is)
    (case gl6 => k_is)
    (case gc6 => k_is)
    (case gk6 => k_is)
    (case ga7 => k_is)
    (case gl7 => k_is)
    (case gc7 => k_is)
    (case gk7 => k_is)
    (case ga8 => k_is)
    (case gl8 => k_is)
    (case gc8 => k_is)
    (case gk8 => k_is)
    (case ga9 => k_is)
    (case gl9 => k_is)
    (case gc9 => k_is)
    (case gk9 => k_is)
    (case zlen => k_is)
    (case zint => k_is)
    (case zmax => k_is)
    (case zrange => k_is)
    (case zisinstance => k_is)
    (case zrepr => k_is)
    (case zValueError => k_is)
    (case zlist => k_is)
    (case zdict => k_is)
