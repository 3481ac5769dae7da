import PyProof.Rows.All
import Wide.All
import OpenK.AllK
import Wide.FinOn
import HandS.Base
import HandS.Call
import HandS.List
import HandS.Dict
import HandS.Ends
import HandS.Words
import PyProof.ReprRoads
import HandS.Defaults
import HandS.Comp
import HandS.Head0
import HandS.Head1
import HandS.Head2
import HandS.HeadEnd
import HandS.HeadHook1
import HandS.HeadHook2
import HandS.IsInst
import HandS.Text
import HandS.Conv
import HandS.Iter
import HandS.Walk
import HandS.Wide
import HandS.Style
import PyProof.StrBlock2
import KE.LtData
import KE.KExcPX
import KE.KExcInit
import KE.KExcIs
import HandS.ExcInit
import HandS.ExcIs
import HandS.ExcField
import KE.KIsAll
import HandS.Exc
import HandS.ExcOwn
import HandS.ExcValue
import HandS.HotCalls
import HandS.WordsExc
import HandS.TryOnly
import PySem.Challenge.RW_failsalike_k01_errors
set_option Elab.async false
set_option linter.all false
set_option maxRecDepth 100000
set_option maxHeartbeats 0
/-! G1 -/
section
namespace FA
open PySem PySem.Spec PyProof.Rows L2

/-! data that stand in the abstract heap -/
def keyD : Key → PyData
  | .inl i => .int i
  | .inr z => .str z
mutual
def Dat (H : Hp) : PyData → V → Prop
  | .none, v => v = .non
  | .bool b, v => v = .bl b
  | .int i, v => v = .int i
  | .str x, v => v = .str x
  | .list ds, v => ∃ a xs, v = .ref a ∧ H a = some (.lst xs) ∧ DatAll H ds xs
  | .tuple ds, v => ∃ a xs, v = .ref a ∧ H a = some (.tup xs) ∧ DatAll H ds xs
  | .dict kvs, v => ∃ a es, v = .ref a ∧ H a = some (.dK es) ∧ DatKv H kvs es
def DatAll (H : Hp) : List PyData → List V → Prop
  | [], xs => xs = []
  | d :: ds, xs => ∃ y ys, xs = y :: ys ∧ Dat H d y ∧ DatAll H ds ys
def DatKv (H : Hp) : List (PyData × PyData) → List (Key × V) → Prop
  | [], xs => xs = []
  | (k, d) :: ds, xs => ∃ c y ys, xs = (c, y) :: ys ∧ k = keyD c ∧ Dat H d y ∧ DatKv H ds ys
end

section
variable {P : Program} {w : World} {H : Hp} {h : Heap}
theorem reads_key {c : Key} {u : Value} (q : keyIs c u = true) : Reads h u (keyD c) [] := by
  rcases keyIs_shape q with ⟨i, t, rfl, rfl⟩ | ⟨z, t, rfl, rfl⟩
  · exact .int i t
  · exact .str z t
mutual
theorem reads_of (ok : HOk P w H h) : ∀ (d : PyData) (v : V) (u : Value), Dat H d v → RelV v u → ∃ as, Reads h u d as ∧ ∀ b ∈ as, H b ≠ none
  | .none, v, u, e, r => by
    simp only [Dat] at e; subst e
    obtain rfl : u = .none := r
    exact ⟨[], .none, by simp⟩
  | .bool b, v, u, e, r => by
    simp only [Dat] at e; subst e
    obtain rfl : u = .bool b := r
    exact ⟨[], .bool b, by simp⟩
  | .int i, v, u, e, r => by
    simp only [Dat] at e; subst e
    obtain ⟨t, rfl⟩ : ∃ t, u = .int i t := r
    exact ⟨[], .int i t, by simp⟩
  | .str x, v, u, e, r => by
    simp only [Dat] at e; subst e
    obtain ⟨t, rfl⟩ : ∃ t, u = .str x t := r
    exact ⟨[], .str x t, by simp⟩
  | .list ds, v, u, e, r => by
    simp only [Dat] at e
    obtain ⟨a, xs, rfl, ha, hd⟩ := e
    obtain rfl : u = .ref a := r
    obtain ⟨_, its, n, rv, g⟩ := ok a _ ha
    obtain ⟨as, h1, h2⟩ := readsAll_of ok ds xs its hd rv
    refine ⟨a :: as, .list g rfl rfl (by simpa using h1), fun b hb => ?_⟩
    rcases List.mem_cons.mp hb with rfl | hb
    · rw [ha]; simp
    · exact h2 b hb
  | .tuple ds, v, u, e, r => by
    simp only [Dat] at e
    obtain ⟨a, xs, rfl, ha, hd⟩ := e
    obtain rfl : u = .ref a := r
    obtain ⟨_, its, rv, o, g, hc, n, hn⟩ := ok a _ ha
    obtain ⟨as, h1, h2⟩ := readsAll_of ok ds xs its hd rv
    exact ⟨as, .tuple g hc hn (by simpa using h1), h2⟩
  | .dict kvs, v, u, e, r => by
    simp only [Dat] at e
    obtain ⟨a, es, rfl, ha, hd⟩ := e
    obtain rfl : u = .ref a := r
    obtain ⟨_, _, vs, rel, o, ents, ep, g, hx, hdat, _, prs, _⟩ := ok a _ ha
    obtain ⟨as, bs, h1, h2, h3, h4⟩ := readsKv_of ok kvs es vs ents.toList hd rel prs
    refine ⟨a :: as ++ bs, .dict g (by first | exact hx.1 | exact hx.cls) hdat h1 h2, fun b hb => ?_⟩
    rcases List.mem_append.mp hb with hb | hb
    · rcases List.mem_cons.mp hb with rfl | hb
      · rw [ha]; simp
      · exact h3 b hb
    · exact h4 b hb
theorem readsAll_of (ok : HOk P w H h) : ∀ (ds : List PyData) (xs : List V) (us : List Value), DatAll H ds xs → Vals xs us → ∃ as, ReadsAll h us ds as ∧ ∀ b ∈ as, H b ≠ none
  | [], xs, us, e, r => by
    simp only [DatAll] at e; subst e
    cases r
    exact ⟨[], .nil, by simp⟩
  | d :: ds, xs, us, e, r => by
    simp only [DatAll] at e
    obtain ⟨y, ys, rfl, hy, hys⟩ := e
    cases r with
    | cons r1 r2 =>
      obtain ⟨as, h1, h2⟩ := reads_of ok d y _ hy r1
      obtain ⟨bs, h3, h4⟩ := readsAll_of ok ds ys _ hys r2
      exact ⟨as ++ bs, .cons h1 h3, fun b hb => (List.mem_append.mp hb).elim (h2 b) (h4 b)⟩
theorem readsKv_of (ok : HOk P w H h) : ∀ (kvs : List (PyData × PyData)) (es : List (Key × V)) (vs : List (Key × Value)) (ents : List DictEntry), DatKv H kvs es → KV es vs → PySem.Pairs (mixKind P w) ents vs →
    ∃ as bs, ReadsAll h (ents.map (·.key)) (kvs.map (·.1)) as ∧ ReadsAll h (ents.map (·.val)) (kvs.map (·.2)) bs ∧ (∀ b ∈ as, H b ≠ none) ∧ ∀ b ∈ bs, H b ≠ none
  | [], es, vs, ents, e, r, p => by
    simp only [DatKv] at e; subst e
    cases r
    cases p
    exact ⟨[], [], .nil, .nil, by simp, by simp⟩
  | (k, d) :: ds, es, vs, ents, e, r, p => by
    simp only [DatKv] at e
    obtain ⟨c, y, ys, rfl, rfl, hy, hys⟩ := e
    cases r with
    | cons r1 r2 =>
      cases p with
      | cons p1 p2 p3 =>
        obtain ⟨e1, e2⟩ := r1
        dsimp only at e1 e2
        obtain ⟨as, h1, h2⟩ := reads_of ok d y _ hy e2
        obtain ⟨cs, bs, h3, h4, h5, h6⟩ := readsKv_of ok ds ys _ _ hys r2 p3
        refine ⟨[] ++ cs, as ++ bs, .cons ?_ h3, .cons ?_ h4, by simpa using h5, fun b hb => (List.mem_append.mp hb).elim (h2 b) (h6 b)⟩
        · show Reads h _ (keyD c) []
          rw [e1]
          exact reads_key p1
        · rw [← p2] at h1
          exact h1
end
end

section
variable {X : Cx}
/-- what repr asks of the program's text: the table of modules is no object of the law's own -/
def NoSys (X : Cx) : Prop := ∃ o, X.base.get? sysModules = some o
theorem repr_any {prog : Program} {w : World} {A : Around} {E : Value → Shared → Prop} {s : Shared} {Q : Value → Shared → Prop} {u : Value} {d : PyData} {as : List Addr}
    (r : Reads s.heap u d as) (hs : d.showable = true) (hsm : d.hasDict = true → sysModules ∉ as) (hg : A.guards = some []) (hu : A.units + (d.depth + 1) < cLine)
    (hQ : ∀ h' t tk, (∀ b o, s.heap.get? b = some o → h'.get? b = some o) → Q (.str d.shown t) { s with heap := h', toks := tk })
    (hsz : d.shown.length ≤ sizeLine) : wpAny (model prog w) A (call (.builtin "repr") [u]) Q E s := by
  cases u with
  | ref a => exact repr_of_reads' r hs hsm hg hu (fun _ _ e => e) hQ hsz
  | none => cases r; exact PySem.P.repr_of_none (hQ s.heap _ _ fun _ _ e => e)
  | bool b => cases r; exact PySem.P.repr_of_bool (by
      have z := hQ s.heap s.toks (s.toks + 1) fun _ _ e => e
      cases b <;> exact z)
  | int i t => cases r; exact PySem.P.repr_of_int (by simpa [PyData.showable] using hs) (hQ s.heap _ _ fun _ _ e => e)
  | str x t => cases r; exact PySem.P.repr_of_str (hQ s.heap _ _ fun _ _ e => e) hsz
  | _ => cases r
def rRepr : List V → Hp → VK → Prop := fun xs H Q => ∃ v d, xs = [v] ∧ Dat H d v ∧ d.showable = true ∧ d.depth ≤ 60 ∧ d.shown.length ≤ sizeLine ∧ Q (.str d.shown) H
theorem call_reprA {k : Nat} (hg : X.A.guards = some []) (hr : Room k X.A) (hS : NoSys X) : CallR X (.builtin "repr") rRepr := by
  intro pins s σ H xs us Q I r h
  obtain ⟨v, d, rfl, hd, hs, hdp, hz, q⟩ := h
  obtain ⟨u, rfl, ru⟩ := vals1 r
  obtain ⟨as, hR, hT⟩ := reads_of I.hok d _ _ hd ru
  have hsm : d.hasDict = true → sysModules ∉ as := fun _ hm => by
    obtain ⟨o, ho⟩ := hS
    exact hT _ hm (I.bs _ _ ho).2
  have hu := hr.units
  exact repr_any hR hs hsm hg (by omega) (fun h' t tk hk => ⟨.str _, H, I.kept hk, ⟨t, rfl⟩, q⟩) hz
end
end FA
end

/-! G2 -/
section
namespace FA
open PySem PySem.Spec PyProof.Rows L2

/-- a def's promise where no repr is under way around it -/
structure FnG (P : Program) (w : World) (K : PySem.W.Frag) (mg : Str → Option Value)
    (base : Heap) (CX : CXT) (k : Nat) (f : Addr) (fd : FuncData) (ps : List Str) (sp : Sp) : Prop where
  size : ∀ vs H Q E, sp vs H Q E → vs.length = ps.length
  go : ∀ (A : Around) (outer : List Env) (s : Shared) (H : Hp) (args : Args) (us : List Value) (vs : List V)
    (Q : VK) (E : XK), Room k A → A.guards = some [] → Env0 P w K mg base A outer s H →
    BindsTo s fd args (ps.zip us) → Vals vs us → sp vs H Q E →
    codeAny (model P w) A (.call (.ref f) args) (CR CX outer P w H s Q E) s
section
variable {P : Program} {w : World} {K : PySem.W.Frag} {mg : Str → Option Value} {base : Heap} {CX : CXT}
  {f : Addr} {fd : FuncData} {ps : List Str} {sp sp' : Sp}
theorem FnG.more {j k : Nat} (F : FnG P w K mg base CX j f fd ps sp) (h : j ≤ k) : FnG P w K mg base CX k f fd ps sp where
  size := F.size
  go := fun A outer s H args us vs Q E hr hg e b v z => F.go A outer s H args us vs Q E (hr.mono h) hg e b v z
theorem FnG.weak {k : Nat} (F : FnG P w K mg base CX k f fd ps sp) (h : ∀ vs H Q E, sp' vs H Q E → sp vs H Q E) :
    FnG P w K mg base CX k f fd ps sp' where
  size := fun vs H Q E z => F.size vs H Q E (h _ _ _ _ z)
  go := fun A outer s H args us vs Q E hr hg e b v z => F.go A outer s H args us vs Q E hr hg e b v (h _ _ _ _ z)
theorem FnG.of {k : Nat} (F : FnOk P w K mg base CX k f fd ps sp) : FnG P w K mg base CX k f fd ps sp where
  size := F.len
  go := fun A outer s H args us vs Q E hr _ e b v z => F.run A outer s H args us vs Q E hr e b v z

/-- a def by its body -/
theorem fnG_of {k : Nat} {name qual : Str} {params : Arguments} {body : List Stmt} {scope : Scope}
    {dV kV doc pm cdv ct oc : Value} {an od : Option Addr} {osl : Array (Option Value)} {N : List Str}
    (lk : K.lookup f = some ⟨oc, od, .func (PySem.W.fnOf name qual params body scope dV kV doc pm an cdv ct), osl⟩)
    (hcd : PySem.W.codeIn K cdv qual = true) (S : FnScope N ps scope)
    (size : ∀ vs H Q E, sp vs H Q E → vs.length = ps.length)
    (hb : ∀ (A : Around) (outer : List Env) (s : Shared) (H : Hp) (vs : List V) (Q : VK) (E : XK),
      Room k (A.deeper (envOfC qual scope s.heap.objs.size f cdv)) → A.guards = some [] → sp vs H Q E →
      ∃ t, PSs (cxOf CX P w K mg base N qual scope f cdv A outer s H E) body t ∧
        t { nx := fun _ H' => Q .non H', rt := Q } (start N vs) H) :
    FnG P w K mg base CX (k + 1) f (PySem.W.fnOf name qual params body scope dV kV doc pm an cdv ct) ps sp where
  size := size
  go := by
    intro A outer s H args us vs Q E hr hg e0 bnd rv hsp
    have len := size _ _ _ _ hsp
    have kin : K.In s.heap := e0.mod.kin.keeps (fun b o z => (e0.bs b o z).1)
    have nolim : s.heap.NoLimit := e0.mod.nolimit.keeps (fun b o z => (e0.bs b o z).1)
    have names : ∀ y ∈ ps.zip us, scope.names.lookup y.1 = some .local ∨
        (scope.names.lookup y.1 = some .cell ∧
          ((cellsFrom (s.heap.objs.size + 1) scope.names []).lookup y.1).isSome = true) := by
      rintro ⟨n, v⟩ hy
      have hn := (List.of_mem_zip hy).1
      rcases S.par n hn with z | z
      · exact Or.inl z
      · exact Or.inr ⟨z, PySem.W.cellsFrom_some _ _ _ (Or.inl z)⟩
    apply codeAny_call_function hr.depth (kin _ _ lk) rfl S.co S.gen rfl (PySem.W.codeRec_of kin hcd) (bnd _ _ _ _ ?_)
    apply wpAny_newFunctionEnv_cells S.kind names
    intro env he s1 x
    subst he
    refine ⟨nolim.keeps x.toInCall.keep, codeAny_func ?_⟩
    obtain ⟨t, ht, hq⟩ := hb A outer s H vs Q E (hr.deeper _) hg hsp
    have I := inv_start (CX := CX) (P := P) (w := w) (K := K) (mg := mg) (base := base) (E := E) (cd := cdv) S hr.hd e0 len rv x
    refine wpAny_mono (ht.run [] s1 (start N vs) H _ I hq) ?_ (fun e s' z => z)
    intro fl s' hs
    cases fl with
    | brk =>
      obtain ⟨_, _, _, z⟩ := hs
      exact z.elim
    | cont =>
      obtain ⟨_, _, _, z⟩ := hs
      exact z.elim
    | ret u =>
      obtain ⟨v, σ', H', J, r1, z⟩ := hs
      exact ⟨v, H', J.os, J.bare, J.base, J.hok, r1, z⟩
    | next =>
      obtain ⟨σ', H', J, z⟩ := hs
      exact ⟨V.non, H', J.os, J.bare, J.base, J.hok, (rfl : Value.none = Value.none), z⟩
/-- .. that lets no exception out -/
theorem okG {x qual : Str} {st : Stmt} {N : List Str} {k : Nat} (F : Fun K x qual st f fd) (S : FnScope N ps (defScope st))
    (size : ∀ vs H Q E, sp vs H Q E → vs.length = ps.length)
    (hb : ∀ (cdv : Value) (A : Around) (outer : List Env) (s : Shared) (H : Hp) (vs : List V) (Q : VK) (E : XK),
      Room k (A.deeper (envOfC qual (defScope st) s.heap.objs.size f cdv)) → A.guards = some [] → sp vs H Q E →
      ∃ t, PSs (cxOf CX0 P w K mg base N qual (defScope st) f cdv A outer s H E).nox (defBody st) t ∧
        t { nx := fun _ H' => Q .non H', rt := Q } (start N vs) H) : FnG P w K mg base CX0 (k + 1) f fd ps sp := by
  obtain ⟨oc, od, kV, doc, pm, an, cdv, ct, osl, rfl, lk, hcd⟩ := F.ex
  refine fnG_of lk hcd S size ?_
  intro A outer s H vs Q E hr hg hsp
  obtain ⟨t, h, q⟩ := hb cdv A outer s H vs Q E hr hg hsp
  exact ⟨t, h.nox, q⟩
end

section
variable {X : Cx} {CX : CXT} {k : Nat} {f : Addr} {fd : FuncData} {ps : List Str} {sp : Sp} {dvs : List V} {ds : List Value}
  {E : XK} {x : Str} {p pos : Pos} {e : Expr} {es : List Expr} {t : TA}
/-- what a call hands back -/
theorem endG {pins : List (Addr × Obj)} {σ : L2.St} {H : Hp} {s : Shared} {Q : VK} {args : Args}
    (hx : Passes CX X E) (I : Inv X pins σ H s) (h : codeAny (model X.prog X.w) X.A (.call (.ref f) args) (CR CX X.stack X.prog X.w H s Q E) s) :
    codeAny (model X.prog X.w) X.A (.call (.ref f) args) (fun r s' => match r with
      | .ok (.ret u) => EP X pins σ Q u s'
      | .ok _ => False
      | .error e => X.xe e s') s := by
  refine codeAny_mono h ?_
  intro r s' hq
  cases r with
  | error e => exact hx pins σ H s e s' I hq
  | ok fl =>
    cases fl with
    | ret u => exact I.after hq
    | brk => exact hq.elim
    | cont => exact hq.elim
    | next => exact hq.elim
theorem runG {pins : List (Addr × Obj)} {σ : L2.St} {H : Hp} {s : Shared} {Q : VK} {us : List Value} {vs : List V}
    (F : FnG X.prog X.w X.K X.mg X.base CX k f fd ps sp) (hg : X.A.guards = some []) (hr : Room k X.A) (hb : Binds X.K fd ps ds)
    (hd : Vals dvs ds) (hx : Passes CX X E) (I : Inv X pins σ H s) (r : Vals vs us) (h : sp (vs ++ dvs) H Q E) :
    wpAny (model X.prog X.w) X.A (call (.ref f) us) (EP X pins σ Q) X.xe s := by
  have r2 := r.append hd
  have hl : (us ++ ds).length = ps.length := r2.length.symm.trans (F.size _ _ _ _ h)
  have z := F.go X.A X.stack s H ⟨us, []⟩ (us ++ ds) (vs ++ dvs) Q E hr hg I.env0 (hb s us I.kIn hl) r2 h
  refine wpAny_call (codeAny_mono (endG (pins := pins) (σ := σ) hx I z) ?_)
  intro r s' hq
  cases r with
  | error e => exact hq
  | ok fl =>
    cases fl with
    | ret u => exact hq
    | brk => exact hq.elim
    | cont => exact hq.elim
    | next => exact hq.elim
theorem callG (F : FnG X.prog X.w X.K X.mg X.base CX k f fd ps sp) (hgd : X.A.guards = some []) (hr : Room k X.A)
    (hm : X.mg x = some (.ref f)) (hk : PySem.W.keepIn X.K (.ref f) = true) (hb : Binds X.K fd ps ds) (hd : Vals dvs ds)
    (hx : Passes CX X E) (ha : PA X (e :: es) t) (hg : Gl X x := by rfl) (hdb : (x == ("__debug__" : Str)) = false := by decide)
    (he : starEach (e :: es) X.env = (false, eval e X.env) :: starEach es X.env := by rfl)
    (hpl : (backTo pos (starEach es X.env)).any (·.1) = false := by rfl) :
    PE X (.Call (.Name x p) (e :: es) [] pos) (tCall sp dvs E t) := by
  constructor
  intro pins s σ H Q I h
  apply wpAny_Call_Name_kw (ld_glob I hg hm ?_ hdb)
  have z := ha.run pos pins s σ H _ I h
  refine PySem.W.callWith_K (h₀ := X.base) I.ok.mod.kin hk (thn z ?_) he hpl
  rintro us s1 ⟨vs, H1, I1, r, q⟩
  exact ⟨I1.kIn, runG F hgd hr hb hd hx I1 r q⟩
theorem callG0 (F : FnG X.prog X.w X.K X.mg X.base CX k f fd ps sp) (hgd : X.A.guards = some []) (hr : Room k X.A)
    (hm : X.mg x = some (.ref f)) (hk : PySem.W.keepIn X.K (.ref f) = true) (hb : Binds X.K fd ps ds) (hd : Vals dvs ds)
    (hx : Passes CX X E) (hg : Gl X x := by rfl) (hdb : (x == ("__debug__" : Str)) = false := by decide) :
    PE X (.Call (.Name x p) [] [] pos) (tCall sp dvs E tNil) := by
  constructor
  intro pins s σ H Q I h
  apply wpAny_Call_Name_kw (ld_glob I hg hm ?_ hdb)
  exact PySem.W.callWith_K0 I.kIn hk (runG (us := []) F hgd hr hb hd hx I .nil h)

/-- f(k = v, ..): keywords alone; g puts their values in the parameters' order -/
structure KwTo (K : PySem.W.Frag) (fd : FuncData) (ps ks : List Str) (g : ∀ {α : Type}, List α → List α) : Prop where
  to : ∀ (s : Shared) (ws : List Value), K.In s.heap → ws.length = ks.length → BindsTo s fd ⟨[], ks.zip ws⟩ (ps.zip (g ws))
  rel : ∀ {zs : List V} {ws : List Value}, Vals zs ws → Vals (g zs) (g ws)
def tKw (n : Nat) (sp : Sp) (g : List V → List V) (E : XK) (tk : TA) : TE := fun σ H Q => tk σ H fun zs H1 => zs.length = n ∧ sp (g zs) H1 Q E
variable {ks : List Str} {kws : List Keyword} {tk : TA} {g : ∀ {α : Type}, List α → List α}
theorem callKw (F : FnG X.prog X.w X.K X.mg X.base CX k f fd ps sp) (hgd : X.A.guards = some []) (hr : Room k X.A)
    (hm : X.mg x = some (.ref f)) (hk : PySem.W.keepIn X.K (.ref f) = true) (hb : KwTo X.K fd ps ks g)
    (hx : Passes CX X E) (hkw : PK X kws tk) (hg : Gl X x := by rfl)
    (hall : (backToKw pos (keywordEach kws X.env)).all (·.1.isSome) = true := by rfl)
    (hks : (backToKw pos (keywordEach kws X.env)).filterMap (·.1) = ks := by rfl) (hdb : (x == ("__debug__" : Str)) = false := by decide)
    (hpl : ((backTo pos (starEach [] X.env)).any (·.1) || (backToKw pos (keywordEach kws X.env)).any (·.1.isNone)) = false := by rfl) :
    PE X (.Call (.Name x p) [] kws pos) (tKw ks.length sp g E tk) := by
  constructor
  intro pins s σ H Q I h
  apply wpAny_Call_Name_kw (ld_glob I hg hm ?_ hdb)
  refine PySem.W.callWith_KW0 (h₀ := X.base) I.ok.mod.kin hk hall ?_ hpl
  refine thn (hkw.run pos pins s σ H _ I h) ?_
  rintro ws s2 ⟨zs, H2, I2, rz, l2, q2⟩
  refine ⟨I2.kIn, ?_⟩
  rw [hks]
  have z := F.go X.A X.stack s2 H2 ⟨[], ks.zip ws⟩ (g ws) (g zs) _ E hr hgd I2.env0 (hb.to s2 ws I2.kIn (rz.length.symm.trans l2)) (hb.rel rz) q2
  refine wpAny_call (codeAny_mono (endG (pins := pins) (σ := σ) hx I2 z) ?_)
  intro r s' hq
  cases r with
  | error e => exact hq
  | ok fl =>
    cases fl with
    | ret u => exact hq
    | brk => exact hq.elim
    | cont => exact hq.elim
    | next => exact hq.elim
end
end FA
end

/-! G3 -/
section
namespace FA
open PySem PySem.Spec PyProof.Rows L2

/-- the one tracked thing at a law's entry: the script, as it is -/
def entry (a : Addr) (o : Obj) (xs : List V) : Hp := fun b => if b = a then some (.frz o (.lst xs)) else none
theorem entry_at {a : Addr} {o : Obj} {xs : List V} : entry a o xs a = some (.frz o (.lst xs)) := if_pos rfl
theorem entry_ne {a b : Addr} {o : Obj} {xs : List V} (h : b ≠ a) : entry a o xs b = none := if_neg h
def Lone (H : Hp) : Prop := (∀ b, H b = none) ∨ ∃ a o xs, H = entry a o xs

theorem endLaw {P : Program} {w : World} {K : PySem.W.Frag} {mg mb : Str → Option Value} {CX : CXT} {k : Nat} {fa a : Addr}
    {fd : FuncData} {x : Str} {sp : Sp} {s₁ : Shared} {H : Hp} {ns : List Int} {so : Obj}
    (kin : K.In s₁.heap) (n1 : s₁.heap.Ns mainGlobals mg) (n2 : s₁.heap.Ns builtinsNs mb)
    (bt : ∀ z : Str, z ≠ "__name__" → mb z = bootBuiltins z) (lim : s₁.heap.NoLimit) (gens : s₁.gens = #[])
    (hr : Room k callerA) (hso : ∃ vs : List Value, so = { cls := .type "list", data := .seq vs.toArray }) (obj : s₁.heap.get? a = some so)
    (hH : (∀ b, H b = none) ∨ (K.lookup a = none ∧ H = entry a so (ns.map V.int))) (hok : HOk P w H s₁.heap)
    (F : ∀ base : Heap, K.In base → base.Ns mainGlobals mg → (∀ b o, s₁.heap.get? b = some o → b ≠ a ∨ K.lookup a ≠ none → base.get? b = some o) →
      FnG P w K mg base CX k fa fd [x] sp)
    (bnd : ∀ (s : Shared) (u : Value), BindsTo s fd ⟨[u], []⟩ [(x, u)])
    (hsp : sp [.ref a] H (fun v _ => v = .bl true) fun _ _ _ => False)
    (noE : ∀ e s', CX [] H s₁ (fun _ _ _ => False) e s' → False) :
    codeAny (model P w) callerA (.call (.ref fa) ⟨[.ref a], []⟩)
      (fun r s' => r = .ok (.ret (.bool true)) ∧ OldK s₁.heap s'.heap ∧ s'.os = s₁.os ∧ AllBare s'.gens) s₁ := by
  obtain ⟨vs, rfl⟩ := hso
  have only : ∀ b, H b ≠ none → b = a ∧ K.lookup a = none := by
    intro b hb
    rcases hH with z | ⟨z, rfl⟩
    · exact absurd (z b) hb
    · refine ⟨?_, z⟩
      by_cases c : b = a
      · exact c
      · exact absurd (entry_ne c) hb
  have free : ∀ b, b ≠ a ∨ K.lookup a ≠ none → H b = none := by
    intro b hb
    cases q : H b with
    | none => rfl
    | some u =>
      obtain ⟨z1, z2⟩ := only b (by rw [q]; simp)
      rcases hb with hb | hb
      · exact absurd z1 hb
      · exact absurd z2 hb
  have keep : ∀ b o, s₁.heap.get? b = some o → b ≠ a ∨ K.lookup a ≠ none → (hidT s₁.heap H).get? b = some o :=
    fun b o e c => hidT_get e (free b c)
  have dictNe : ∀ b o es ep, s₁.heap.get? b = some o → o.data = Data.dict es ep → b ≠ a := by
    rintro b o es ep e d rfl
    rw [obj] at e
    cases e
    have d' : Data.seq vs.toArray _ = Data.dict es ep := d
    cases d'
  have nsB : ∀ {b : Addr} {m : Str → Option Value}, s₁.heap.Ns b m → (hidT s₁.heap H).Ns b m := by
    rintro b m ⟨o, es, ep, e, d, r⟩
    exact ⟨o, es, ep, keep b o e (Or.inl (dictNe b o es ep e d)), d, r⟩
  have kinB : K.In (hidT s₁.heap H) := by
    intro b o e
    refine keep b o (kin b o e) ?_
    by_cases c : b = a
    · right
      rw [← c, e]
      simp
    · exact Or.inl c
  obtain ⟨mc, l1, l2⟩ := lim
  have md : Mod K mg (hidT s₁.heap H) := ⟨kinB, nsB n1, ⟨mb, nsB n2, bt⟩, ⟨mc, nsB l1, l2⟩⟩
  have e0 : Env0 P w K mg (hidT s₁.heap H) callerA [] s₁ H :=
    { frames := rfl, mod := md, bs := fun b o e => of_hidT e, bsz := Nat.le_of_eq (hidT_size _ _), funs := trivial,
      frf := fun b hb => absurd (show b ∈ ([] : List Addr) from hb) (by simp), hok := hok, bare := .of_eq gens }
  have run := (F _ kinB (nsB n1) keep).go callerA [] s₁ H ⟨[.ref a], []⟩ [.ref a] [.ref a] _ _ hr rfl e0 (bnd s₁ (.ref a)) (.cons rfl .nil) hsp
  refine codeAny_mono run ?_
  intro r s' h
  cases r with
  | error e => exact (noE e s' h).elim
  | ok fl =>
    cases fl with
    | brk => exact h.elim
    | cont => exact h.elim
    | next => exact h.elim
    | ret u =>
      obtain ⟨v, H', os, bare, un, hok', r', q⟩ := h
      obtain rfl : v = V.bl true := q
      obtain rfl : u = Value.bool true := r'
      refine ⟨rfl, OldK.of_keep ?_, os, bare⟩
      intro b o e
      cases c : H b with
      | none => exact un.keep b o e c (by intro z; exact absurd (show b ∈ ([] : List Addr) from z) (by simp)) (by simp)
      | some u =>
        rcases hH with z | ⟨_, rfl⟩
        · rw [z b] at c; cases c
        · have hb : b = a := by
            by_cases y : b = a
            · exact y
            · rw [entry_ne y] at c; cases c
          subst hb
          obtain ⟨e2, _⟩ := hok' b _ (un.frzs b _ _ entry_at)
          rw [obj] at e
          cases e
          exact e2

/-- a law's end, over a head by facts -/
theorem walkE {l : PySem.W.OpenLaw} {n k : Nat} {q : Program} {loose : List Str} {XP : (Str → Option Value) → Heap → Prop}
    {YP : World → Heap → Prop} {d : DefRec} {CX : CXT} {x : Str}
    (hn : l.most = some n) (hn2 : n ≤ sizeLine) (hdf : d.params.defaults = []) (hr : Room k callerA)
    (F : ∀ (w : World) (mg : Str → Option Value) (fa : Addr) (h : Heap), YP w h → h.Ns mainGlobals mg → mg d.name = some (.ref fa) →
      ∃ (K : PySem.W.Frag) (fd : FuncData) (sp : Sp), K.In h ∧ (∃ o es m, h.get? sysModules = some o ∧ o.data = Data.dict es m) ∧
        (∀ (s : Shared) (u : Value), BindsTo s fd ⟨[u], []⟩ [(x, u)]) ∧
        (∀ (H : Hp) (a : Addr) (ns : List Int), ns.length ≤ n → Lone H → SqL K H a (ns.map V.int) →
          sp [.ref a] H (fun v _ => v = .bl true) fun _ _ _ => False) ∧
        ∀ base : Heap, K.In base → base.Ns mainGlobals mg → (∃ o, base.get? sysModules = some o) →
          FnG l.prog w K mg base CX k fa fd [x] sp)
    (noE : ∀ (H : Hp) (s : Shared) (e : Value) (s' : Shared), CX [] H s (fun _ _ _ => False) e s' → False) :
    PySem.W.WalkO q loose XP YP l.row.toRowW d [] (fun f vs => PySem.call f vs) := by
  apply Att.attach_call hn hdf
  intro w s₀ s₁ mg mb fa o pm cd doc a vs ns G Y ho hd hcd hmg hobj hints hlen hg
  obtain ⟨K, fd, sp, kin, ⟨so, es, sm, hso, hsd⟩, hb, hsp, hF⟩ := F w mg fa _ Y G.T.g hmg
  have rel : Vals (ns.map V.int) vs := vals_ints hints
  have len : (ns.map V.int).length ≤ sizeLine := by
    rw [List.length_map]
    exact Nat.le_trans hlen hn2
  have sysNe : sysModules ≠ a := by
    intro z
    rw [z, hobj] at hso
    cases hso
    have d' : Data.seq vs.toArray _ = Data.dict es sm := hsd
    cases d'
  cases hk : K.lookup a with
  | some o1 =>
    have e := kin a o1 hk
    rw [hobj] at e
    cases e
    refine endLaw (ns := ns) (H := fun _ => none) kin G.T.g G.T.b G.T.builtins G.T.nolimit hg hr ⟨vs, rfl⟩ hobj (Or.inl fun _ => rfl)
      (fun b u z => by have z' : (none : Option HO) = some u := z; cases z')
      (fun base h1 h2 h3 => hF base h1 h2 ⟨_, h3 _ _ hso (Or.inl sysNe)⟩) hb ?_ (fun e s' => noE _ s₁ e s')
    refine hsp _ a ns hlen (Or.inl fun _ => rfl) (Or.inr ⟨_, vs.toArray, _, hk, rfl, rfl, rfl, ?_, by simpa using rel⟩)
    rw [List.size_toArray, hints.length]
    exact Nat.le_trans hlen hn2
  | none =>
    refine endLaw (ns := ns) (H := entry a _ (ns.map V.int)) kin G.T.g G.T.b G.T.builtins G.T.nolimit hg hr ⟨vs, rfl⟩ hobj (Or.inr ⟨hk, rfl⟩)
      ?_ (fun base h1 h2 h3 => hF base h1 h2 ⟨_, h3 _ _ hso (Or.inl sysNe)⟩) hb ?_ (fun e s' => noE _ s₁ e s')
    · intro b u z
      by_cases c : b = a
      · subst c
        rw [entry_at] at z
        cases z
        exact ⟨hobj, len, vs, _, rel, hobj⟩
      · rw [entry_ne c] at z
        cases z
    · exact hsp _ a ns hlen (Or.inr ⟨_, _, _, rfl⟩) (Or.inl (Or.inr ⟨_, entry_at⟩))

/-- what stands around a body -/
structure Rdy (k : Nat) (X : Cx) : Prop where
  room : Room k X.A
  gd : X.A.guards = some []
  sys : NoSys X
theorem Rdy.blk {k : Nat} {X : Cx} (R : Rdy k X) (s : Shared) (H : Hp) (sc : Scope) (env : Env) (fp : List Addr) : Rdy k (X.blk s H sc env fp) := ⟨R.room, R.gd, R.sys⟩
/-! the head's facts, and the table of modules -/
def sysB (g : Addr → Option Obj) : Bool := match g sysModules with
  | some ⟨_, _, .dict _ _, _⟩ => true
  | _ => false
theorem sysB_ok {g : Addr → Option Obj} (h : sysB g = true) : ∃ o es m, g sysModules = some o ∧ o.data = Data.dict es m := by
  unfold sysB at h
  split at h
  · rename_i es m _ e
    exact ⟨_, es, m, e, rfl⟩
  · cases h
def hookS (n : Nat) (fa : List He.Fa) (fn : List He.DefD) : PySem.W.Hook where
  α := He.AlD × Bool
  obs := fun s => ((He.hookD n fa fn).obs s, sysB s.heap.get?)
  val := fun w => ((He.hookD n fa fn).val w, true)
  says := fun w h => (He.hookD n fa fn).says w h ∧ ∃ o es m, h.get? sysModules = some o ∧ o.data = Data.dict es m
  of := fun w s e => ⟨(He.hookD n fa fn).of w s (congrArg Prod.fst e), sysB_ok (congrArg Prod.snd e)⟩
  keeps := fun w h h' z k => ⟨(He.hookD n fa fn).keeps w h h' z.1 k, let ⟨o, es, m, e, d⟩ := z.2; ⟨o, es, m, k _ _ e, d⟩⟩

section
variable {P : Program} {w : World} {K : PySem.W.Frag} {mg : Str → Option Value} {base : Heap} {x qual : Str} {params : Arguments}
  {body : List Stmt} {scope : Scope} {dvs : List V} {kws : List (Str × V)} {f : Addr} {fd : FuncData}
/-- a def of the head's facts, by its body -/
theorem okD {N ps : List Str} {k : Nat} {sp : Sp} (F : FunD K x qual params body scope dvs kws f fd) (S : FnScope N ps scope)
    (hS : ∃ o, base.get? sysModules = some o)
    (size : ∀ vs H Q E, sp vs H Q E → vs.length = ps.length)
    (hb : ∀ (cdv : Value) (A : Around) (outer : List Env) (s : Shared) (H : Hp) (vs : List V) (Q : VK) (E : XK),
      Rdy k (cxOf CX0 P w K mg base N qual scope f cdv A outer s H E).nox → sp vs H Q E →
      ∃ t, PSs (cxOf CX0 P w K mg base N qual scope f cdv A outer s H E).nox body t ∧
        t { nx := fun _ H' => Q .non H', rt := Q } (start N vs) H) : FnG P w K mg base CX0 (k + 1) f fd ps sp := by
  obtain ⟨oc, od, dV, kV, doc, pm, an, cdv, ct, osl, rfl, lk, hcd, _, _⟩ := F.ex
  refine fnG_of lk hcd S size ?_
  intro A outer s H vs Q E hr hg hsp
  obtain ⟨t, h, q⟩ := hb cdv A outer s H vs Q E ⟨hr, hg, hS⟩ hsp
  exact ⟨t, h.nox, q⟩
end

/-! what a caller needs -/
structure Cal (P : Program) (w : World) (K : PySem.W.Frag) (mg : Str → Option Value) (base : Heap) (k : Nat) (x : Str) (ps : List Str) (sp : Sp) : Prop where
  ex : ∃ (f : Addr) (fd : FuncData), FnG P w K mg base CX0 k f fd ps sp ∧ mg x = some (.ref f) ∧ PySem.W.keepIn K (.ref f) = true ∧ Binds K fd ps []
structure CalK (P : Program) (w : World) (K : PySem.W.Frag) (mg : Str → Option Value) (base : Heap) (k : Nat) (x : Str) (ps ks : List Str)
    (g : ∀ {α : Type}, List α → List α) (sp : Sp) : Prop where
  ex : ∃ (f : Addr) (fd : FuncData), FnG P w K mg base CX0 k f fd ps sp ∧ mg x = some (.ref f) ∧ PySem.W.keepIn K (.ref f) = true ∧ KwTo K fd ps ks g
section
variable {X : Cx} {k j : Nat} {x : Str} {ps ks : List Str} {sp : Sp} {p pos : Pos} {e : Expr} {es : List Expr} {t : TA}
  {kws : List Keyword} {tk : TA} {g : ∀ {α : Type}, List α → List α}
theorem cc (c : Cal X.prog X.w X.K X.mg X.base k x ps sp) (R : Rdy j X) (ha : PA X (e :: es) t) (hk : k ≤ j := by omega) (hg : Gl X x := by rfl)
    (hdb : (x == ("__debug__" : Str)) = false := by decide)
    (he : starEach (e :: es) X.env = (false, eval e X.env) :: starEach es X.env := by rfl)
    (hpl : (backTo pos (starEach es X.env)).any (·.1) = false := by rfl) (hx : ∀ E, Passes CX0 X E := by intro _ _ _ _ _ _ _ _ z; exact z.elim) :
    PE X (.Call (.Name x p) (e :: es) [] pos) (tCall sp [] E0 t) := by
  obtain ⟨f, fd, F, hm, hkp, hb⟩ := c.ex
  exact callG F R.gd (R.room.mono hk) hm hkp hb .nil (hx _) ha hg hdb he hpl
theorem cc0 (c : Cal X.prog X.w X.K X.mg X.base k x ps sp) (R : Rdy j X) (hk : k ≤ j := by omega) (hg : Gl X x := by rfl)
    (hdb : (x == ("__debug__" : Str)) = false := by decide) (hx : ∀ E, Passes CX0 X E := by intro _ _ _ _ _ _ _ _ z; exact z.elim) :
    PE X (.Call (.Name x p) [] [] pos) (tCall sp [] E0 tNil) := by
  obtain ⟨f, fd, F, hm, hkp, hb⟩ := c.ex
  exact callG0 F R.gd (R.room.mono hk) hm hkp hb .nil (hx _) hg hdb
theorem ck (c : CalK X.prog X.w X.K X.mg X.base k x ps ks g sp) (R : Rdy j X) (hkw : PK X kws tk) (hk : k ≤ j := by omega) (hg : Gl X x := by rfl)
    (hall : (backToKw pos (keywordEach kws X.env)).all (·.1.isSome) = true := by rfl)
    (hks : (backToKw pos (keywordEach kws X.env)).filterMap (·.1) = ks := by rfl) (hdb : (x == ("__debug__" : Str)) = false := by decide)
    (hpl : ((backTo pos (starEach [] X.env)).any (·.1) || (backToKw pos (keywordEach kws X.env)).any (·.1.isNone)) = false := by rfl)
    (hx : ∀ E, Passes CX0 X E := by intro _ _ _ _ _ _ _ _ z; exact z.elim) :
    PE X (.Call (.Name x p) [] kws pos) (tKw ks.length sp g E0 tk) := by
  obtain ⟨f, fd, F, hm, hkp, hb⟩ := c.ex
  exact callKw F R.gd (R.room.mono hk) hm hkp hb (hx _) hkw hg hall hks hdb hpl
theorem bt_repr : bootBuiltins "repr" = some (.builtin "repr") := by decide +kernel
/-- repr(e) -/
theorem crepr (R : Rdy j X) (hm : X.mg ("repr" : Str) = none) (ha : PA X [e] t) (hg : Gl X "repr" := by rfl)
    (he : starEach [e] X.env = (false, eval e X.env) :: starEach [] X.env := by rfl) (hpl : (backTo pos (starEach [] X.env)).any (·.1) = false := by rfl) :
    PE X (.Call (.Name "repr" p) [e] [] pos) (tCB rRepr t) :=
  pe_callB (call_reprA R.gd R.room R.sys) hg hm bt_repr ha (by decide) (by decide) he hpl
end
section
variable {K : PySem.W.Frag} {x qual : Str} {params : Arguments} {body : List Stmt} {scope : Scope} {f : Addr} {fd : FuncData} {kws : List (Str × V)}
theorem kwTo {ps ks : List Str} {g : ∀ {α : Type}, List α → List α} (F : FunD K x qual params body scope [] kws f fd)
    (h : ∀ (kV doc pm : Value) (an : Option Addr) (cdv ct : Value) (ws : List Value), ws.length = ks.length →
      bindArgs (PySem.W.fnOf x qual params body scope .none kV doc pm an cdv ct) ⟨[], ks.zip ws⟩ = pure (ps.zip (g ws)))
    (rel : ∀ {zs : List V} {ws : List Value}, Vals zs ws → Vals (g zs) (g ws)) : KwTo K fd ps ks g := by
  obtain ⟨oc, od, dV, kV, doc, pm, an, cdv, ct, osl, rfl, lk, hcd, hd, _⟩ := F.ex
  rcases hd with ⟨_, rfl⟩ | ⟨z, _⟩
  · exact ⟨fun s ws _ hl => .of_eq (h kV doc pm an cdv ct ws hl), rel⟩
  · exact absurd rfl z
end
end FA
end

/-! G4 -/
section
namespace FA
open PySem PySem.Spec PyProof.Rows L2

theorem bt_isinstance : bootBuiltins "isinstance" = some (.builtin "isinstance") := by decide +kernel
theorem bt_len : bootBuiltins "len" = some (.builtin "len") := by decide +kernel
theorem bt_all : bootBuiltins "all" = some (.builtin "all") := by decide +kernel
theorem bt_any : bootBuiltins "any" = some (.builtin "any") := by decide +kernel
theorem bt_abs : bootBuiltins "abs" = some (.builtin "abs") := by decide +kernel
theorem bt_min : bootBuiltins "min" = some (.builtin "min") := by decide +kernel
theorem bt_max : bootBuiltins "max" = some (.builtin "max") := by decide +kernel
theorem bt_str : bootBuiltins "str" = some (.type "str") := by decide +kernel
theorem bt_int : bootBuiltins "int" = some (.type "int") := by decide +kernel
theorem bt_bool : bootBuiltins "bool" = some (.type "bool") := by decide +kernel
theorem bt_list : bootBuiltins "list" = some (.type "list") := by decide +kernel
theorem bt_tuple : bootBuiltins "tuple" = some (.type "tuple") := by decide +kernel
theorem bt_dict : bootBuiltins "dict" = some (.type "dict") := by decide +kernel
theorem bt_range : bootBuiltins "range" = some (.type "range") := by decide +kernel
section
variable {X : Cx}
/-! operators for values of any kind that meet -/
theorem opMulStr : OpR X (binaryOp .Mult) (fun x y H Q => ∃ z k, x = .str z ∧ y = .int k ∧ PySem.MulOk z k ∧ Q (.str (Txt.mul z k)) H) := by
  intro pins s σ H x y u v Q I r1 r2 h
  obtain ⟨z, k, rfl, rfl, hz, q⟩ := h
  obtain ⟨t1, rfl⟩ : ∃ t, u = .str z t := r1
  obtain ⟨t2, rfl⟩ : ∃ t, v = .int k t := r2
  exact PySem.SB.mul hz fun t k => ⟨.str _, H, I.tok _, ⟨_, rfl⟩, q⟩
abbrev rAddA : R2 := fun x y H Q => (rI0 (fun i j => .int (i + j)) x y H Q ∨
    (∃ i j, x = .str i ∧ y = .str j ∧ i.length + j.length ≤ sizeLine ∧ Q (.str (i ++ j)) H)) ∨ rCat x y H Q
theorem opAdd : OpR X (binaryOp .Add) rAddA := OpR.or (OpR.or op_add op_add_str) op_cat
abbrev rMulA : R2 := fun x y H Q => (rI CMul (fun i j => .int (i * j)) x y H Q ∨ rRep x y H Q) ∨
    ∃ z k, x = .str z ∧ y = .int k ∧ PySem.MulOk z k ∧ Q (.str (Txt.mul z k)) H
theorem opMul : OpR X (binaryOp .Mult) rMulA := OpR.or (OpR.or op_mul op_rep) opMulStr
abbrev rLtA : R2 := fun x y H Q => rI0 (fun i j => .bl (decide (i < j))) x y H Q ∨
    ∃ i j, x = .str i ∧ y = .str j ∧ Q (.bl (decide (i.cps.toList < j.cps.toList))) H
theorem opLt : OpR X (compareOp .Lt) rLtA := OpR.or op_lt op_lt_str
abbrev rLeA : R2 := fun x y H Q => rI0 (fun i j => .bl (decide (i ≤ j))) x y H Q ∨
    ∃ i j, x = .str i ∧ y = .str j ∧ Q (.bl (!decide (j.cps.toList < i.cps.toList))) H
theorem opLe : OpR X (compareOp .LtE) rLeA := OpR.or op_le op_le_str
abbrev rGeA : R2 := rI0 fun i j => .bl (decide (j ≤ i))
abbrev rGtA : R2 := rI0 fun i j => .bl (decide (j < i))
abbrev rSubA : R2 := rI0 fun i j => .int (i - j)
abbrev rModA : R2 := rI (fun _ j => 0 < j) fun i j => .int (i % j)
abbrev rDivA : R2 := rI CDivW fun i j => .int (i / j)
abbrev rPowA : R2 := rI CPow fun i j => .int (i ^ j.toNat)
abbrev rIsN : R2 := fun x y H Q => y = .non ∧ Q (.bl (decide (x = .non))) H
abbrev rNotN : R2 := fun x y H Q => y = .non ∧ Q (.bl (!decide (x = .non))) H
abbrev rIxA (K : PySem.W.Frag) : R2 := fun x y H Q => rIxL K x y H Q ∨ rIxT K x y H Q ∨ rIxS x y H Q
theorem ixAny : IxR X (rIxA X.K) := ix_seq
abbrev rSlA (K : PySem.W.Frag) : V → Option Int → Option Int → Hp → VK → Prop := fun x lo hi H Q => rSlL K x lo hi H Q ∨ rSlS x lo hi H Q
theorem slAny : SlR X (rSlA X.K) := SlR.or sl_list sl_str
abbrev rLenA (K : PySem.W.Frag) : List V → Hp → VK → Prop := fun xs H Q => (∃ p ys, xs = [.ref p] ∧ (SqL K H p ys ∨ SqT K H p ys) ∧ Q (.int ys.length) H) ∨
    ∃ z, xs = [.str z] ∧ z.length ≤ sizeLine ∧ Q (.int z.length) H
abbrev rListOf (K : PySem.W.Frag) : List V → Hp → VK → Prop := fun xs H Q => ∃ p ys, xs = [.ref p] ∧ (SqL K H p ys ∨ SqT K H p ys) ∧ ∀ l, H l = none → Q (.ref l) (upd H l (.lst ys))
abbrev rAbs : List V → Hp → VK → Prop := fun xs H Q => ∃ i, xs = [.int i] ∧ Q (.int (if i < 0 then -i else i)) H
theorem call_lenA : CallR X (.builtin "len") (rLenA X.K) := CallR.or call_len_seq call_len_str

/-- a comprehension of one name -/
theorem pe_lc1 (i : Nat) {x : Str} {p : Pos} {elt iter : Expr} {ifs : List Expr} {scope : Scope} {pos : Pos} {wi : TI} {tt : TT} {te : TE}
    (hc : X.calm = true) (hN : X.N.Nodup) (hi : PI X (.Name x p) iter wi) (ok : blkC X.N X.env.scope scope [(x, i)] = true)
    (hg : ∀ (s : Shared) (H : Hp) (C : Addr) (cl : List (Str × Addr)) (fp : List Addr), PG (X.blk s H scope (compEnvC scope cl C X.env) fp) (.Name x p) (gName i))
    (ht : ∀ (s : Shared) (H : Hp) (C : Addr) (cl : List (Str × Addr)) (fp : List Addr), PTs (X.blk s H scope (compEnvC scope cl C X.env) fp) ifs tt)
    (he : ∀ (s : Shared) (H : Hp) (C : Addr) (cl : List (Str × Addr)) (fp : List Addr), PE (X.blk s H scope (compEnvC scope cl C X.env) fp) elt te)
    (hs : ∀ z, foldedSetIterable iter X.env z = pure z := by intro _; rfl) :
    PE X (.ListComp elt [⟨.Name x p, iter, ifs, 0⟩] scope pos) (tLc wi (gName i) tt te [i]) :=
  pe_lc (own := [(x, i)]) hc hN hi (blkOk_by ok) hg ht he hs
end
end FA
end

/-! G5 -/
section
namespace FA
open PySem PySem.Spec PyProof.Rows L2
/-! the mathematics -/
def okc (c : Nat) : Bool := decide (97 ≤ c) && decide (c ≤ 122)
theorem lt1 (a b : Nat) : decide (([a] : List Nat) < [b]) = decide (a < b) := by
  by_cases h : a < b
  · rw [decide_eq_true h]
    exact decide_eq_true (List.cons_lt_cons_iff.mpr (Or.inl h))
  · rw [decide_eq_false h]
    refine decide_eq_false fun q => ?_
    rcases List.cons_lt_cons_iff.mp q with q | ⟨_, q⟩
    · exact h q
    · exact List.not_lt_nil _ q
theorem sgn_a : (Str.ofString "a").cps.toList = [97] := by decide
theorem sgn_z : (Str.ofString "z").cps.toList = [122] := by decide
theorem same_new {H : Hp} {p : Addr} (h : H p = none) (o : HO) : Same H (upd H p o) := fun b u q => by rw [upd_ne (ne_of_none q h)]; exact q
theorem same_mut {H H1 : Hp} {p : Addr} {o : HO} (s : Same H H1) (h : H p = none) : Same H (upd H1 p o) := fun b u q => by rw [upd_ne (ne_of_none q h)]; exact s b u q
def lower (z : Str) : Bool := z.cps.toList.all okc
def nameS (z : Str) : Bool := decide (1 ≤ z.length) && decide (z.length ≤ 8) && lower z
def isName : PyData → Bool
  | .str z => nameS z
  | _ => false
def isNum : PyData → Bool
  | .int i => decide (-(10 ^ 12) ≤ i) && decide (i ≤ 10 ^ 12)
  | _ => false
def isVal (d : PyData) : Bool := match d with
  | .none => true
  | d => isNum d || isName d
def isStr : PyData → Bool
  | .str _ => true
  | _ => false


section
variable {K : PySem.W.Frag}
def tyN : PyData → String
  | .none => "NoneType"
  | .bool _ => "bool"
  | .int _ => "int"
  | .str _ => "str"
  | .list _ => "list"
  | .tuple _ => "tuple"
  | .dict _ => "dict"
theorem ty_dat {H : Hp} {d : PyData} {v : V} (h : Dat H d v) : TyX K H v (.type (tyN d)) := by
  cases d with
  | none => simp only [Dat] at h; subst h; exact .base .non
  | bool x => simp only [Dat] at h; subst h; exact .base (.bl x)
  | int i => simp only [Dat] at h; subst h; exact .base (.int i)
  | str x => simp only [Dat] at h; subst h; exact .base (.str x)
  | list ds => simp only [Dat] at h; obtain ⟨a, xs, rfl, e, _⟩ := h; exact .base (.lst e)
  | tuple ds => simp only [Dat] at h; obtain ⟨a, xs, rfl, e, _⟩ := h; exact .base (.tup e)
  | dict kvs => simp only [Dat] at h; obtain ⟨a, xs, rfl, e, _⟩ := h; exact .base (.dK e)
theorem kit_str (d : PyData) : PySem.W.kitOne K (.type (tyN d)) (.type "str") = some (isStr d) := by
  cases d <;> exact kit_ty (by simp only [tyN, isStr]; decide +kernel)
def isInt : PyData → Bool
  | .int _ => true
  | .bool _ => true
  | _ => false
def isBool : PyData → Bool
  | .bool _ => true
  | _ => false
theorem kit_int (d : PyData) : PySem.W.kitOne K (.type (tyN d)) (.type "int") = some (isInt d) := by
  cases d <;> exact kit_ty (by simp only [tyN, isInt]; decide +kernel)
theorem kit_bool (d : PyData) : PySem.W.kitOne K (.type (tyN d)) (.type "bool") = some (isBool d) := by
  cases d <;> exact kit_ty (by simp only [tyN, isBool]; decide +kernel)
theorem dat_non {H : Hp} {d : PyData} {v : V} (h : Dat H d v) : decide (v = .non) = (match d with | .none => true | _ => false) := by
  cases d with
  | none => simp only [Dat] at h; subst h; rfl
  | bool x => simp only [Dat] at h; subst h; rfl
  | int i => simp only [Dat] at h; subst h; rfl
  | str x => simp only [Dat] at h; subst h; rfl
  | list ds => simp only [Dat] at h; obtain ⟨a, xs, rfl, e, _⟩ := h; rfl
  | tuple ds => simp only [Dat] at h; obtain ⟨a, xs, rfl, e, _⟩ := h; rfl
  | dict kvs => simp only [Dat] at h; obtain ⟨a, xs, rfl, e, _⟩ := h; rfl
mutual
theorem dat_same {H H' : Hp} (s : Same H H') : ∀ (d : PyData) (v : V), Dat H d v → Dat H' d v
  | .none, v, h => by simp only [Dat] at h ⊢; exact h
  | .bool _, v, h => by simp only [Dat] at h ⊢; exact h
  | .int _, v, h => by simp only [Dat] at h ⊢; exact h
  | .str _, v, h => by simp only [Dat] at h ⊢; exact h
  | .list ds, v, h => by
    simp only [Dat] at h ⊢
    obtain ⟨a, xs, e, ha, hd⟩ := h
    exact ⟨a, xs, e, s _ _ ha, datAll_same s ds xs hd⟩
  | .tuple ds, v, h => by
    simp only [Dat] at h ⊢
    obtain ⟨a, xs, e, ha, hd⟩ := h
    exact ⟨a, xs, e, s _ _ ha, datAll_same s ds xs hd⟩
  | .dict kvs, v, h => by
    simp only [Dat] at h ⊢
    obtain ⟨a, xs, e, ha, hd⟩ := h
    exact ⟨a, xs, e, s _ _ ha, datKv_same s kvs xs hd⟩
theorem datAll_same {H H' : Hp} (s : Same H H') : ∀ (ds : List PyData) (xs : List V), DatAll H ds xs → DatAll H' ds xs
  | [], xs, h => by simp only [DatAll] at h ⊢; exact h
  | d :: ds, xs, h => by
    simp only [DatAll] at h ⊢
    obtain ⟨y, ys, e, h1, h2⟩ := h
    exact ⟨y, ys, e, dat_same s d y h1, datAll_same s ds ys h2⟩
theorem datKv_same {H H' : Hp} (s : Same H H') : ∀ (ds : List (PyData × PyData)) (xs : List (Key × V)), DatKv H ds xs → DatKv H' ds xs
  | [], xs, h => by simp only [DatKv] at h ⊢; exact h
  | (k, d) :: ds, xs, h => by
    simp only [DatKv] at h ⊢
    obtain ⟨c, y, ys, e, ek, h1, h2⟩ := h
    exact ⟨c, y, ys, e, ek, dat_same s d y h1, datKv_same s ds ys h2⟩
end

end

/-- the built-ins stand as they are -/
structure Blt (mg : Str → Option Value) : Prop where
  isinstance : mg "isinstance" = none
  len : mg "len" = none
  all : mg "all" = none
  abs : mg "abs" = none
  repr : mg "repr" = none
  str : mg "str" = none
  int : mg "int" = none
  bool : mg "bool" = none
  list : mg "list" = none
  tuple : mg "tuple" = none
  range : mg "range" = none

/-! data of no great size -/
structure Okd (D W : Nat) (x : PyData) : Prop where
  sh : x.showable = true
  lv : x.leavesShort 60 = true
  dp : x.depth ≤ D
  wt : x.weight ≤ W
  low : ∀ z, x = .str z → ∀ c ∈ z.cps.toList, c < 128
theorem Okd.len {D W : Nat} {x : PyData} (h : Okd D W x) : x.shown.length ≤ 62 * W + 60 := by
  have q := PyData.shown_le 60 (by decide) x h.lv
  have w := Nat.mul_le_mul_left 62 h.wt
  omega
theorem Okd.fits {D W : Nat} {x : PyData} (h : Okd D W x) (hW : W ≤ 270000) : x.shown.length ≤ sizeLine := by
  have q := h.len
  rw [sizeLine_eq]
  omega
theorem Okd.mono {D W D' W' : Nat} {x : PyData} (h : Okd D W x) (hD : D ≤ D') (hW : W ≤ W') : Okd D' W' x := ⟨h.sh, h.lv, Nat.le_trans h.dp hD, Nat.le_trans h.wt hW, h.low⟩
theorem okd_non {D W : Nat} : Okd D W .none := ⟨rfl, rfl, by simp [PyData.depth], by simp [PyData.weight], fun _ h => nomatch h⟩
theorem okd_bool {D W : Nat} {b : Bool} : Okd D W (.bool b) := ⟨rfl, rfl, by simp [PyData.depth], by simp [PyData.weight], fun _ h => nomatch h⟩
def Low (z : Str) : Prop := ∀ c ∈ z.cps.toList, c < 128
theorem okd_str {D W : Nat} {z : Str} (h : Low z) (hW : z.length ≤ W) : Okd D W (.str z) := by
  refine ⟨rfl, ?_, by simp [PyData.depth], ?_, fun y e => by cases e; exact h⟩
  · simp only [PyData.leavesShort, List.all_eq_true, decide_eq_true_eq]
    intro c hc
    exact Nat.lt_of_lt_of_le (h c hc) (by decide)
  · simp only [PyData.weight]
    exact hW
theorem Okd.strLen {D W : Nat} {z : Str} (h : Okd D W (.str z)) : z.length ≤ W := by
  have q := h.wt
  simp only [PyData.weight] at q
  exact q
end FA
end

/-! G6 -/
section
namespace FA
open PySem PySem.Spec PyProof.Rows L2

theorem okd_int {D W : Nat} {i : Int} (h : i.natAbs < 10 ^ 40) (hW : 140 ≤ W) : Okd D W (.int i) := by
  have hl : i.natAbs.log2 < 133 := by
    by_cases z : i.natAbs = 0
    · rw [z]; decide
    · exact (Nat.log2_lt z).mpr (Nat.lt_of_lt_of_le h (by decide))
  refine ⟨?_, ?_, by simp [PyData.depth], ?_, fun _ h => nomatch h⟩
  · simp only [PyData.showable, decide_eq_true_eq]
    omega
  · simp only [PyData.leavesShort, decide_eq_true_eq]
    have e := int_text_length_le10 (k := 40) (by decide) h
    have e2 : (PyData.shown (.int i)).length = (toString i).length := by
      show (Str.ofString (toString i)).length = _
      rw [PySem.ofString_length]
      try rfl
    rw [e2]
    omega
  · simp only [PyData.weight]
    split <;> omega
/-- lists, tuples of such -/
structure Oks (D W : Nat) (xs : List PyData) : Prop where
  sh : PyData.showableAll xs = true
  lv : PyData.leavesShortAll 60 xs = true
  dp : PyData.depthAll xs ≤ D
  wt : PyData.weightAll xs ≤ W
theorem oks_nil {D W : Nat} : Oks D W [] := ⟨rfl, rfl, by simp [PyData.depthAll], by simp [PyData.weightAll]⟩
theorem oks_cons {D W V : Nat} {x : PyData} {xs : List PyData} (h : Okd D W x) (r : Oks D V xs) : Oks D (W + 1 + V) (x :: xs) := by
  refine ⟨?_, ?_, ?_, ?_⟩
  · simp only [PyData.showableAll, h.sh, r.sh, Bool.and_self]
  · simp only [PyData.leavesShortAll, h.lv, r.lv, Bool.and_self]
  · simp only [PyData.depthAll]
    exact Nat.max_le.mpr ⟨h.dp, r.dp⟩
  · simp only [PyData.weightAll]
    have := h.wt
    have := r.wt
    omega
theorem Oks.mono {D W D' W' : Nat} {x : List PyData} (h : Oks D W x) (hD : D ≤ D') (hW : W ≤ W') : Oks D' W' x := ⟨h.sh, h.lv, Nat.le_trans h.dp hD, Nat.le_trans h.wt hW⟩
theorem oks_all {D W : Nat} : ∀ {xs : List PyData}, (∀ x ∈ xs, Okd D W x) → Oks D ((W + 1) * xs.length) xs
  | [], _ => oks_nil
  | x :: xs, h => by
    have r := oks_all (xs := xs) (fun y hy => h y (List.mem_cons_of_mem _ hy))
    refine (oks_cons (h x List.mem_cons_self) r).mono (Nat.le_refl _) ?_
    rw [List.length_cons, Nat.mul_add, Nat.mul_one]
    omega
theorem okd_list {D W : Nat} {xs : List PyData} (h : Oks D W xs) : Okd (D + 1) W (.list xs) := by
  refine ⟨by simpa [PyData.showable] using h.sh, by simpa [PyData.leavesShort] using h.lv, ?_, ?_, fun _ h => nomatch h⟩
  · simp only [PyData.depth]
    exact Nat.succ_le_succ h.dp
  · simp only [PyData.weight]
    exact h.wt
theorem okd_tuple {D W : Nat} {xs : List PyData} (h : Oks D W xs) : Okd (D + 1) W (.tuple xs) := by
  refine ⟨by simpa [PyData.showable] using h.sh, by simpa [PyData.leavesShort] using h.lv, ?_, ?_, fun _ h => nomatch h⟩
  · simp only [PyData.depth]
    exact Nat.succ_le_succ h.dp
  · simp only [PyData.weight]
    exact h.wt
theorem okd_dict0 {D W : Nat} : Okd (D + 1) W (.dict []) := ⟨rfl, rfl, by simp [PyData.depth, PyData.depthKv], by simp [PyData.weight, PyData.weightKv], fun _ h => nomatch h⟩
theorem okd_dict1 {D W V : Nat} {k x : PyData} (hk : Okd D W k) (h : Okd D V x) : Okd (D + 1) (W + V + 2) (.dict [(k, x)]) := by
  refine ⟨?_, ?_, ?_, ?_, fun _ h => nomatch h⟩
  · simp only [PyData.showable, PyData.showableKv, hk.sh, h.sh, Bool.and_self]
  · simp only [PyData.leavesShort, PyData.leavesShortKv, hk.lv, h.lv, Bool.and_self]
  · simp only [PyData.depth, PyData.depthKv]
    exact Nat.succ_le_succ (Nat.max_le.mpr ⟨Nat.max_le.mpr ⟨hk.dp, h.dp⟩, Nat.zero_le _⟩)
  · simp only [PyData.weight, PyData.weightKv]
    have := h.wt
    have := hk.wt
    omega

/-! the deck and what stands beside it -/
def hid (d c : Addr) (H : Hp) : Hp := fun b => if b = d ∨ b = c then none else H b
theorem hid_ne {d c b : Addr} {H : Hp} (h1 : b ≠ d) (h2 : b ≠ c) : hid d c H b = H b := if_neg (by rintro (z | z); exact h1 z; exact h2 z)
theorem hid_some {d c b : Addr} {H : Hp} {o : HO} (h : hid d c H b = some o) : b ≠ d ∧ b ≠ c ∧ H b = some o := by
  unfold hid at h
  by_cases z : b = d ∨ b = c
  · rw [if_pos z] at h; cases h
  · rw [if_neg z] at h
    exact ⟨fun e => z (Or.inl e), fun e => z (Or.inr e), h⟩
theorem hid_sub {d c : Addr} {H : Hp} : Same (hid d c H) H := fun b o h => (hid_some h).2.2
theorem hid_same {d c : Addr} {H H' : Hp} (s : Same H H') : Same (hid d c H) (hid d c H') := fun b o h => by
  obtain ⟨h1, h2, h3⟩ := hid_some h
  rw [hid_ne h1 h2]
  exact s b o h3
/-- only d or c is written -/
theorem hid_upd {d c a : Addr} {H : Hp} {o : HO} (h : a = d ∨ a = c) : hid d c (upd H a o) = hid d c H := by
  funext b
  unfold hid
  by_cases z : b = d ∨ b = c
  · rw [if_pos z, if_pos z]
  · rw [if_neg z, if_neg z]
    exact upd_ne fun e => z (by rw [e]; exact h)
theorem hid_at {d c p : Addr} {H : Hp} {o : HO} (h1 : p ≠ d) (h2 : p ≠ c) : hid d c (upd H p o) p = some o := by
  rw [hid_ne h1 h2, upd_same]

def deckKvs (c : Addr) (t n : Int) : List (Key × V) := [(.inr "cells", .ref c), (.inr "total", .int t), (.inr "draws", .int n)]
/-- a deck at d, its cells at c, at most n draws so far -/
structure Deck (H : Hp) (d c : Addr) (n : Nat) : Prop where
  is : ∃ (t m : Int) (cs : List Int), H d = some (.dK (deckKvs c t m)) ∧ H c = some (.lst (cs.map V.int)) ∧ cs.length ≤ 63 ∧ 0 ≤ m ∧ m ≤ n
theorem Deck.same {H H' : Hp} {d c : Addr} {n : Nat} (D : Deck H d c n) (s : Same H H') : Deck H' d c n := by
  obtain ⟨t, m, cs, h1, h2, h⟩ := D.is
  exact ⟨t, m, cs, s _ _ h1, s _ _ h2, h⟩
theorem Deck.mono {H : Hp} {d c : Addr} {n k : Nat} (D : Deck H d c n) (h : n ≤ k) : Deck H d c k := by
  obtain ⟨t, m, cs, h1, h2, h3, h4, h5⟩ := D.is
  exact ⟨t, m, cs, h1, h2, h3, h4, by omega⟩
theorem Deck.ne {H : Hp} {d c p : Addr} {n : Nat} (D : Deck H d c n) (h : H p = none) : p ≠ d ∧ p ≠ c := by
  obtain ⟨t, m, cs, h1, h2, _⟩ := D.is
  exact ⟨fun e => (by rw [e, h1] at h; cases h), fun e => (by rw [e, h2] at h; cases h)⟩
theorem Deck.dc {H : Hp} {d c : Addr} {n : Nat} (D : Deck H d c n) : d ≠ c := by
  obtain ⟨t, m, cs, h1, h2, _⟩ := D.is
  exact ne_of h1 h2 (by intro z; cases z)
/-- a draw's promise -/
def spDraw : Sp := fun vs H Q _ => ∃ (d c : Addr) (n : Nat) (m : Int), vs = [.ref d, .int m] ∧ Deck H d c n ∧ n ≤ 1000000 ∧ 0 < m ∧ m.natAbs < 2 ^ 64 ∧
  ∀ r H', 0 ≤ r → r < m → Deck H' d c (n + 1) → Same (hid d c H) (hid d c H') → Q (.int r) H'
/-- a pick's: of a list, of a text -/
def spPick : Sp := fun vs H Q _ => ∃ (d c : Addr) (n : Nat) (u : V), vs = [.ref d, u] ∧ Deck H d c n ∧ n ≤ 1000000 ∧
  ((∃ a xs, u = .ref a ∧ hid d c H a = some (.lst xs) ∧ 0 < xs.length ∧ xs.length ≤ 1000000 ∧
      ∀ (j : Nat) x H', xs[j]? = some x → Deck H' d c (n + 1) → Same (hid d c H) (hid d c H') → Q x H') ∨
   (∃ z, u = .str z ∧ 0 < z.length ∧ z.length ≤ 1000000 ∧
      ∀ k H', k ∈ z.cps.toList → Deck H' d c (n + 1) → Same (hid d c H) (hid d c H') → Q (.str ⟨#[k]⟩) H'))
end FA
namespace FA
open PySem PySem.Spec PyProof.Rows L2
theorem emb (a : Int) {m : Int} (h : 0 < m) (h2 : m < 2 ^ 64) : -(2 ^ 64) < a % m ∧ a % m < 2 ^ 64 := by
  have h0 := Int.emod_nonneg a (Int.ne_of_gt h)
  have h1 := Int.emod_lt_of_pos a h
  omega
theorem dk_cells {c : Addr} {t n : Int} : valV (deckKvs c t n) (Sum.inr "cells") = some (.ref c) := by kernel_rfl
theorem dk_total {c : Addr} {t n : Int} : valV (deckKvs c t n) (Sum.inr "total") = some (.int t) := by kernel_rfl
theorem dk_draws {c : Addr} {t n : Int} : valV (deckKvs c t n) (Sum.inr "draws") = some (.int n) := by kernel_rfl
theorem dk_put {c : Addr} {t n k : Int} : putK (deckKvs c t n) (Sum.inr "draws") (.int k) = deckKvs c t k := by kernel_rfl
theorem dk_merge {c : Addr} {t n : Int} : mergeK [] (deckKvs c t n) = deckKvs c t n := by kernel_rfl
theorem dg_cells {H : Hp} {d c : Addr} {t n : Int} (h : H d = some (.dK (deckKvs c t n))) : DGet H d (.str "cells") (some (.ref c)) := by
  have z := DGet.k (k := Sum.inr "cells") h
  rw [dk_cells] at z
  exact z
theorem dg_total {H : Hp} {d c : Addr} {t n : Int} (h : H d = some (.dK (deckKvs c t n))) : DGet H d (.str "total") (some (.int t)) := by
  have z := DGet.k (k := Sum.inr "total") h
  rw [dk_total] at z
  exact z
theorem dg_draws {H : Hp} {d c : Addr} {t n : Int} (h : H d = some (.dK (deckKvs c t n))) : DGet H d (.str "draws") (some (.int n)) := by
  have z := DGet.k (k := Sum.inr "draws") h
  rw [dk_draws] at z
  exact z
theorem dp_draws {H : Hp} {d c : Addr} {t n k : Int} (h : H d = some (.dK (deckKvs c t n))) : DPut H d (.str "draws") (.int k) (upd H d (.dK (deckKvs c t k))) := by
  have z := DPut.k (k := Sum.inr "draws") (v := .int k) h (by show 3 < sizeLine; decide)
  rw [dk_put] at z
  exact z
theorem ints_canLay : ∀ cs : List Int, PyData.canLayAll0 (cs.map PyData.int) = true
  | [] => rfl
  | c :: r => by
    have := ints_canLay r
    simp only [List.map_cons, PyData.canLayAll0, this, Bool.and_true]
    rfl
theorem ints_depth : ∀ cs : List Int, PyData.depthAll (cs.map PyData.int) = 0
  | [] => rfl
  | c :: r => by
    simp only [List.map_cons, PyData.depthAll, ints_depth r, PyData.depth, Nat.max_self]
theorem ints_shaped (cs : List Int) : SeqAt.shaped (.list (cs.map PyData.int)) = true := by
  unfold SeqAt.shaped
  rw [Bool.and_eq_true]
  refine ⟨?_, decide_eq_true ?_⟩
  · simp only [PyData.canLay0, ints_canLay]
  · simp only [PyData.depth, ints_depth]
    decide
theorem ints_dp {K : PySem.W.Frag} {H : Hp} : ∀ cs : List Int, DpAll K H (cs.map V.int) (cs.map PyData.int)
  | [] => .nil
  | c :: r => .cons (.int c) (ints_dp r)
end FA
end

/-! G7 -/
section
namespace FA
open PySem PySem.Spec PyProof.Rows L2

theorem low_of {z : Str} (h : z.cps.toList.all (fun c => decide (c < 128)) = true) : Low z := fun c hc => of_decide_eq_true (List.all_eq_true.mp h c hc)
theorem low_app {x y : Str} (hx : Low x) (hy : Low y) : Low (x ++ y) := by
  intro c hc
  rw [Str.cps_append, Array.toList_append] at hc
  rcases List.mem_append.mp hc with h | h
  · exact hx c h
  · exact hy c h
theorem low_join {s : Str} (hs : Low s) : ∀ {zs : List Str}, (∀ z ∈ zs, Low z) → Low (Str.join s zs)
  | [], _ => fun c hc => by simp [Str.join, Str.empty] at hc
  | [x], h => h x List.mem_cons_self
  | x :: y :: r, h => low_app (low_app (h x List.mem_cons_self) hs) (low_join hs fun z hz => h z (List.mem_cons_of_mem _ hz))
theorem low_cut {z : Str} (h : Low z) (lo hi : Option Int) : Low (cutS z lo hi) := by
  intro c hc
  unfold cutS at hc
  exact h c (List.mem_of_mem_drop (List.mem_of_mem_take (by simpa using hc)))
theorem low_one {z : Str} {k : Nat} (h : Low z) (hk : k ∈ z.cps.toList) : Low ⟨#[k]⟩ := by
  intro c hc
  have : c = k := by simpa using hc
  subst this
  exact h c hk
theorem cut_le (z : Str) (lo hi : Option Int) : (cutS z lo hi).length ≤ z.length := by
  unfold cutS
  show (List.toArray _).size ≤ z.cps.size
  rw [List.size_toArray, List.length_take, List.length_drop, Array.length_toList]
  omega
theorem cut_8 (z : Str) : (cutS z none (some 8)).length ≤ 8 := by
  unfold cutS
  show (List.toArray _).size ≤ 8
  rw [List.size_toArray, List.length_take]
  have e : HT.sIx z.length z.length (some 8) = min 8 z.length := HT.sIx_nat z.length z.length 8
  rw [e]
  omega
theorem hid_mut {d c p : Addr} {H H1 : Hp} {o : HO} (s : Same (hid d c H) (hid d c H1)) (h : H p = none) (h1 : p ≠ d) (h2 : p ≠ c) : Same (hid d c H) (hid d c (upd H1 p o)) := by
  intro b u hb
  obtain ⟨a1, a2, a3⟩ := hid_some hb
  have bp : b ≠ p := ne_of_none a3 h
  rw [hid_ne a1 a2, upd_ne bp, ← hid_ne a1 a2 (H := H1)]
  exact s b u hb
theorem Deck.upd {H : Hp} {d c p : Addr} {n : Nat} {o : HO} (D : Deck H d c n) (h1 : p ≠ d) (h2 : p ≠ c) : Deck (L2.upd H p o) d c n := by
  obtain ⟨t, m, cs, e1, e2, h⟩ := D.is
  exact ⟨t, m, cs, by rw [upd_ne h1.symm]; exact e1, by rw [upd_ne h2.symm]; exact e2, h⟩
end FA
namespace FA
open PySem PySem.Spec PyProof.Rows L2
theorem mem_rep {a : Array Nat} {c : Nat} : ∀ (k : Nat) (acc : Array Nat), c ∈ (((List.replicate k a).foldl (· ++ ·) acc).toList) → c ∈ acc.toList ∨ c ∈ a.toList
  | 0, acc, h => Or.inl h
  | k + 1, acc, h => by
    rw [List.replicate_succ, List.foldl_cons] at h
    rcases mem_rep k (acc ++ a) h with h | h
    · rw [Array.toList_append] at h
      exact (List.mem_append.mp h)
    · exact Or.inr h
theorem low_mul {z : Str} (h : Low z) (n : Int) : Low (Txt.mul z n) := by
  intro c hc
  unfold Txt.mul at hc
  split at hc
  · simp [Str.empty] at hc
  · split at hc
    · exact h c hc
    · rcases mem_rep _ _ hc with q | q
      · simp at q
      · exact h c q
theorem mul_ok {z : Str} {n : Int} (hz : z.length ≤ 100) (h0 : 0 < n) (h1 : n ≤ 10000) : PySem.MulOk z n := by
  refine ⟨?_, fun _ _ => ?_, fun _ _ => ?_⟩
  · rw [decide_eq_false (by omega), decide_eq_false (by omega)]
    rfl
  · have : 100 ≤ (2 ^ 63 - 1) / n := by
      refine Int.le_ediv_of_mul_le h0 ?_
      omega
    omega
  · have h2 : n.toNat ≤ 10000 := by omega
    have : z.length * n.toNat ≤ 100 * 10000 := Nat.mul_le_mul hz h2
    have e : Builtin.Str.tooLong (z.length * n.toNat) = false := by
      unfold Builtin.Str.tooLong
      exact decide_eq_false (by rw [sizeLine_eq]; omega)
    exact e
/-- what has come since H -/
def frs (H H' : Hp) : Hp := fun b => match H b with
  | none => H' b
  | some _ => none
theorem frs_new {H H' : Hp} {b : Addr} (h : H b = none) : frs H H' b = H' b := by
  unfold frs
  rw [h]
theorem frs_some {H H' : Hp} {b : Addr} {o : HO} (h : frs H H' b = some o) : H b = none ∧ H' b = some o := by
  unfold frs at h
  cases e : H b with
  | none => rw [e] at h; exact ⟨rfl, h⟩
  | some u => rw [e] at h; cases h
/-- all that was tracked still is -/
def Dm (H H' : Hp) : Prop := ∀ b, H' b = none → H b = none
theorem dm_same {H H' : Hp} (s : Same H H') : Dm H H' := fun b h => s.free h
theorem dm_of {H H' : Hp} {d c : Addr} {n : Nat} (D : Deck H' d c n) (s : Same (hid d c H) (hid d c H')) : Dm H H' := fun b h => by
  obtain ⟨h1, h2⟩ := D.ne h
  have q := s.free (l := b) (by rw [hid_ne h1 h2]; exact h)
  rw [hid_ne h1 h2] at q
  exact q
theorem Dm.trans {H H1 H2 : Hp} (a : Dm H H1) (b : Dm H1 H2) : Dm H H2 := fun x h => a x (b x h)
theorem frs_sub {H H' : Hp} : Same (frs H H') H' := fun b o h => (frs_some h).2
theorem frs_back {H0 H H' : Hp} (m : Dm H0 H) : Same (frs H H') (frs H0 H') := fun b o h => by
  obtain ⟨h1, h2⟩ := frs_some h
  rw [frs_new (m b h1)]
  exact h2
theorem frs_on {H H1 H2 : Hp} {d c : Addr} {n : Nat} (D : Deck H d c n) (s : Same (hid d c H1) (hid d c H2)) : Same (frs H H1) (frs H H2) := fun b o h => by
  obtain ⟨h1, h2⟩ := frs_some h
  obtain ⟨a1, a2⟩ := D.ne h1
  rw [frs_new h1, ← hid_ne a1 a2 (H := H2)]
  exact s b o (by rw [hid_ne a1 a2]; exact h2)
theorem frs_hid {H H' : Hp} {d c : Addr} {n : Nat} (D : Deck H d c n) : Same (frs H H') (hid d c H') := fun b o h => by
  obtain ⟨h1, h2⟩ := frs_some h
  obtain ⟨a1, a2⟩ := D.ne h1
  rw [hid_ne a1 a2]
  exact h2
/-- a write to what was there is not seen -/
theorem frs_old {H H' : Hp} {p : Addr} {o u : HO} (h : H p = some u) : frs H (upd H' p o) = frs H H' := by
  funext b
  unfold frs
  cases e : H b with
  | some _ => rfl
  | none => exact upd_ne fun z => by rw [z, h] at e; cases e
theorem frs_up {H H' : Hp} {p : Addr} {o : HO} (h : H' p = none) : Same (frs H H') (frs H (upd H' p o)) := fun b u q => by
  obtain ⟨h1, h2⟩ := frs_some q
  rw [frs_new h1, upd_ne (ne_of_none h2 h)]
  exact h2
theorem datAll_snoc {H : Hp} : ∀ {ds : List PyData} {xs : List V} {d : PyData} {y : V}, DatAll H ds xs → Dat H d y → DatAll H (ds ++ [d]) (xs ++ [y])
  | [], xs, d, y, h, q => by
    simp only [DatAll] at h
    subst h
    simp only [List.nil_append, DatAll]
    exact ⟨y, [], rfl, q, rfl⟩
  | e :: ds, xs, d, y, h, q => by
    simp only [DatAll] at h
    obtain ⟨z, zs, rfl, h1, h2⟩ := h
    simp only [List.cons_append, DatAll]
    exact ⟨z, zs ++ [y], rfl, h1, datAll_snoc h2 q⟩
end FA
end

/-! G8 -/
section
namespace FA
open PySem PySem.Spec PyProof.Rows L2
section
variable {X : Cx}
/-- the order of data of one shape -/
def rLtD : R2 := fun x y H Q => ∃ d e, Dat H d x ∧ Dat H e y ∧ PySem.W.alike d e = true ∧ d ≠ .none ∧ d.depth ≤ 60 ∧ Q (.bl (PySem.W.dataLt d e)) H
theorem opLtD {k : Nat} (hr : Room k X.A) : OpR X (compareOp .Lt) rLtD := by
  intro pins s σ H x y v u Q I rx ry h
  obtain ⟨d, e, hd, he, ha, hn, hdp, q⟩ := h
  obtain ⟨as, r1, _⟩ := reads_of I.hok d _ _ hd rx
  obtain ⟨bs, r2, _⟩ := reads_of I.hok e _ _ he ry
  have hu := hr.units
  have hm : min d.depth e.depth ≤ d.depth := Nat.min_le_left _ _
  exact PySem.W.rcLt_alike d e X.A s _ _ as bs r1 r2 ha hn (by omega) _ _ _ _ ⟨.bl _, H, I, rfl, q⟩
end
/-- what repr asks -/
structure Rp (d : PyData) : Prop where
  sh : d.showable = true
  dp : d.depth ≤ 60
  ln : d.shown.length ≤ sizeLine
theorem Okd.rp {D W : Nat} {d : PyData} (h : Okd D W d) (hD : D ≤ 60) (hW : W ≤ 270000) : Rp d := ⟨h.sh, Nat.le_trans h.dp hD, h.fits hW⟩
theorem rp_bools (a b c e : Bool) : Rp (.list [.bool a, .bool b, .bool c, .bool e]) :=
  Okd.rp (okd_list (oks_cons (W := 0) okd_bool (oks_cons (W := 0) okd_bool (oks_cons (W := 0) okd_bool (oks_cons (W := 0) okd_bool (oks_nil (D := 0) (W := 0))))))) (by decide) (by decide)
theorem rp_bools3 (a b c : Bool) : Rp (.list [.bool a, .bool b, .bool c]) :=
  Okd.rp (okd_list (oks_cons (W := 0) okd_bool (oks_cons (W := 0) okd_bool (oks_cons (W := 0) okd_bool (oks_nil (D := 0) (W := 0)))))) (by decide) (by decide)
theorem rp_strs2 {a b : Str} (ha : Low a) (hb : Low b) (la : a.length ≤ 100) (lb : b.length ≤ 100) : Rp (.list [.str a, .str b]) :=
  Okd.rp (okd_list (oks_cons (okd_str ha la) (oks_cons (okd_str hb lb) (oks_nil (D := 0) (W := 0))))) (by decide) (by decide)
theorem strEq {x y : Str} (h : x = y) : (!decide (V.str x = V.str y)) = false := by rw [h, decide_eq_true rfl]; rfl
end FA
end

/-! E1 -/
section
namespace FA
open PySem PySem.Spec PyProof.Rows L2
/-! exceptions of the program's own over Exception: made, stored in, read, asked -/
abbrev exT : List Value := [.type "Exception", .type "BaseException", .type "object"]
structure Ecl (K : PySem.W.Frag) (C : Addr) : Prop where
  ini : PySem.W.excInitIn K C exT "Exception.__new__" = true
  over : PySem.W.excOver K C exT = true
  sa : PySem.W.findIn K (.ref C) "__setattr__" = some (some (.builtin "object.__setattr__"))
  hd : PySem.W.hasDictIn K C = true
  ga : PySem.W.findIn K (.ref C) "__getattribute__" = some (some (.builtin "BaseException.__getattribute__"))
  gg : PySem.W.findIn K (.ref C) "__getattr__" = some none
  exC : PySem.W.subIn K (.ref C) (.type "BaseException") = some true
  tyC : PySem.W.typeIn K (.ref C) = some (.type "type")
  kC : PySem.W.keepIn K (.ref C) = true
  cA : PySem.W.findIn K (.ref C) "__class__" = some (some (.builtin "object.__class__"))
  cG : PySem.W.specialIn K (.builtin "object.__class__") "__get__" = some (some (.builtin "getset_descriptor.__get__"))
  cT : PySem.W.takesIn K (.builtin "object.__class__") = some true
  ob : PySem.W.mroIn K C (.type "object") = some true
def eclB (K : PySem.W.Frag) (C : Addr) : Bool :=
  PySem.W.excInitIn K C exT "Exception.__new__" && (PySem.W.excOver K C exT &&
  (He.eqO (PySem.W.findIn K (.ref C) "__setattr__") (some (some (.builtin "object.__setattr__"))) && (PySem.W.hasDictIn K C &&
  (He.eqO (PySem.W.findIn K (.ref C) "__getattribute__") (some (some (.builtin "BaseException.__getattribute__"))) &&
  (He.eqO (PySem.W.findIn K (.ref C) "__getattr__") (some none) && (decide (PySem.W.subIn K (.ref C) (.type "BaseException") = some true) &&
  (decide (PySem.W.typeIn K (.ref C) = some (.type "type")) && (PySem.W.keepIn K (.ref C) &&
  (He.eqO (PySem.W.findIn K (.ref C) "__class__") (some (some (.builtin "object.__class__"))) &&
  (He.eqO (PySem.W.specialIn K (.builtin "object.__class__") "__get__") (some (some (.builtin "getset_descriptor.__get__"))) &&
  (decide (PySem.W.takesIn K (.builtin "object.__class__") = some true) && decide (PySem.W.mroIn K C (.type "object") = some true))))))))))))
theorem eclB_ok {K : PySem.W.Frag} {C : Addr} (h : eclB K C = true) : Ecl K C := by
  simp only [eclB, Bool.and_eq_true, decide_eq_true_eq] at h
  obtain ⟨a, b, c, d, e, f, g, i, j, k, l, m, n⟩ := h
  exact ⟨a, b, He.eqO_ok c, d, He.eqO_ok e, He.eqO_ok f, g, i, j, He.eqO_ok k, He.eqO_ok l, m, n⟩
section
variable {prog : Program} {w : World} {A : Around} {K : PySem.W.Frag} {C x : Addr} {s : Shared} {name : Str} {tk : Tok} {v : Value}
theorem taker {K : PySem.W.Frag} {C : Addr} {name : Str} (h : PySem.W.findIn K (.ref C) name = some none) : PySem.W.takerIn K C name = some none := by
  simp only [PySem.W.takerIn, h, Option.bind_some]
theorem ecl_dict {K : PySem.W.Frag} {C : Addr} (T : Ecl K C) : ∃ cd, PySem.W.clsIn K C = some cd ∧ cd.hasDict = true := by
  have h := T.hd
  unfold PySem.W.hasDictIn at h
  obtain ⟨cd, e, z⟩ := PySem.W.any_some h
  exact ⟨cd, e, z⟩
theorem eosa_new {hp : Heap} {g : Array GenState} {d : Drawn} {t : Nat} {os : OsState} {fv : Array Value} {R : Result → Shared → Prop}
    (T : Ecl K C) (kin : K.In hp) (e : hp.get? x = some { cls := .ref C, data := .fields fv }) (hno : PySem.W.findIn K (.ref C) name = some none)
    (k : ∀ (h' : Heap) (tk' dx : Nat), (∀ b o, b ≠ x → hp.get? b = some o → h'.get? b = some o) → hp.objs.size ≤ dx → dx ≠ x →
      h'.get? x = some { cls := .ref C, dict := some dx, data := .fields fv } → (h'.Ns1 dx fun y => if y = name then some v else none) →
      R (.ok (.ret .none)) { heap := h', gens := g, drawn := d, toks := tk', os := os }) :
    codeAny (model prog w) A (.call (.builtin "object.__setattr__") ⟨[.ref x, .str name tk, v], []⟩) R { heap := hp, gens := g, drawn := d, toks := t, os := os } := by
  obtain ⟨cd, hcd, hdict⟩ := ecl_dict T
  have I : PySem.W.InstAt hp x { cls := .ref C, data := .fields fv } C none := ⟨e, rfl, rfl, trivial⟩
  refine PySem.W.osa_openX (r := none) F.store_Exception kin I T.over (taker hno) fun b => ?_
  show wpAny (model prog w) A.in1 (Builtin.ObjectAttr.storeInOwnDict (.ref x) (.ref C) (.str name tk) name v b) _ _ _
  unfold Builtin.ObjectAttr.storeInOwnDict
  have hx : hp.objs.size ≠ x := Nat.ne_of_gt (Heap.lt_size e)
  refine wpAny_bind (wpAny_pure ?_)
  refine wpAny_ite_false (by rfl) ?_
  refine wpAny_bind ?_
  show wpAny _ _ (instanceDict x true) _ _ _
  unfold instanceDict
  refine wpAny_bind (wpAny_loadPart_at e ?_)
  refine wpAny_bind ((PySem.W.looks_clsIn kin hcd).at ?_)
  refine wpAny_ite_false (by rw [hdict]; rfl) ?_
  refine wpAny_ite_false (by rfl) ?_
  refine wpAny_bind (wpAny_alloc' ?_)
  refine wpAny_bind (wpAny_update' (Heap.get?_push_of_some _ e) ?_)
  refine wpAny_pure ?_
  have nd : hp.objs.size ≠ x := hx
  have ed : ((hp.push { cls := .type "dict", data := .dict #[] }).update x fun o => { cls := o.cls, dict := some hp.objs.size, data := o.data, slots := o.slots }).get? hp.objs.size = some { cls := .type "dict", data := .dict #[] } := by
    rw [Heap.get?_update_ne _ _ _ _ nd]
    exact Heap.get?_push_at rfl rfl
  refine PX.store_in_new ⟨_, #[], _, ed, rfl, fun _ h => absurd h (by simp), fun _ => rfl⟩ fun h' tk' n1 sb => ?_
  have keep : ∀ b o, b ≠ x → hp.get? b = some o → h'.get? b = some o := fun b o nb eb => by
    have nbd : b ≠ hp.objs.size := Nat.ne_of_lt (Heap.lt_size eb)
    rw [sb.2 b nbd, Heap.get?_update_ne _ _ _ _ nb]
    exact Heap.get?_push_of_some _ eb
  refine k h' tk' hp.objs.size keep (Nat.le_refl _) nd ?_ n1
  rw [sb.2 x nd.symm]
  exact Heap.get?_update_self _ (Heap.get?_push_of_some _ e) rfl
theorem eosa_old {hp : Heap} {g : Array GenState} {d : Drawn} {t : Nat} {os : OsState} {fv : Array Value} {dx : Addr} {m0 : Str → Option Value} {nl : List Str} {R : Result → Shared → Prop}
    (T : Ecl K C) (kin : K.In hp) (e : hp.get? x = some { cls := .ref C, dict := some dx, data := .fields fv }) (n1 : hp.Ns1 dx m0) (wi : PySem.Within m0 nl) (hl : nl.length ≤ 1000)
    (hno : PySem.W.findIn K (.ref C) name = some none)
    (k : ∀ (h' : Heap) (tk' : Nat), (∀ b o, b ≠ dx → hp.get? b = some o → h'.get? b = some o) → (h'.Ns1 dx fun y => if y = name then some v else m0 y) →
      R (.ok (.ret .none)) { heap := h', gens := g, drawn := d, toks := tk', os := os }) :
    codeAny (model prog w) A (.call (.builtin "object.__setattr__") ⟨[.ref x, .str name tk, v], []⟩) R { heap := hp, gens := g, drawn := d, toks := t, os := os } := by
  obtain ⟨cd, hcd, hdict⟩ := ecl_dict T
  obtain ⟨od, es, ep, eod, _⟩ := id n1
  have I : PySem.W.InstAt hp x { cls := .ref C, dict := some dx, data := .fields fv } C (some od) := ⟨e, rfl, rfl, eod⟩
  refine PySem.W.osa_openX (r := none) F.store_Exception kin I T.over (taker hno) fun b => ?_
  show wpAny (model prog w) A.in1 (Builtin.ObjectAttr.storeInOwnDict (.ref x) (.ref C) (.str name tk) name v b) _ _ _
  unfold Builtin.ObjectAttr.storeInOwnDict
  refine wpAny_bind (wpAny_pure ?_)
  refine wpAny_ite_false (by rfl) ?_
  refine wpAny_bind ?_
  show wpAny _ _ (instanceDict x true) _ _ _
  unfold instanceDict
  refine wpAny_bind (wpAny_loadPart_at e ?_)
  refine wpAny_bind ((PySem.W.looks_clsIn kin hcd).at ?_)
  refine wpAny_ite_false (by rw [hdict]; rfl) ?_
  refine wpAny_pure ?_
  exact PX.store_in_old n1 wi hl fun h' tk' n2 sb => k h' tk' (fun b o nb eb => by rw [sb.2 b nb]; exact eb) n2
end
/-! over the layer's heap -/
section
variable {X : Cx} {pins : List (Addr × Obj)} {σ : L2.St} {H : Hp} {s : Shared} {a C : Addr} {f : Str} {y : V} {u : Value}
  {Q : Unit → Shared → Prop} {E : Value → Shared → Prop} {A : Around}
theorem est_new (T : Ecl X.K C) (I : Inv X pins σ H s) (ha : H a = some (exo a C none)) (hno : PySem.W.findIn X.K (.ref C) f = some none) (r : RelV y u)
    (k : ∀ (dx : Addr) (s' : Shared), H dx = none → dx ≠ a → Inv X pins σ (upd (upd H dx (exd dx [(f, y)])) a (exo a C (some dx))) s' → Q () s') :
    wpAny (model X.prog X.w) A (setAttr (.ref a) f u) Q E s := by
  obtain ⟨t1, e⟩ := exo_at I.hok ha
  obtain ⟨hp, g, d, t, os⟩ := s
  refine PySem.W.set_plain (od := none) I.kIn ⟨e, rfl, rfl, trivial⟩ T.sa ?_
  refine eosa_new T I.kIn e hno fun h' tk' dx keep le ne ex n1 => ?_
  have hdx : H dx = none := I.hok.fresh le
  have fr : ∀ {b : Addr} {o : Obj}, hp.get? b = some o → b ≠ dx := fun q => Nat.ne_of_lt (Nat.lt_of_lt_of_le (Heap.lt_size q) le)
  have na : ∀ {b : Addr}, H b = none → b ≠ a := fun n z => by rw [z, ha] at n; cases n
  have up : ∀ {b : Addr} {z : HO}, H b = some z → b ≠ a → upd (upd H dx (exd dx [(f, y)])) a (exo a C (some dx)) b = some z := fun q n => by
    rw [upd_ne n, upd_ne (ne_of_none q hdx)]
    exact q
  have ext : ∀ {b : Addr} {z : HO}, H b = some z → (∀ P, z ≠ .ext P) → b ≠ a := fun q n z => by
    rw [z, ha] at q
    exact n _ (Option.some.inj q).symm
  have U : Un X.fs [] H (upd (upd H dx (exd dx [(f, y)])) a (exo a C (some dx))) hp h' := by
    refine ⟨fun b o q n _ _ => keep b o (na n) q, fun b o q n _ _ => ⟨o.slots, keep b o (na n) q⟩, fun b o q n _ => ?_, fun b o q _ => ?_, fun b xs q => up q (ext q fun _ => nofun),
      fun b o v q => up q (ext q fun _ => nofun), fun b ps q => ⟨#[], by rw [Array.append_empty]; exact up q (ext q fun _ => nofun)⟩⟩
    · rw [upd_ne (na n), upd_ne (fr q)]
      exact n
    · by_cases c : b = a
      · exact ⟨_, by rw [c]; exact ex⟩
      · exact ⟨o, keep b o c q⟩
  refine k dx _ hdx ne (I.un U fun b o q => ?_)
  by_cases c : b = a
  · subst c
    rw [upd_same] at q
    cases q
    exact exo_ok ex
  by_cases c2 : b = dx
  · subst c2
    rw [upd_ne c, upd_same] at q
    cases q
    exact exd_ok n1 (relO_put r fun _ => True.intro)
  rw [upd_ne c, upd_ne c2] at q
  exact ObjOk.stay (I.hok b o q) (fun e v he z => keep e v (he.elim (fun z => by rw [z]; exact c) fun z => ext z fun _ => nofun) z)
    (fun e he => up he (ext he fun _ => nofun)) fun e xs he => up he (ext he fun _ => nofun)
theorem est_old {dx : Addr} {fs : List (Str × V)} (T : Ecl X.K C) (I : Inv X pins σ H s) (ha : H a = some (exo a C (some dx))) (hx : H dx = some (exd dx fs)) (hl : fs.length ≤ 900)
    (hno : PySem.W.findIn X.K (.ref C) f = some none) (r : RelV y u)
    (k : ∀ (s' : Shared), Inv X pins σ (upd H dx (exd dx ((f, y) :: fs))) s' → Q () s') :
    wpAny (model X.prog X.w) A (setAttr (.ref a) f u) Q E s := by
  obtain ⟨t1, e⟩ := exo_at I.hok ha
  obtain ⟨mA, n1, rl⟩ := exd_at I.hok hx
  obtain ⟨od, es, ep, eod, _⟩ := id n1
  obtain ⟨hp, g, d, t, os⟩ := s
  refine PySem.W.set_plain (od := some od) I.kIn ⟨e, rfl, rfl, eod⟩ T.sa ?_
  refine eosa_old T I.kIn e n1 (within_of rl) (by rw [List.length_map]; omega) hno fun h' tk' keep n2 => ?_
  obtain ⟨od2, es2, ep2, eod2, _⟩ := id n2
  exact k _ (I.write (t' := tk') (by rw [hx]; trivial) (.inl rfl) keep ⟨_, eod2⟩ (exd_ok n2 (relO_put r rl)))
end
/-- self.f = e, self an exception of an own class -/
def tEst (K : PySem.W.Frag) (f : Str) (to te : TE) : TS := fun D σ H => te σ H fun y H1 => to σ H1 fun x H2 => ∃ a C, x = .ref a ∧ Ecl K C ∧ PySem.W.findIn K (.ref C) f = some none ∧
  ((H2 a = some (exo a C none) ∧ ∀ dx, H2 dx = none → dx ≠ a → D.nx σ (upd (upd H2 dx (exd dx [(f, y)])) a (exo a C (some dx)))) ∨
    ∃ dx fs, H2 a = some (exo a C (some dx)) ∧ H2 dx = some (exd dx fs) ∧ fs.length ≤ 900 ∧ D.nx σ (upd H2 dx (exd dx ((f, y) :: fs))))
theorem ps_est {X : Cx} {o e : Expr} {to te : TE} {f : Str} {p' pos : Pos} (ho : PE X o to) (he : PE X e te)
    (hs : swapsWith e (some (o.Attribute f p')) pos.line X.env = pure false := by rfl) : PS X (.Assign [o.Attribute f p'] e pos) (tEst X.K f to te) := by
  constructor
  intro pins s σ H D I h
  refine plainObj_wpAny_Assign_Attribute (thn (he.run pins s σ H _ I h) ?_) hs
  rintro v s1 ⟨y, H1, I1, r1, q1⟩
  refine thn (ho.run pins s1 σ H1 _ I1 q1) ?_
  rintro u s2 ⟨x, H2, I2, r2, a, C, rfl, T, hno, q⟩
  obtain rfl : u = .ref a := r2
  rcases q with ⟨ea, q⟩ | ⟨dx, fs, ea, ed, hl, q⟩
  · exact est_new T I2 ea hno r1 fun dx s' n ne J => ⟨σ, _, J, q dx n ne⟩
  · exact est_old T I2 ea ed hl hno r1 fun s' J => ⟨σ, _, J, q⟩
end FA
end

/-! E2 -/
section
namespace FA
open PySem PySem.Spec PyProof.Rows L2
section
variable {X : Cx} {k : Nat} {C fI : Addr} {fd : FuncData} {ps : List Str} {sp : Sp} {x : Str} {p pos : Pos} {e : Expr} {es : List Expr} {t : TA}
/-- C(..), an exception of an own class that its own __init__ fills -/
def tEmk (C : Addr) (sp : Sp) (t : TA) : TE := fun σ H Q => t σ H fun vs H1 => vs.length ≤ 1000 ∧ ∀ a, H1 a = none →
  sp (.ref a :: vs) (upd H1 a (exo a C none)) (fun v H2 => v = .non ∧ Q (.ref a) H2) E0
theorem mk_run {pins : List (Addr × Obj)} {σ : L2.St} {H : Hp} {s : Shared} {Q : VK} {us : List Value} {vs : List V}
    (T : Ecl X.K C) (hi : PySem.W.findIn X.K (.ref C) "__init__" = some (some (.ref fI))) (ht : PySem.W.typeIn X.K (.ref fI) = some (.type "function"))
    (G : FnG X.prog X.w X.K X.mg X.base CX0 k fI fd ps sp) (hgd : X.A.guards = some []) (hr : Room (k + 1) X.A) (hb : Binds X.K fd ps [])
    (I : Inv X pins σ H s) (r : Vals vs us) (hl : vs.length ≤ 1000)
    (h : ∀ a, H a = none → sp (.ref a :: vs) (upd H a (exo a C none)) (fun v H2 => v = .non ∧ Q (.ref a) H2) E0) :
    wpAny (model X.prog X.w) X.A (call (.ref C) us) (EP X pins σ Q) X.xe s := by
  obtain ⟨hp, g, d, tk, os⟩ := s
  obtain ⟨nm, N, qn, bs, bm, hdct, sn, sub, ab, col, dd, k0, k1, k2, k3, k5, hC, hcon⟩ := PySem.W.excInit_of I.kIn T.ini
  refine wpAny_call ?_
  have keep : ∀ b o, hp.get? b = some o → ((hp.push (PySem.W.kdv_tup us)).push (PX.excO C hp.objs.size)).get? b = some o := fun b o q => Heap.get?_push_of_some _ (Heap.get?_push_of_some _ q)
  have hn : H (hp.objs.size + 1) = none := I.hok.fresh (Nat.le_succ _)
  have at2 : ((hp.push (PySem.W.kdv_tup us)).push (PX.excO C hp.objs.size)).get? (hp.objs.size + 1) = some (PX.excO C hp.objs.size) := Heap.get?_push_at (by rw [Heap.size_push]) rfl
  have I2 : Inv X pins σ (upd H (hp.objs.size + 1) (exo (hp.objs.size + 1) C none)) { heap := (hp.push (PySem.W.kdv_tup us)).push (PX.excO C hp.objs.size), gens := g, drawn := d, toks := tk, os := os } :=
    I.laid keep (Nat.le_succ _) (exo_ok at2)
  have r2 : Vals (V.ref (hp.objs.size + 1) :: vs) (Value.ref (hp.objs.size + 1) :: us) := .cons rfl r
  have hsp := h _ hn
  have len : (Value.ref (hp.objs.size + 1) :: us).length = ps.length := r2.length.symm.trans (G.size _ _ _ _ hsp)
  have hlu : us.length ≤ sizeLine := by
    rw [← r.length, sizeLine_eq]
    omega
  refine PX.call_own F.excBase_Exception hcon hC (PySem.W.looks_findIn I.kIn hi) (fun self => PySem.W.bind_fn I.kIn self ht) hlu ?_
  have z := G.go (X.A.under (.builtin "type.__call__" { pos := .ref C :: us })) X.stack _ _ ⟨.ref (hp.objs.size + 1) :: us, []⟩ _ _ _ E0 (hr.make C us []) hgd (I2.env0.make C us []) (by have b := hb { heap := (hp.push (PySem.W.kdv_tup us)).push (PX.excO C hp.objs.size), gens := g, drawn := d, toks := tk, os := os } (.ref (hp.objs.size + 1) :: us) I2.kIn (by rw [List.append_nil]; exact len); rw [List.append_nil] at b; exact b) r2 hsp
  refine codeAny_mono z ?_
  intro r s' q
  cases r with
  | error e => exact q.elim
  | ok fl =>
    cases fl with
    | brk => exact q.elim
    | cont => exact q.elim
    | next => exact q.elim
    | ret u =>
      obtain ⟨v, H2, I3, rv, rfl, q2⟩ := I2.after q
      obtain rfl : u = .none := rv
      exact ⟨rfl, .ref _, _, I3, rfl, q2⟩
theorem pe_emk (T : Ecl X.K C) (hi : PySem.W.findIn X.K (.ref C) "__init__" = some (some (.ref fI))) (ht : PySem.W.typeIn X.K (.ref fI) = some (.type "function"))
    (G : FnG X.prog X.w X.K X.mg X.base CX0 k fI fd ps sp) (hgd : X.A.guards = some []) (hr : Room (k + 1) X.A) (hb : Binds X.K fd ps []) (hm : X.mg x = some (.ref C)) (ha : PA X (e :: es) t)
    (hg : Gl X x := by rfl) (hdb : (x == ("__debug__" : Str)) = false := by decide)
    (he : starEach (e :: es) X.env = (false, eval e X.env) :: starEach es X.env := by rfl) (hpl : (backTo pos (starEach es X.env)).any (·.1) = false := by rfl) :
    PE X (.Call (.Name x p) (e :: es) [] pos) (tEmk C sp t) := by
  constructor
  intro pins s σ H Q I h
  apply wpAny_Call_Name_kw (ld_glob I hg hm ?_ hdb)
  refine PySem.W.callWith_K (h₀ := X.base) I.ok.mod.kin T.kC (thn (ha.run pos pins s σ H _ I h) ?_) he hpl
  rintro us s1 ⟨vs, H1, I1, r, hl, q⟩
  exact ⟨I1.kIn, mk_run T hi ht G hgd hr hb I1 r hl q⟩
theorem pe_emk0 (T : Ecl X.K C) (hi : PySem.W.findIn X.K (.ref C) "__init__" = some (some (.ref fI))) (ht : PySem.W.typeIn X.K (.ref fI) = some (.type "function"))
    (G : FnG X.prog X.w X.K X.mg X.base CX0 k fI fd ps sp) (hgd : X.A.guards = some []) (hr : Room (k + 1) X.A) (hb : Binds X.K fd ps []) (hm : X.mg x = some (.ref C))
    (hg : Gl X x := by rfl) (hdb : (x == ("__debug__" : Str)) = false := by decide) :
    PE X (.Call (.Name x p) [] [] pos) (tEmk C sp tNil) := by
  constructor
  intro pins s σ H Q I h
  apply wpAny_Call_Name_kw (ld_glob I hg hm ?_ hdb)
  exact PySem.W.callWith_K0 I.kIn T.kC (mk_run (us := []) (vs := []) T hi ht G hgd hr hb I .nil h.1 h.2)
end
/-- e.f of such an exception -/
def tEf (K : PySem.W.Frag) (f : Str) (te : TE) : TE := fun σ H Q => te σ H fun x H1 => ∃ (a C dx : Addr) (fs : List (Str × V)) (v : V), x = .ref a ∧ Ecl K C ∧ PySem.W.findIn K (.ref C) f = some none ∧
  H1 a = some (exo a C (some dx)) ∧ H1 dx = some (exd dx fs) ∧ fs.lookup f = some v ∧ Q v H1
theorem pe_ef {X : Cx} {e : Expr} {te : TE} {f : Str} {pos : Pos} (he : PE X e te) (hbs : attributeBase e f X.env (eval e X.env) = eval e X.env := by rfl) : PE X (.Attribute e f pos) (tEf X.K f te) := by
  constructor
  intro pins s σ H Q I h
  refine attr_of hbs (thn (he.run pins s σ H _ I h) ?_)
  rintro u s1 ⟨x, H1, I1, r, a, C, dx, fs, v, rfl, T, hno, ha, hd, hv, q⟩
  obtain rfl : u = .ref a := r
  obtain ⟨t1, e1⟩ := exo_at I1.hok ha
  obtain ⟨mA, n1, rl⟩ := exd_at I1.hok hd
  obtain ⟨od, eod, look⟩ := lookIn_ns n1
  have rf := rl f
  rw [hv] at rf
  cases em : mA f with
  | none => rw [em] at rf; exact rf.elim
  | some u =>
    rw [em] at rf
    have hfo := PySem.W.findObj_own (od := od) (v := u) T.hd hno rfl (by rw [look, em])
    exact HandSPX.exc_get I1.kIn (od := some od) ⟨e1, rfl, rfl, eod⟩ T.ga T.gg T.exC hfo (handed_of rf) ⟨v, H1, I1.tok _, rf, q⟩
/-- isinstance of such an exception -/
def rIsX (K : PySem.W.Frag) (xs : List V) (H : Hp) (Q : VK) : Prop := ∃ (a C : Addr) (d : Option Addr) (c : V) (cv : Value) (b : Bool), xs = [.ref a, c] ∧ Ecl K C ∧ H a = some (exo a C d) ∧
  (∀ dx, d = some dx → ∃ fs, H dx = some (exd dx fs)) ∧ (∀ u, RelV c u → u = cv) ∧ PySem.W.kitOne K (.ref C) cv = some b ∧ Q (.bl b) H
theorem call_isX {X : Cx} : CallR X (.builtin "isinstance") (rIsX X.K) := by
  rintro pins s σ H xs us Q I r ⟨a, C, d, c, cv, b, rfl, T, ha, hd, hc, hk, q⟩
  cases r with
  | cons r1 r2 =>
    cases r2 with
    | cons r3 r4 =>
      cases r4
      cases r1
      cases hc _ r3
      obtain ⟨t1, e1⟩ := exo_at I.hok ha
      obtain ⟨cd, hcd, _⟩ := ecl_dict T
      have J : ∃ od, PySem.W.InstAt s.heap a { cls := .ref C, dict := d, data := .fields #[.ref t1, .none, .none, .none, .bool false, .none] } C od := by
        cases d with
        | none => exact ⟨none, e1, rfl, rfl, trivial⟩
        | some dx =>
          obtain ⟨fs, ed⟩ := hd dx rfl
          obtain ⟨mA, n1, _⟩ := exd_at I.hok ed
          obtain ⟨od, es, ep, eod, _⟩ := id n1
          exact ⟨some od, e1, rfl, rfl, eod⟩
      obtain ⟨od, J⟩ := J
      exact PySem.W.kia_one (PySem.W.kitx_exc (by rw [hcd]; rfl) T.ga T.gg T.exC T.cA T.cG T.cT T.ob) I.kIn J hk (fun z => by cases z) fun tk => ⟨.bl b, H, I.tok tk, rfl, q⟩
end FA
end

/-! E3 -/
section
namespace FA
open PySem PySem.Spec PyProof.Rows L2
section
variable {prog : Program} {w : World} {A : Around} {h : Heap} {g : Array GenState} {d : Drawn} {t : Nat} {os : OsState} {nm q : Str} {C N : Addr}
  {bs bm bmB : List Value} {hdct : Bool} {sn : List Str} {sub : List Value} {ab : Bool} {col : Option Bool} {dd : Option Addr} {k0 k1 k2 k3 k5 : Option Value} {B newId initId : String}
  {kw : List (Str × Value)} {fI : Addr} {M : Model} {E : Value → Shared → Prop}
theorem sig_tc : Manifest.signature? "type.__call__" = some { machinery := .hand, full := "wrapper __call__", short := "", receiver := .self, params := [] } := by kernel_rfl
theorem check_tc_kw {Q : Unit → Shared → Prop} (hC : h.get? C = some (excClassObj nm q C N bs bm hdct sn sub ab col dd k0 k1 k2 k3 k5 newId))
    (k : Q () { heap := h, gens := g, drawn := d, toks := t, os := os }) :
    wpAny M A (checkBuiltinCall "type.__call__" ⟨[.ref C], kw⟩) Q E { heap := h, gens := g, drawn := d, toks := t, os := os } := by
  unfold checkBuiltinCall
  simp only [tc_kind, tc_split, sig_tc]
  refine wpAny_bind (wpAny_bind (wpAny_bind (wpAny_loadPart_at hC (wpAny_pure ?_))))
  rw [tc_sub]
  refine wpAny_pure ?_
  refine wpAny_ite_false (by rfl) ?_
  unfold Bind.checkArgs
  refine wpAny_bind ?_
  unfold Bind.printed
  refine wpAny_ite_true (by decide) (wpAny_pure ?_)
  refine wpAny_bind (wpAny_ite_true (by decide) (wpAny_pure ?_))
  exact wpAny_onRaise (wpAny_pure k)
theorem check_new_kw (F : ExcBaseFacts B newId initId bmB) (hc : ∀ X : String, bm.contains (.type X) = bmB.contains (.type X)) {Q : Unit → Shared → Prop}
    (hC : h.get? C = some (excClassObj nm q C N bs bm hdct sn sub ab col dd k0 k1 k2 k3 k5 newId))
    (k : Q () { heap := h, gens := g, drawn := d, toks := t, os := os }) :
    wpAny M A (checkBuiltinCall newId ⟨[.ref C], kw⟩) Q E { heap := h, gens := g, drawn := d, toks := t, os := os } := by
  unfold checkBuiltinCall
  simp only [F.newKind, F.newSplit, F.newRow]
  refine wpAny_ite_true (by decide) ?_
  refine wpAny_bind ?_
  unfold isType
  refine wpAny_bind (wpAny_loadPart_at hC (wpAny_pure ?_))
  refine wpAny_ite_false (by rfl) ?_
  refine wpAny_bind (wpAny_isSubtype_exc hC ?_)
  have hB : (Value.ref C :: bm).contains (.type B) = true := by
    rw [List.contains_cons, hc, F.hasB, Bool.or_true]
  refine wpAny_ite_false (by rw [hB]; rfl) ?_
  refine wpAny_bind (wpAny_staticBase_exc hC ?_)
  refine wpAny_bind (wpAny_madeBy_exc hC ?_)
  refine wpAny_ite_false (by simp) ?_
  unfold Bind.checkArgs
  have star : (B == "*") = false := by have s := F.noStar; simpa [bne] using s
  refine wpAny_bind ?_
  unfold Bind.printed
  refine wpAny_ite_true (by show decide ((B != "*") = true) = true; rw [F.noStar]; rfl) (wpAny_pure ?_)
  refine wpAny_bind (wpAny_ite_true (by show decide ((B != "*") = true) = true; rw [F.noStar]; rfl) (wpAny_pure ?_))
  exact wpAny_onRaise (wpAny_pure k)
theorem new_kw (F : ExcBaseFacts B newId initId bmB) (hc : ∀ X : String, bm.contains (.type X) = bmB.contains (.type X)) {R : Result → Shared → Prop}
    (hC : h.get? C = some (excClassObj nm q C N bs bm hdct sn sub ab col dd k0 k1 k2 k3 k5 newId))
    (k : R (.ok (.ret (.ref (h.objs.size + 1)))) { heap := (h.push (PySem.W.kdv_tup [])).push (PX.excO C h.objs.size), gens := g, drawn := d, toks := t, os := os }) :
    codeAny (model prog w) A (.builtin newId ⟨[.ref C], kw⟩) R { heap := h, gens := g, drawn := d, toks := t, os := os } := by
  have hB : (Value.ref C :: bm).contains (.type B) = true := by
    rw [List.contains_cons, hc, F.hasB, Bool.or_true]
  refine codeAny_builtinAt F.entry ?_
  unfold Builtin.«BaseException.__new__»
  refine PySem.wpAt_bind (PySem.wpAt_bind (PySem.wpAt_stack fun p below => ?_))
  refine PySem.wpAt_of_wpAny ?_
  refine wpAny_ite_true (by rw [F.ends]; rfl) (wpAny_pure ?_)
  refine PySem.wpAt_of_wpAny ?_
  rw [F.owner]
  refine wpAny_bind ?_
  unfold isType
  refine wpAny_bind (wpAny_loadPart_at hC (wpAny_pure ?_))
  refine wpAny_ite_false (by rfl) ?_
  refine wpAny_bind (wpAny_isSubtype_exc hC ?_)
  refine wpAny_ite_false (by rw [hB]; rfl) ?_
  refine wpAny_bind (wpAny_madeHere_exc F.canon hC ?_)
  have hA : (Value.ref C :: bm).contains (.type "AttributeError") = false := by
    rw [List.contains_cons, hc, F.noAttr]
    rfl
  have hN : (Value.ref C :: bm).contains (.type "NameError") = false := by
    rw [List.contains_cons, hc, F.noName]
    rfl
  refine wpAny_bind (wpAny_bind (wpAny_isSubtype_exc hC ?_))
  refine wpAny_ite_false (by rw [hA]; rfl) ?_
  refine wpAny_bind (wpAny_isSubtype_exc hC ?_)
  refine wpAny_ite_false (by rw [hN]; rfl) (wpAny_pure ?_)
  refine wpAny_bind ?_
  unfold newTuple newObj
  have big : ∀ n : Nat, n ≤ 8 → ¬ (n > sizeLine) := fun n h => by rw [sizeLine_eq]; omega
  refine wpAny_ite_false (by simp) ?_
  refine wpAny_bind (wpAny_alloc' ?_)
  refine wpAny_pure ?_
  refine wpAny_bind ?_
  refine wpAny_ite_false (by rw [sizeLine_eq]; rfl) ?_
  have hC2 : ((h.push (PySem.W.kdv_tup [])).push (PX.excO C h.objs.size)).get? C = some (excClassObj nm q C N bs bm hdct sn sub ab col dd k0 k1 k2 k3 k5 newId) := Heap.get?_push_of_some _ (Heap.get?_push_of_some _ hC)
  refine wpAny_bind (wpAny_alloc' ?_)
  refine wpAny_bind ?_
  unfold classHasDel
  refine wpAny_bind (wpAny_load' hC2 ?_)
  refine wpAny_pure ?_
  refine wpAny_ite_false (by rfl) (wpAny_pure ?_)
  refine wpAny_pure ?_
  have es : (h.push (PySem.W.kdv_tup [])).objs.size = h.objs.size + 1 := Heap.size_push _ _
  rw [← es] at k
  exact k
theorem type_call_kw (F : ExcBaseFacts B newId initId bmB) (hc : ∀ X : String, bm.contains (.type X) = bmB.contains (.type X)) {Q : PySem.Fin → Shared → Prop}
    (hC : h.get? C = some (excClassObj nm q C N bs bm hdct sn sub ab col dd k0 k1 k2 k3 k5 newId))
    (li : PySem.W.Looks (model prog w) h (typeLookup (.ref C) "__init__") (some (.ref fI)))
    (lb : ∀ self : Value, PySem.W.Looks (model prog w) h (bindSpecial (.ref fI) self) (.ref fI, [self]))
    (k : codeAny (model prog w) A (.call (.ref fI) ⟨[.ref (h.objs.size + 1)], kw⟩) (fun r s' => match r with
        | .ok (.ret v) => v = .none ∧ Q (.done (.ret (.ref (h.objs.size + 1)))) s'
        | .ok _ => False
        | .error e => E e s')
      { heap := (h.push (PySem.W.kdv_tup [])).push (PX.excO C h.objs.size), gens := g, drawn := d, toks := t, os := os }) :
    wpAny (model prog w) A (Builtin.«type.__call__» ⟨[.ref C], kw⟩) Q E { heap := h, gens := g, drawn := d, toks := t, os := os } := by
  have hC2 : ((h.push (PySem.W.kdv_tup [])).push (PX.excO C h.objs.size)).get? C = some (excClassObj nm q C N bs bm hdct sn sub ab col dd k0 k1 k2 k3 k5 newId) := Heap.get?_push_of_some _ (Heap.get?_push_of_some _ hC)
  have keep : ∀ b o, h.get? b = some o → ((h.push (PySem.W.kdv_tup [])).push (PX.excO C h.objs.size)).get? b = some o := fun b o e => Heap.get?_push_of_some _ (Heap.get?_push_of_some _ e)
  have at2 : ((h.push (PySem.W.kdv_tup [])).push (PX.excO C h.objs.size)).get? (h.objs.size + 1) = some (PX.excO C h.objs.size) := Heap.get?_push_at (by rw [Heap.size_push]) rfl
  unfold Builtin.«type.__call__»
  refine wpAny_ite_false (by rfl) ?_
  refine wpAny_bind (wpAny_bind (wpAny_bind (wpAny_load' hC (wpAny_pure (wpAny_pure ?_)))))
  refine wpAny_ite_false (by rfl) ?_
  refine wpAny_bind (wpAny_madeBy_exc hC ?_)
  refine wpAny_bind (wpAny_pure ?_)
  refine wpAny_bind (wpAny_holding (wpAny_call ?_))
  refine codeAny_call_builtin_code (Code.quiet_builtin _ F.quiet) (check_new_kw F hc hC ?_)
  refine new_kw F hc hC ?_
  refine wpAny_bind (wpAny_bind (wpAny_bind (wpAny_loadPart_at at2 (wpAny_pure ?_))))
  refine wpAny_isSubtype_exc hC2 ?_
  refine wpAny_ite_false (by rw [List.contains_cons]; simp) ?_
  refine wpAny_bind (wpAny_holding ?_)
  unfold callSpecial? specialOf
  refine wpAny_bind (wpAny_bind (wpAny_bind (wpAny_loadPart_at at2 (wpAny_pure ?_))))
  refine (li.keeps keep).at ?_
  refine wpAny_holding (wpAny_bind (((lb _).keeps keep).at ?_))
  refine wpAny_bind (wpAny_call ?_)
  refine codeAny_mono k ?_
  intro r s' z
  cases r with
  | error e => exact z
  | ok fl =>
    cases fl with
    | brk => exact z
    | cont => exact z
    | next => exact z
    | ret v =>
      obtain ⟨rfl, z⟩ := z
      exact wpAny_pure (wpAny_ite_false (by rfl) (wpAny_pure z))
theorem call_kw (F : ExcBaseFacts B newId initId bmB) (hc : ∀ X : String, bm.contains (.type X) = bmB.contains (.type X)) {R : Result → Shared → Prop}
    (hC : h.get? C = some (excClassObj nm q C N bs bm hdct sn sub ab col dd k0 k1 k2 k3 k5 newId))
    (li : PySem.W.Looks (model prog w) h (typeLookup (.ref C) "__init__") (some (.ref fI)))
    (lb : ∀ self : Value, PySem.W.Looks (model prog w) h (bindSpecial (.ref fI) self) (.ref fI, [self]))
    (k : codeAny (model prog w) (A.under (.builtin "type.__call__" ⟨[.ref C], kw⟩)) (.call (.ref fI) ⟨[.ref (h.objs.size + 1)], kw⟩) (PySem.W.InitBack (h.objs.size + 1) R)
      { heap := (h.push (PySem.W.kdv_tup [])).push (PX.excO C h.objs.size), gens := g, drawn := d, toks := t, os := os }) :
    codeAny (model prog w) A (.call (.ref C) ⟨[], kw⟩) R { heap := h, gens := g, drawn := d, toks := t, os := os } := by
  refine codeAny_of_tree ?_
  refine wpAny_bind (wpAny_load' hC (wpAny_bind (wpAny_specialOf ⟨_, hC, rfl⟩ tc_lookup (wpAny_bind (wpAny_of_eq (tc_bind (.ref C)) (wpAny_bind (wpAny_pure (wpAny_ite_true (by rfl) (wpAny_pure ⟨rfl, ?_⟩)))))))))
  refine codeAny_call_builtin_at (Code.quiet_builtin _ (by decide +kernel)) entry_typeCall (check_tc_kw hC ?_)
  refine type_call_kw F hc hC li lb (codeAny_mono k fun r s' z => ?_)
  cases r with
  | error e => exact z
  | ok fl =>
    cases fl with
    | brk => exact z
    | cont => exact z
    | next => exact z
    | ret v => exact z
end
end FA
end

/-! E4 -/
section
namespace FA
open PySem PySem.Spec PyProof.Rows L2
/-- one argument by place, the rest by keywords -/
structure KwTo1 (K : PySem.W.Frag) (fd : FuncData) (ps ks : List Str) (g : ∀ {α : Type}, List α → List α) : Prop where
  to : ∀ (s : Shared) (a : Value) (ws : List Value), K.In s.heap → ws.length = ks.length → BindsTo s fd ⟨[a], ks.zip ws⟩ (ps.zip (a :: g ws))
  rel : ∀ {zs : List V} {ws : List Value}, Vals zs ws → Vals (g zs) (g ws)
theorem kwTo1 {K : PySem.W.Frag} {x qual : Str} {params : Arguments} {body : List Stmt} {scope : Scope} {f : Addr} {fd : FuncData} {kws : List (Str × V)}
    {ps ks : List Str} {g : ∀ {α : Type}, List α → List α} (F : FunD K x qual params body scope [] kws f fd)
    (h : ∀ (kV doc pm : Value) (an : Option Addr) (cdv ct a : Value) (ws : List Value), ws.length = ks.length →
      bindArgs (PySem.W.fnOf x qual params body scope .none kV doc pm an cdv ct) ⟨[a], ks.zip ws⟩ = pure (ps.zip (a :: g ws)))
    (rel : ∀ {zs : List V} {ws : List Value}, Vals zs ws → Vals (g zs) (g ws)) : KwTo1 K fd ps ks g := by
  obtain ⟨oc, od, dV, kV, doc, pm, an, cdv, ct, osl, rfl, lk, hcd, hd, _⟩ := F.ex
  rcases hd with ⟨_, rfl⟩ | ⟨z, _⟩
  · exact ⟨fun s a ws _ hl => .of_eq (h kV doc pm an cdv ct a ws hl), rel⟩
  · exact absurd rfl z
section
variable {X : Cx} {k : Nat} {C fI : Addr} {fd : FuncData} {ps ks : List Str} {sp : Sp} {x : Str} {p pos : Pos} {kws : List Keyword} {tk : TA} {g : ∀ {α : Type}, List α → List α}
def tEmkK (C : Addr) (n : Nat) (sp : Sp) (g : List V → List V) (tk : TA) : TE := fun σ H Q => tk σ H fun zs H1 => zs.length = n ∧ ∀ a, H1 a = none →
  sp (.ref a :: g zs) (upd H1 a (exo a C none)) (fun v H2 => v = .non ∧ Q (.ref a) H2) E0
theorem pe_emkK (T : Ecl X.K C) (hi : PySem.W.findIn X.K (.ref C) "__init__" = some (some (.ref fI))) (ht : PySem.W.typeIn X.K (.ref fI) = some (.type "function"))
    (G : FnG X.prog X.w X.K X.mg X.base CX0 k fI fd ps sp) (hgd : X.A.guards = some []) (hr : Room (k + 1) X.A) (hb : KwTo1 X.K fd ps ks g) (hm : X.mg x = some (.ref C)) (hkw : PK X kws tk)
    (hg : Gl X x := by rfl) (hdb : (x == ("__debug__" : Str)) = false := by decide)
    (hall : (backToKw pos (keywordEach kws X.env)).all (·.1.isSome) = true := by rfl)
    (hks : (backToKw pos (keywordEach kws X.env)).filterMap (·.1) = ks := by rfl)
    (hpl : ((backTo pos (starEach [] X.env)).any (·.1) || (backToKw pos (keywordEach kws X.env)).any (·.1.isNone)) = false := by rfl) :
    PE X (.Call (.Name x p) [] kws pos) (tEmkK C ks.length sp g tk) := by
  constructor
  intro pins s σ H Q I h
  apply wpAny_Call_Name_kw (ld_glob I hg hm ?_ hdb)
  refine PySem.W.callWith_KW0 (h₀ := X.base) I.ok.mod.kin T.kC hall ?_ hpl
  refine thn (hkw.run pos pins s σ H _ I h) ?_
  rintro ws s2 ⟨zs, H2, I2, rz, l2, q2⟩
  refine ⟨I2.kIn, ?_⟩
  rw [hks]
  obtain ⟨hp, gn, d, t, os⟩ := s2
  obtain ⟨nm, N, qn, bs, bm, hdct, sn, sub, ab, col, dd, k0, k1, k2, k3, k5, hC, hcon⟩ := PySem.W.excInit_of I2.kIn T.ini
  refine wpAny_call ?_
  have keep : ∀ b o, hp.get? b = some o → ((hp.push (PySem.W.kdv_tup [])).push (PX.excO C hp.objs.size)).get? b = some o := fun b o q => Heap.get?_push_of_some _ (Heap.get?_push_of_some _ q)
  have hn : H2 (hp.objs.size + 1) = none := I2.hok.fresh (Nat.le_succ _)
  have at2 : ((hp.push (PySem.W.kdv_tup [])).push (PX.excO C hp.objs.size)).get? (hp.objs.size + 1) = some (PX.excO C hp.objs.size) := Heap.get?_push_at (by rw [Heap.size_push]) rfl
  have I3 : Inv X pins σ (upd H2 (hp.objs.size + 1) (exo (hp.objs.size + 1) C none)) { heap := (hp.push (PySem.W.kdv_tup [])).push (PX.excO C hp.objs.size), gens := gn, drawn := d, toks := t, os := os } :=
    I2.laid keep (Nat.le_succ _) (exo_ok at2)
  have r3 : Vals (V.ref (hp.objs.size + 1) :: g zs) (Value.ref (hp.objs.size + 1) :: g ws) := .cons rfl (hb.rel rz)
  have hsp := q2 _ hn
  refine call_kw F.excBase_Exception hcon hC (PySem.W.looks_findIn I2.kIn hi) (fun self => PySem.W.bind_fn I2.kIn self ht) ?_
  have z := G.go (X.A.under (.builtin "type.__call__" { pos := [.ref C], kw := ks.zip ws })) X.stack _ _ ⟨[.ref (hp.objs.size + 1)], ks.zip ws⟩ _ _ _ E0 (hr.make C [] (ks.zip ws)) hgd (I3.env0.make C [] (ks.zip ws))
    (hb.to _ _ ws I3.kIn (rz.length.symm.trans l2)) r3 hsp
  refine codeAny_mono z ?_
  intro r s' q
  cases r with
  | error e => exact q.elim
  | ok fl =>
    cases fl with
    | brk => exact q.elim
    | cont => exact q.elim
    | next => exact q.elim
    | ret u =>
      obtain ⟨v, H4, I4, rv, rfl, q4⟩ := I3.after q
      obtain rfl : u = .none := rv
      exact ⟨rfl, .ref _, _, I4, rfl, q4⟩
end
end FA
end

/-! E5 -/
section
namespace FA
open PySem PySem.Spec PyProof.Rows L2
/-! raising what a PE makes -/
section
variable {X : Cx} {e : Expr} {te : TE}
def tRv (X : Cx) (te : TE) : L2.St → Hp → XK → Prop := fun σ H Q => te σ H fun x H1 => ∃ (a C : Addr) (d : Option Addr), x = .ref a ∧ Ecl X.K C ∧ H1 a = some (exo a C d) ∧ Fr0 X.H_0 a ∧ Q (.ref C) d (delH H1 a)
theorem pmk_val (hx : X.ex = []) (he : PE X e te) : PMk X e (tRv X te) := by
  intro pins s σ H Q I h
  refine thn (he.run pins s σ H _ I h) ?_
  rintro u s1 ⟨x, H1, I1, r, a, C, d, rfl, T, ha, fr, q⟩
  obtain rfl : u = .ref a := r
  obtain ⟨t1, e1⟩ := exo_at I1.hok ha
  obtain ⟨G, k, g0, J⟩ := I1.untrack ha fr hx
  exact ⟨a, _, _, { heap := G, gens := s1.gens, drawn := s1.drawn, toks := s1.toks, os := s1.os }, delH H1 a, .ref C, d, rfl, J, k, g0, e1, ⟨rfl, rfl⟩, rfl, rfl, if_pos rfl, rfl, J.bare, raises_own T.exC T.tyC, q⟩
end
/-! a def that may raise -/
section
variable {P : Program} {w : World} {K : PySem.W.Frag} {mg : Str → Option Value} {base : Heap} {x qual : Str} {params : Arguments}
  {body : List Stmt} {scope : Scope} {dvs : List V} {kws : List (Str × V)} {f : Addr} {fd : FuncData}
theorem okR {N ps : List Str} {k : Nat} {sp : Sp} (F : FunD K x qual params body scope dvs kws f fd) (S : FnScope N ps scope)
    (hS : ∃ o, base.get? sysModules = some o)
    (size : ∀ vs H Q E, sp vs H Q E → vs.length = ps.length)
    (hb : ∀ (cdv : Value) (A : Around) (outer : List Env) (s : Shared) (H : Hp) (vs : List V) (Q : VK) (E : XK),
      Rdy k (cxOf (L2.CX P w) P w K mg base N qual scope f cdv A outer s H E) → sp vs H Q E →
      ∃ t, PSs (cxOf (L2.CX P w) P w K mg base N qual scope f cdv A outer s H E) body t ∧
        t { nx := fun _ H' => Q .non H', rt := Q } (start N vs) H) : FnG P w K mg base (L2.CX P w) (k + 1) f fd ps sp := by
  obtain ⟨oc, od, dV, kV, doc, pm, an, cdv, ct, osl, rfl, lk, hcd, _, _⟩ := F.ex
  refine fnG_of lk hcd S size ?_
  intro A outer s H vs Q E hr hg hsp
  exact hb cdv A outer s H vs Q E ⟨hr, hg, hS⟩ hsp
end
section
variable {X : Cx} {CX : CXT} {k : Nat} {f : Addr} {fd : FuncData} {ps : List Str} {sp : Sp} {x : Str} {p pos : Pos} {e : Expr} {es : List Expr} {t : TA} {E : L2.St → XK}
theorem runGS {pins : List (Addr × Obj)} {σ : L2.St} {H : Hp} {s : Shared} {Q : VK} {us : List Value} {vs : List V}
    (F : FnG X.prog X.w X.K X.mg X.base CX k f fd ps sp) (hg : X.A.guards = some []) (hr : Room k X.A) (hb : Binds X.K fd ps [])
    (hx : PassesAt CX X σ (E σ)) (I : Inv X pins σ H s) (r : Vals vs us) (h : sp vs H Q (E σ)) :
    wpAny (model X.prog X.w) X.A (call (.ref f) us) (EP X pins σ Q) X.xe s := by
  have hl : (us ++ []).length = ps.length := by rw [List.append_nil]; exact r.length.symm.trans (F.size _ _ _ _ h)
  have b := hb s us I.kIn hl
  rw [List.append_nil] at b
  have z := F.go X.A X.stack s H ⟨us, []⟩ us vs Q (E σ) hr hg I.env0 b r h
  refine wpAny_call (codeAny_mono z ?_)
  intro r s' hq
  cases r with
  | error e => exact hx pins H s e s' I hq
  | ok fl =>
    cases fl with
    | ret u => exact I.after hq
    | brk => exact hq.elim
    | cont => exact hq.elim
    | next => exact hq.elim
theorem callGS (F : FnG X.prog X.w X.K X.mg X.base CX k f fd ps sp) (hgd : X.A.guards = some []) (hr : Room k X.A)
    (hm : X.mg x = some (.ref f)) (hk : PySem.W.keepIn X.K (.ref f) = true) (hb : Binds X.K fd ps [])
    (hx : ∀ σ, PassesAt CX X σ (E σ)) (ha : PA X (e :: es) t) (hg : Gl X x := by rfl) (hdb : (x == ("__debug__" : Str)) = false := by decide)
    (he : starEach (e :: es) X.env = (false, eval e X.env) :: starEach es X.env := by rfl)
    (hpl : (backTo pos (starEach es X.env)).any (·.1) = false := by rfl) :
    PE X (.Call (.Name x p) (e :: es) [] pos) (tCallS sp E t) := by
  constructor
  intro pins s σ H Q I h
  apply wpAny_Call_Name_kw (ld_glob I hg hm ?_ hdb)
  refine PySem.W.callWith_K (h₀ := X.base) I.ok.mod.kin hk (thn (ha.run pos pins s σ H _ I h) ?_) he hpl
  rintro us s1 ⟨vs, H1, I1, r, q⟩
  exact ⟨I1.kIn, runGS F hgd hr hb (hx σ) I1 r q⟩
end
/-! a def that is called while an exception is handled: the exception's object stands -/
structure FnX (P : Program) (w : World) (K : PySem.W.Frag) (mg : Str → Option Value) (base : Heap) (p : Addr × Obj) (k : Nat) (f : Addr) (fd : FuncData) (ps : List Str) (sp : Sp) : Prop where
  size : ∀ vs H Q E, sp vs H Q E → vs.length = ps.length
  go : ∀ (A : Around) (outer : List Env) (s : Shared) (H : Hp) (args : Args) (us : List Value) (vs : List V) (Q : VK) (E : XK),
    L2H.RoomH k A → L2H.PinOk outer H s p → Env0 P w K mg base A outer s H → BindsTo s fd args (ps.zip us) → Vals vs us → sp vs H Q E →
    codeAny (model P w) A (.call (.ref f) args) (CR CX0 outer P w H s Q E) s
section
variable {P : Program} {w : World} {K : PySem.W.Frag} {mg : Str → Option Value} {base : Heap} {x qual : Str} {params : Arguments}
  {body : List Stmt} {scope : Scope} {dvs : List V} {kws : List (Str × V)} {f : Addr} {fd : FuncData} {p : Addr × Obj}
theorem okX {N ps : List Str} {k : Nat} {sp : Sp} (F : FunD K x qual params body scope dvs kws f fd) (S : FnScope N ps scope)
    (size : ∀ vs H Q E, sp vs H Q E → vs.length = ps.length)
    (hb : ∀ (cdv : Value) (A : Around) (outer : List Env) (s : Shared) (H : Hp) (vs : List V) (Q : VK) (E : XK), sp vs H Q E →
      ∃ t, PSs (L2H.cxH CX0 P w K mg base N qual scope f cdv A outer s H E p).nox body t ∧
        t { nx := fun _ H' => Q .non H', rt := Q } (start N vs) H) : FnX P w K mg base p (k + 1) f fd ps sp := by
  obtain ⟨oc, od, dV, kV, doc, pm, an, cdv, ct, osl, rfl, lk, hcd, _, _⟩ := F.ex
  refine ⟨size, ?_⟩
  intro A outer s H args us vs Q E hr hp e0 bnd rv hsp
  have len := size _ _ _ _ hsp
  have kin : K.In s.heap := e0.mod.kin.keeps (fun b o z => (e0.bs b o z).1)
  have nolim : s.heap.NoLimit := e0.mod.nolimit.keeps (fun b o z => (e0.bs b o z).1)
  have names : ∀ y ∈ ps.zip us, scope.names.lookup y.1 = some .local ∨
      (scope.names.lookup y.1 = some .cell ∧ ((cellsFrom (s.heap.objs.size + 1) scope.names []).lookup y.1).isSome = true) := by
    rintro ⟨n, v⟩ hy
    have hn := (List.of_mem_zip hy).1
    rcases S.par n hn with z | z
    · exact Or.inl z
    · exact Or.inr ⟨z, PySem.W.cellsFrom_some _ _ _ (Or.inl z)⟩
  apply codeAny_call_function hr.depth (kin _ _ lk) rfl S.co S.gen rfl (PySem.W.codeRec_of kin hcd) (bnd _ _ _ _ ?_)
  apply wpAny_newFunctionEnv_cells S.kind names
  intro env he s1 xx
  subst he
  refine ⟨nolim.keeps xx.toInCall.keep, codeAny_func ?_⟩
  obtain ⟨t, ht, hq⟩ := hb cdv A outer s H vs Q E hsp
  have I := L2H.inv_startH (CX := CX0) (P := P) (w := w) (K := K) (mg := mg) (base := base) (E := E) (cd := cdv) S hp e0 len rv xx
  refine wpAny_mono (ht.nox.run [] s1 (start N vs) H _ I hq) ?_ (fun e s' z => z)
  intro fl s' hs
  cases fl with
  | brk =>
    obtain ⟨_, _, _, z⟩ := hs
    exact z.elim
  | cont =>
    obtain ⟨_, _, _, z⟩ := hs
    exact z.elim
  | ret u =>
    obtain ⟨v, σ', H', J, r1, z⟩ := hs
    exact ⟨v, H', J.os, J.bare, J.base, J.hok, r1, z⟩
  | next =>
    obtain ⟨σ', H', J, z⟩ := hs
    exact ⟨V.non, H', J.os, J.bare, J.base, J.hok, (rfl : Value.none = Value.none), z⟩
end
section
variable {X : Cx} {k : Nat} {f : Addr} {fd : FuncData} {ps : List Str} {sp : Sp} {x : Str} {p pos : Pos} {e : Expr} {es : List Expr} {t : TA} {q : Addr × Obj}
theorem callX (F : FnX X.prog X.w X.K X.mg X.base q k f fd ps sp) (hr : L2H.RoomH k X.A) (hq : q ∈ X.pn)
    (hm : X.mg x = some (.ref f)) (hk : PySem.W.keepIn X.K (.ref f) = true) (hb : Binds X.K fd ps []) (ha : PA X (e :: es) t)
    (hg : Gl X x := by rfl) (hdb : (x == ("__debug__" : Str)) = false := by decide)
    (he : starEach (e :: es) X.env = (false, eval e X.env) :: starEach es X.env := by rfl)
    (hpl : (backTo pos (starEach es X.env)).any (·.1) = false := by rfl) :
    PE X (.Call (.Name x p) (e :: es) [] pos) (tCall sp [] E0 t) := by
  constructor
  intro pins s σ H Q I h
  apply wpAny_Call_Name_kw (ld_glob I hg hm ?_ hdb)
  refine PySem.W.callWith_K (h₀ := X.base) I.ok.mod.kin hk (thn (ha.run pos pins s σ H _ I h) ?_) he hpl
  rintro us s1 ⟨vs, H1, I1, r, q1⟩
  rw [List.append_nil] at q1
  refine ⟨I1.kIn, ?_⟩
  have hl : (us ++ []).length = ps.length := by rw [List.append_nil]; exact r.length.symm.trans (F.size _ _ _ _ q1)
  have b := hb s1 us I1.kIn hl
  rw [List.append_nil] at b
  obtain ⟨p1, p2, p3, p4, p5⟩ := I1.pin q (List.mem_append_left pins hq)
  have pk : L2H.PinOk X.stack H1 s1 q := ⟨p1, p2, fun hm => (List.mem_cons.mp (I1.stkSub q.1 hm)).elim p3 p4, p5⟩
  have z := F.go X.A X.stack s1 H1 ⟨us, []⟩ us vs Q E0 hr pk I1.env0 b r q1
  refine wpAny_call (codeAny_mono z ?_)
  intro r s' hq
  cases r with
  | error e => exact hq.elim
  | ok fl =>
    cases fl with
    | ret u => exact I1.after hq
    | brk => exact hq.elim
    | cont => exact hq.elim
    | next => exact hq.elim
end
/-- isinstance of the exception that is handled -/
def rIsP (K : PySem.W.Frag) (a : Addr) (d : Option Addr) (C : Addr) (xs : List V) (H : Hp) (Q : VK) : Prop := ∃ (c : V) (cv : Value) (b : Bool), xs = [.ref a, c] ∧
  (∀ dx, d = some dx → ∃ fs, H dx = some (exd dx fs)) ∧ (∀ u, RelV c u → u = cv) ∧ PySem.W.kitOne K (.ref C) cv = some b ∧ Q (.bl b) H
theorem call_isP {X : Cx} {a : Addr} {oe : Obj} {d : Option Addr} {C : Addr} (T : Ecl X.K C) (hq : (a, oe) ∈ X.pn) (hc : oe.cls = .ref C) (hdd : oe.dict = d) (hf : ∃ vs, oe.data = .fields vs) :
    CallR X (.builtin "isinstance") (rIsP X.K a d C) := by
  rintro pins s σ H xs us Q I r ⟨c, cv, b, rfl, hd, hcv, hk, z⟩
  cases r with
  | cons r1 r2 =>
    cases r2 with
    | cons r3 r4 =>
      cases r4
      cases r1
      cases hcv _ r3
      obtain ⟨e1, _⟩ := I.pin (a, oe) (List.mem_append_left pins hq)
      obtain ⟨cd, hcd, _⟩ := ecl_dict T
      obtain ⟨oc, od0, oda, osl⟩ := oe
      obtain ⟨vs, hf⟩ := hf
      simp only at hc hf hd e1 hdd
      subst hc hf hdd
      have J : ∃ od, PySem.W.InstAt s.heap a ⟨.ref C, od0, .fields vs, osl⟩ C od := by
        cases od0 with
        | none => exact ⟨none, e1, rfl, rfl, trivial⟩
        | some dx =>
          obtain ⟨fs, ed⟩ := hd dx rfl
          obtain ⟨mA, n1, _⟩ := exd_at I.hok ed
          obtain ⟨od, es, ep, eod, _⟩ := id n1
          exact ⟨some od, e1, rfl, rfl, eod⟩
      obtain ⟨od, J⟩ := J
      exact PySem.W.kia_one (PySem.W.kitx_exc (by rw [hcd]; rfl) T.ga T.gg T.exC T.cA T.cG T.cT T.ob) I.kIn J hk (fun z => by cases z) fun tk => ⟨.bl b, H, I.tok tk, rfl, z⟩
/-- a suite whose reading says more of what is handled -/
theorem pss_ex {X : Cx} {b : List Stmt} {ι : Type} {h : ι → Prop} {t : ι → TS} (k : ∀ i, h i → PSs X b (t i)) : PSs X b (fun D σ H => ∃ i, h i ∧ t i D σ H) :=
  ⟨fun pins s σ H D I z => let ⟨i, hi, q⟩ := z; (k i hi).run pins s σ H D I q⟩
end FA
end

/-! K01c -/
section
open PySem PySem.Spec PyProof.Rows L2 FA
--imports E5,G8,PySem.Challenge.RW_failsalike_k01_errors
namespace K01
def top (i : Nat) : Stmt := PySem.Challenge.pw_failsalike_k01_errors.main.body.getD i (.Pass ⟨0, 0, 0, 0⟩)
abbrev FnP (K : PySem.W.Frag) (x : Str) (i : Nat) (f : Addr) (fd : FuncData) : Prop := FunD K x x (defArgs (top i)) (defBody (top i)) (defScope (top i)) [] [] f fd
section
variable {P : Program} {w : World} {K : PySem.W.Frag} {mg : Str → Option Value} {base : Heap} {f : Addr} {fd : FuncData}
def spDeck (K : PySem.W.Frag) : Sp := fun vs H Q _ => ∃ (a : Addr) (ns : List Int), vs = [.ref a] ∧ SqL K H a (ns.map V.int) ∧ ns.length ≤ 63 ∧
  ∀ d c H', H d = none → H c = none → Deck H' d c 0 → Same H H' → Q (.ref d) H'
theorem cut_ints (ns : List Int) (lo hi : Option Int) : ∃ cs : List Int, cutV (ns.map V.int) lo hi = cs.map V.int ∧ cs.length ≤ ns.length := by
  unfold cutV
  refine ⟨(ns.drop (HT.sIx (ns.map V.int).length 0 lo)).take (HT.sIx (ns.map V.int).length (ns.map V.int).length hi - HT.sIx (ns.map V.int).length 0 lo), ?_, ?_⟩
  · rw [List.map_take, List.map_drop]
  · rw [List.length_take, List.length_drop]
    omega
theorem sc__law_deck : FnScope ["_law_script", "_law_cells", "_law_total", "_law_cell"] ["_law_script"] (defScope (top 22)) := ⟨rfl, rfl, rfl, by decide +kernel, rfl, by decide +kernel, by decide +kernel⟩
theorem ok__law_deck (F : FnP K "_law_deck" 22 f fd) (hS : ∃ o, base.get? sysModules = some o) (B : Blt mg) :
    FnG P w K mg base CX0 1 f fd ["_law_script"] (spDeck K) := by
  refine okD F sc__law_deck hS (fun vs H Q E h => ?_) (fun cdv A outer s H vs Q E R h => ?_)
  · obtain ⟨a, ns, rfl, _⟩ := h
    rfl
  obtain ⟨a, ns, rfl, hS, hl, q⟩ := h
  obtain ⟨m_isinstance, m_len, m_all, m_abs, m_repr, m_str, m_int, m_bool, m_list, m_tuple, m_range⟩ := B
  have nd := sc__law_deck.nd
  refine ⟨_, (pss_cons (ps_par (i := 1) (j := 2) rfl nd rfl rfl (by decide) rfl rfl (pa_cons (pe_callTy call_list_of rfl m_list bt_list (pa_cons (pe_slice slAny (pv 0) po_none (po_some pe_int)) pa_nil)) (pa_cons pe_int pa_nil)) rfl) (pss_cons (ps_for PassesOwn.never rfl (pi_list (pv 1)) (pg_name (i := 3) nd rfl (Or.inl rfl)) (pss_one (ps_set (i := 2) nd rfl (Or.inl rfl) (pe_op op_mod (pe_op opAdd (pe_op opAdd (pe_op opMul (pv 2) pe_int) (pe_op op_mod (pv 3) pe_int)) pe_int) pe_int)))) (pss_one (ps_ret (pe_disp (pps_cons pe_str (pe_revL (pv 1)) (pps_cons pe_str (pv 2) (pps_cons pe_str pe_int pps_nil))) rfl rfl (by decide) (by decide)))))), ?r⟩
  case r =>
    refine ⟨_, rfl, _, rfl, .inl ⟨a, _, rfl, hS, fun p hp => ?_⟩⟩
    obtain ⟨cs, ecs, lcs⟩ := cut_ints ns none (some 63)
    rw [ecs]
    refine ⟨p, _, rfl, .inl (.inl (.inl upd_same)), fun l hl2 => ?_⟩
    have s1 : Same H (upd H p (.lst (cs.map V.int))) := same_new hp _
    have s2 := s1.trans (same_new hl2 (.lst (cs.map V.int)))
    have hl0 : H l = none := s1.free hl2
    refine ⟨_, _, rfl, ?_⟩
    refine ⟨_, rfl, l, rfl, ⟨_, .inl (.inl upd_same)⟩, for_list (K := K) (a := l) (xs := cs.map V.int)
      (fun i σ H' => ∃ (t : Int) (v : Option V), σ = [some (.ref a), some (.ref l), some (.int t), v] ∧ Same H H' ∧ H' l = some (.lst (cs.map V.int)))
      ⟨_, _, rfl, s2, upd_same⟩ (fun i σ H' _ ⟨_, _, _, _, e⟩ => .inl (.inl e)) ?_ ?_⟩
    · rintro i y σ H' hi ⟨t, v, rfl, s3, e3⟩
      obtain ⟨u, rfl⟩ : ∃ u, y = V.int u := by
        rw [List.getElem?_map] at hi
        cases e : cs[i]? with
        | none => rw [e] at hi; cases hi
        | some u => rw [e] at hi; exact ⟨u, (Option.some.inj hi).symm⟩
      refine ⟨_, rfl, .inl (.inl ⟨_, _, rfl, rfl, .inr ⟨by decide, by decide⟩, ?_⟩)⟩
      refine ⟨_, rfl, _, _, rfl, rfl, (by dsimp only; decide), .inl (.inl ⟨_, _, rfl, rfl, ?_⟩)⟩
      refine .inl (.inl ⟨_, _, rfl, rfl, _, _, rfl, rfl, (by dsimp only; decide), ?_⟩)
      exact ⟨_, _, rfl, s3, e3⟩
    · rintro σ H' ⟨t, v, rfl, s3, e3⟩
      intro d hd
      have nld : l ≠ d := ne_of_none e3 hd
      refine ⟨_, rfl, l, _, rfl, .inl (.inl ((upd_ne nld).trans e3)), fun c hc => ?_⟩
      have nd1 : d ≠ c := ne_of_none upd_same hc
      have s4 : Same H (upd H' d (.dK [])) := same_mut s3 (s3.free hd)
      have hc0 : H c = none := s4.free hc
      refine ⟨_, rfl, (upd_ne nd1).trans upd_same, deckKvs c t 0, rfl, by show 3 ≤ 15; decide, ?_⟩
      rw [dk_merge]
      refine q d c _ (s3.free hd) hc0 ⟨t, 0, cs.reverse, upd_same, ?_, ?_, Int.le_refl _, Int.le_refl _⟩ ?_
      · rw [upd_ne nd1.symm, upd_same, List.map_reverse]
      · rw [List.length_reverse]
        omega
      · exact same_mut (same_mut s4 hc0) (s3.free hd)
theorem sc__law_draw : FnScope ["_law_deck_here", "_law_many", "_law_turn", "_law_cell", "_law_mixed"] ["_law_deck_here", "_law_many"] (defScope (top 23)) := ⟨rfl, rfl, rfl, by decide +kernel, rfl, by decide +kernel, by decide +kernel⟩
theorem ok__law_draw (F : FnP K "_law_draw" 23 f fd) (hS : ∃ o, base.get? sysModules = some o) (B : Blt mg) :
    FnG P w K mg base CX0 1 f fd ["_law_deck_here", "_law_many"] spDraw := by
  refine okD F sc__law_draw hS (fun vs H Q E h => ?_) (fun cdv A outer s H vs Q E R h => ?_)
  · obtain ⟨d, c, n, m, rfl, _⟩ := h
    rfl
  obtain ⟨d, c, n, m, rfl, D, hn, h0, h64, q⟩ := h
  obtain ⟨m_isinstance, m_len, m_all, m_abs, m_repr, m_str, m_int, m_bool, m_list, m_tuple, m_range⟩ := B
  have nd := sc__law_draw.nd
  refine ⟨_, (pss_cons (ps_par (i := 2) (j := 3) rfl nd rfl rfl (by decide) rfl rfl (pa_cons (pe_op opAdd (pe_dget (hu_of R.room) (pv 0) pe_str (fun _ _ => rfl)) pe_int) (pa_cons (pe_dget (hu_of R.room) (pv 0) pe_str (fun _ _ => rfl)) pa_nil)) rfl) (pss_cons (ps_dput (hu_of R.room) (pv 0) pe_str (pv 2) rfl) (pss_cons (ps_if (pt_cmpR (op_neD R.room.units) (pe_dget (hu_of R.room) (pv 0) pe_str (fun _ _ => rfl)) (pe_lst pa_nil) (nomark _)) (pss_cons (ps_set (i := 3) nd rfl (Or.inl rfl) (pe_bm0 PySem.F.plainAttrs_list PySem.F.slot_list_pop PySem.F.type_list_pop mt_pop (pe_dget (hu_of R.room) (pv 0) pe_str (fun _ _ => rfl)))) (pss_cons (ps_if (pt_cmpR op_ge (pv 3) (pe_op op_pow pe_int pe_int) (nomark _)) (pss_cons (ps_expr (pe_bm PySem.F.plainAttrs_list PySem.F.slot_list_append PySem.F.type_list_append mt_append (pe_dget (hu_of R.room) (pv 0) pe_str (fun _ _ => rfl)) (pa_cons (pe_op op_fdivW (pv 3) (pv 1)) pa_nil))) (pss_one (ps_ret (pe_op op_mod (pv 3) (pv 1))))) pss_nil) (pss_one (ps_set (i := 3) nd rfl (Or.inl rfl) (pe_op opAdd (pv 3) (pe_dget (hu_of R.room) (pv 0) pe_str (fun _ _ => rfl))))))) pss_nil) (pss_cons (ps_set (i := 4) nd rfl (Or.inl rfl) (pe_op op_mod (pe_op opMul (pe_op opAdd (pe_op opAdd (pe_op op_mod (pv 3) pe_int) (pe_op opMul (pe_op opMul pe_int (pv 2)) (pv 2))) pe_int) pe_int) pe_int)) (pss_cons (ps_set (i := 4) nd rfl (Or.inl rfl) (pe_op op_mod (pe_op opAdd (pe_op opAdd (pe_op opMul (pv 4) (pv 4)) (pe_op opMul pe_int (pv 2))) pe_int) pe_int)) (pss_one (ps_ret (pe_op op_mod (pe_op op_fdivW (pe_op op_mod (pe_op opMul (pv 4) pe_int) pe_int) pe_int) (pv 1))))))))), ?r⟩
  case r =>
    obtain ⟨t, k, cs, hd, hc, hl, k0, kn⟩ := D.is
    have ndc := D.dc
    refine ⟨_, rfl, _, _, rfl, dg_draws hd, .inl (.inl ⟨_, _, rfl, rfl, ?_⟩)⟩
    refine ⟨_, rfl, _, _, rfl, dg_total hd, _, _, rfl, ?_⟩
    refine ⟨_, rfl, _, rfl, d, _, rfl, dp_draws hd, ?_⟩
    -- the deck, one draw more
    have hd1 : upd H d (.dK (deckKvs c t (k + 1))) d = some (.dK (deckKvs c t (k + 1))) := upd_same
    have hc1 : upd H d (.dK (deckKvs c t (k + 1))) c = some (.lst (cs.map V.int)) := by rw [upd_ne ndc.symm]; exact hc
    have same1 : Same (hid d c H) (hid d c (upd H d (.dK (deckKvs c t (k + 1))))) := by
      rw [hid_upd (Or.inl rfl)]
      exact Same.refl _
    generalize upd H d (.dK (deckKvs c t (k + 1))) = H1 at hd1 hc1 same1
    have k1 : k + 1 ≤ (n : Int) + 1 := by omega
    have div64 : ∀ i, CDivW i m := fun i => wide_div h0 h64 (by decide) (by decide)
    -- the last rows, whatever the cell is
    have rows : ∀ (x : Int) (H2 : Hp) (v : Option V), (∃ cs2 : List Int, H2 d = some (.dK (deckKvs c t (k + 1))) ∧ H2 c = some (.lst (cs2.map V.int)) ∧ cs2.length ≤ 63) → Same (hid d c H) (hid d c H2) →
        (tSeq (tAsg (tOp rModA (tOp rMulA (tOp rAddA (tOp rAddA (tOp rModA (tVar 3) (tC (V.int 2147483629))) (tOp rMulA (tOp rMulA (tC (V.int 60251)) (tVar 2)) (tVar 2))) (tC (V.int 47))) (tC (V.int 40692))) (tC (V.int 2147483647))) (gName 4)) (tSeq (tAsg (tOp rModA (tOp rAddA (tOp rAddA (tOp rMulA (tVar 4) (tVar 4)) (tOp rMulA (tC (V.int 69809)) (tVar 2))) (tC (V.int 31))) (tC (V.int 2147483587))) (gName 4)) (tRet (tOp rModA (tOp rDivA (tOp rModA (tOp rMulA (tVar 4) (tC (V.int 39409))) (tC (V.int 2147483563))) (tC (V.int 64))) (tVar 1))))) { nx := fun _ H' => Q .non H', rt := Q } [some (.ref d), some (.int m), some (.int (k + 1)), some (.int x), v] H2 := by
      rintro x H2 v ⟨cs2, e1, e2, e3⟩ s2
      have kb : -(2 ^ 64) < k + 1 ∧ k + 1 < 2 ^ 64 := by omega
      refine ⟨_, rfl, _, _, rfl, rfl, (by dsimp only; decide), ?_⟩
      refine ⟨_, rfl, .inl (.inl ⟨_, _, rfl, rfl, .inr kb, ?_⟩)⟩
      refine ⟨_, rfl, .inl (.inl ⟨_, _, rfl, rfl, .inr kb, ?_⟩)⟩
      refine .inl (.inl ⟨_, _, rfl, rfl, .inl (.inl ⟨_, _, rfl, rfl, .inl (.inl ⟨_, _, rfl, rfl, .inr ⟨by decide, by decide⟩, ?_⟩)⟩)⟩)
      refine ⟨_, _, rfl, rfl, (by dsimp only; decide), ?_⟩
      refine ⟨_, rfl, _, rfl, .inl (.inl ⟨_, _, rfl, rfl, .inr (emb _ (by decide) (by decide)), ?_⟩)⟩
      refine ⟨_, rfl, .inl (.inl ⟨_, _, rfl, rfl, .inr kb, ?_⟩)⟩
      refine .inl (.inl ⟨_, _, rfl, rfl, .inl (.inl ⟨_, _, rfl, rfl, _, _, rfl, rfl, (by dsimp only; decide), ?_⟩)⟩)
      refine ⟨_, rfl, .inl (.inl ⟨_, _, rfl, rfl, .inr ⟨by decide, by decide⟩, ?_⟩)⟩
      refine ⟨_, _, rfl, rfl, (by dsimp only; decide), _, _, rfl, rfl, ⟨by decide, by decide +kernel⟩, ?_⟩
      exact ⟨_, rfl, _, _, rfl, rfl, h0, q _ _ (Int.emod_nonneg _ (by omega)) (Int.emod_lt_of_pos _ h0) ⟨t, k + 1, cs2, e1, e2, e3, by omega, by omega⟩ s2⟩
    refine ⟨_, rfl, _, _, rfl, dg_cells hd1, Nat.zero_le _, fun p hp => ?_⟩
    have npd : p ≠ d := fun e => by rw [e, hd1] at hp; cases hp
    have npc : p ≠ c := fun e => by rw [e, hc1] at hp; cases hp
    have hd2 : upd H1 p (.lst []) d = some (.dK (deckKvs c t (k + 1))) := by rw [upd_ne npd.symm]; exact hd1
    have hc2 : upd H1 p (.lst []) c = some (.lst (cs.map V.int)) := by rw [upd_ne npc.symm]; exact hc1
    have same2 : Same (hid d c H) (hid d c (upd H1 p (.lst []))) := same1.trans (hid_same (same_new hp _))
    refine ⟨_, _, .lst (SqL.of hc2) (ints_dp cs), .lst (SqL.of upd_same) .nil, ints_shaped cs, rfl, _, rfl, ?_⟩
    generalize upd H1 p (.lst []) = H2 at hd2 hc2 same2
    refine ite2 (fun ce => ?_) (fun ce => rows _ _ _ ⟨cs, hd2, hc2, hl⟩ same2)
    have ne : cs ≠ [] := by
      rintro rfl
      exact absurd ce (by decide)
    have hlast : (cs.map V.int)[(cs.map V.int).length - 1]? = some (.int (cs.getLast ne)) := by
      rw [List.length_map, List.getElem?_map, List.getLast_eq_getElem]
      rw [List.getElem?_eq_getElem]
      rfl
    refine ⟨_, rfl, _, _, rfl, dg_cells hd2, .inl ⟨rfl, _, SqL.of hc2⟩, c, _, _, rfl, rfl, hc2, hlast, ?_⟩
    have hd3 : upd H2 c (.lst (cs.map V.int).dropLast) d = some (.dK (deckKvs c t (k + 1))) := by rw [upd_ne ndc]; exact hd2
    have hc3 : upd H2 c (.lst (cs.map V.int).dropLast) c = some (.lst (cs.dropLast.map V.int)) := by rw [upd_same, List.map_dropLast]
    have same3 : Same (hid d c H) (hid d c (upd H2 c (.lst (cs.map V.int).dropLast))) := by
      rw [hid_upd (Or.inr rfl)]
      exact same2
    generalize upd H2 c (.lst (cs.map V.int).dropLast) = H3 at hd3 hc3 same3
    have hl3 : cs.dropLast.length < 63 := by
      rw [List.length_dropLast]
      have : 0 < cs.length := List.length_pos_iff.mpr ne
      omega
    refine ⟨_, rfl, _, _, rfl, rfl, ⟨by decide, by decide, by decide⟩, _, _, rfl, rfl, _, rfl, ?_⟩
    refine ite2 (fun cg => ?_) (fun cg => ?_)
    · refine ⟨_, rfl, _, _, rfl, dg_cells hd3, .inl ⟨rfl, _, SqL.of hc3⟩, _, rfl, _, rfl, _, _, rfl, rfl, div64 _, c, _, _, rfl, rfl, hc3, ?_, ?_⟩
      · rw [List.length_map]
        exact Nat.lt_trans hl3 (by decide)
      · refine ⟨_, rfl, _, rfl, _, _, rfl, rfl, h0, q _ _ (Int.emod_nonneg _ (by omega)) (Int.emod_lt_of_pos _ h0) ⟨t, k + 1, cs.dropLast ++ [cs.getLast ne / m], ?_, ?_, ?_, by omega, by omega⟩ ?_⟩
        · rw [upd_ne ndc]
          exact hd3
        · rw [upd_same, List.map_append]
          rfl
        · rw [List.length_append, List.length_singleton]
          omega
        · rw [hid_upd (Or.inr rfl)]
          exact same3
    · exact ⟨_, rfl, _, rfl, _, _, rfl, dg_total hd3, .inl (.inl ⟨_, _, rfl, rfl, rows _ _ _ ⟨_, hd3, hc3, Nat.le_of_lt hl3⟩ same3⟩)⟩

theorem sc__law_pick : FnScope ["_law_deck_here", "_law_some"] ["_law_deck_here", "_law_some"] (defScope (top 24)) := ⟨rfl, rfl, rfl, by decide +kernel, rfl, by decide +kernel, by decide +kernel⟩
theorem ok__law_pick (F : FnP K "_law_pick" 24 f fd) (hS : ∃ o, base.get? sysModules = some o) (B : Blt mg)
    (c__law_draw : Cal P w K mg base 1 "_law_draw" ["_law_deck_here", "_law_many"] spDraw) :
    FnG P w K mg base CX0 2 f fd ["_law_deck_here", "_law_some"] spPick := by
  refine okD F sc__law_pick hS (fun vs H Q E h => ?_) (fun cdv A outer s H vs Q E R h => ?_)
  · obtain ⟨d, c, n, u, rfl, _⟩ := h
    rfl
  obtain ⟨d, c, n, u, rfl, D, hn, q⟩ := h
  obtain ⟨m_isinstance, m_len, m_all, m_abs, m_repr, m_str, m_int, m_bool, m_list, m_tuple, m_range⟩ := B
  have nd := sc__law_pick.nd
  refine ⟨_, (pss_one (ps_ret (pe_ix ixAny (pv 1) (cc c__law_draw R (pa_cons (pv 0) (pa_cons (pe_callB call_lenA rfl m_len bt_len (pa_cons (pv 1) pa_nil)) pa_nil))) (fun _ _ => rfl)))), ?r⟩
  case r =>
    rcases q with ⟨a, xs, rfl, ha, h0, h1, q⟩ | ⟨z, rfl, h0, h1, q⟩
    · have ha1 := hid_sub _ _ ha
      refine ⟨_, rfl, _, rfl, _, rfl, .inl ⟨a, xs, rfl, .inl (SqL.of ha1), ?_⟩⟩
      refine ⟨d, c, n, _, rfl, D, hn, by omega, ?_, fun r H' r0 r1 D' s' => ?_⟩
      · omega
      · have ha2 := hid_sub _ _ (s' _ _ ha)
        have hj : r.toNat < xs.length := by omega
        have er : r = ((r.toNat : Nat) : Int) := by omega
        refine .inl ⟨a, xs, r, xs[r.toNat], rfl, rfl, SqL.of ha2, ?_, q r.toNat _ H' (List.getElem?_eq_getElem hj) D' s'⟩
        have e2 := atI_nat (List.getElem?_eq_getElem hj)
        rw [← er] at e2
        exact e2
    · refine ⟨_, rfl, _, rfl, _, rfl, .inr ⟨z, rfl, ?_, ?_⟩⟩
      · rw [sizeLine_eq]; omega
      refine ⟨d, c, n, _, rfl, D, hn, by omega, ?_, fun r H' r0 r1 D' s' => ?_⟩
      · omega
      · have hlen : z.cps.toList.length = z.length := by simp [Str.length]
        have hj : r.toNat < z.cps.toList.length := by omega
        have er : r = ((r.toNat : Nat) : Int) := by omega
        refine .inr (.inr ⟨z, r, z.cps.toList[r.toNat], rfl, rfl, by rw [sizeLine_eq]; omega, ?_, q _ H' (List.getElem_mem hj) D' s'⟩)
        have e2 := atI_nat (List.getElem?_eq_getElem hj)
        rw [← er] at e2
        exact e2
end
end K01
end

/-! K01d -/
section
open PySem PySem.Spec PyProof.Rows L2 FA
--imports K01c
namespace K01
section
variable {P : Program} {w : World} {K : PySem.W.Frag} {mg : Str → Option Value} {base : Heap} {f : Addr} {fd : FuncData}
def TT : Nat → Nat
  | 0 => 3
  | k + 1 => 3 * TT k + 3
def WW : Nat → Nat
  | 0 => 300
  | k + 1 => 3 * WW k + 300
theorem tt_ge : ∀ k, 3 ≤ TT k
  | 0 => Nat.le_refl _
  | k + 1 => by
    have := tt_ge k
    show 3 ≤ 3 * TT k + 3
    omega
theorem ww_ge : ∀ k, 300 ≤ WW k
  | 0 => Nat.le_refl _
  | k + 1 => by
    have := ww_ge k
    show 300 ≤ 3 * WW k + 300
    omega
def spThing (k : Nat) : Sp := fun vs H Q _ => ∃ (d c : Addr) (n : Nat), vs = [.ref d, .int (k : Int)] ∧ Deck H d c n ∧ n + TT k + 10 ≤ 1000000 ∧
  ∀ v x H', Dat (frs H H') x v → Okd (k + 1) (WW k) x → Deck H' d c (n + TT k) → Same (hid d c H) (hid d c H') → Q v H'
def spThingP : Nat → Sp
  | 0 => fun _ _ _ _ => False
  | k + 1 => spThing k
theorem okd_dict2 {D W V U T : Nat} {k x l y : PyData} (hk : Okd D W k) (h : Okd D V x) (hl : Okd D U l) (hy : Okd D T y) : Okd (D + 1) (W + V + U + T + 4) (.dict [(k, x), (l, y)]) := by
  refine ⟨?_, ?_, ?_, ?_, fun _ h => nomatch h⟩
  · simp only [PyData.showable, PyData.showableKv, hk.sh, h.sh, hl.sh, hy.sh, Bool.and_self]
  · simp only [PyData.leavesShort, PyData.leavesShortKv, hk.lv, h.lv, hl.lv, hy.lv, Bool.and_self]
  · simp only [PyData.depth, PyData.depthKv]
    exact Nat.succ_le_succ (Nat.max_le.mpr ⟨Nat.max_le.mpr ⟨hk.dp, h.dp⟩, Nat.max_le.mpr ⟨Nat.max_le.mpr ⟨hl.dp, hy.dp⟩, Nat.zero_le _⟩⟩)
  · simp only [PyData.weight, PyData.weightKv]
    have := h.wt
    have := hk.wt
    have := hl.wt
    have := hy.wt
    omega
theorem sc__law_thing : FnScope ["_law_deck_here", "_law_deep", "_law_way", "_law_some", "_law_k"] ["_law_deck_here", "_law_deep"] (defScope (top 25)) := ⟨rfl, rfl, rfl, by decide +kernel, rfl, by decide +kernel, by decide +kernel⟩
theorem ok__law_thing (k : Nat) (F : FnP K "_law_thing" 25 f fd) (hS : ∃ o, base.get? sysModules = some o) (B : Blt mg)
    (c__law_draw : Cal P w K mg base 1 "_law_draw" ["_law_deck_here", "_law_many"] spDraw)
    (c__law_pick : Cal P w K mg base 2 "_law_pick" ["_law_deck_here", "_law_some"] spPick)
    (c__law_thing : Cal P w K mg base (2 + k) "_law_thing" ["_law_deck_here", "_law_deep"] (spThingP k)) :
    FnG P w K mg base CX0 (3 + k) f fd ["_law_deck_here", "_law_deep"] (spThing k) := by
  have e5 : 3 + k = (2 + k) + 1 := by omega
  rw [e5]
  refine okD F sc__law_thing hS (fun vs H Q E h => ?_) (fun cdv A outer s H vs Q E R h => ?_)
  · obtain ⟨d, c, n, rfl, _⟩ := h
    rfl
  obtain ⟨d, c, n, rfl, D, hn, q⟩ := h
  obtain ⟨m_isinstance, m_len, m_all, m_abs, m_repr, m_str, m_int, m_bool, m_list, m_tuple, m_range⟩ := B
  have nd := sc__law_thing.nd
  have tk := tt_ge k
  have wk := ww_ge k
  refine ⟨_, (pss_cons (ps_set (i := 2) nd rfl (Or.inl rfl) (cc c__law_draw R (pa_cons (pv 0) (pa_cons pe_int pa_nil)))) (pss_cons (ps_if (PW.pt (pw_and (pt_cmpR opLt (pv 2) pe_int (nomark _)) (pw_and1 (pt_cmpR op_gt (pv 1) pe_int (nomark _))))) (pss_one (ps_ret (pe_tupleOf rfl m_tuple (pe_lc1 4 rfl nd (pi_range1 rfl m_range (pa_cons (cc c__law_draw R (pa_cons (pv 0) (pa_cons pe_int pa_nil))) pa_nil)) (by kernel_rfl) (fun _ _ _ _ _ => pg_name (i := 4) nd rfl (Or.inl rfl)) (fun _ _ _ _ _ => pts_nil) (fun _ _ _ _ _ => (cc c__law_thing (R.blk _ _ _ _ _) (pa_cons (pv 0) (pa_cons (pe_op op_sub (pv 1) pe_int) pa_nil)))))))) pss_nil) (pss_cons (ps_if (PW.pt (pw_and (pt_cmpR op_eq (pv 2) pe_int (nomark _)) (pw_and1 (pt_cmpR op_gt (pv 1) pe_int (nomark _))))) (pss_one (ps_ret (pe_lc1 4 rfl nd (pi_range1 rfl m_range (pa_cons (cc c__law_draw R (pa_cons (pv 0) (pa_cons pe_int pa_nil))) pa_nil)) (by kernel_rfl) (fun _ _ _ _ _ => pg_name (i := 4) nd rfl (Or.inl rfl)) (fun _ _ _ _ _ => pts_nil) (fun _ _ _ _ _ => (cc c__law_thing (R.blk _ _ _ _ _) (pa_cons (pv 0) (pa_cons (pe_op op_sub (pv 1) pe_int) pa_nil))))))) pss_nil) (pss_cons (ps_if (PW.pt (pw_and (pt_cmpR op_eq (pv 2) pe_int (nomark _)) (pw_and1 (pt_cmpR op_gt (pv 1) pe_int (nomark _))))) (pss_one (ps_ret (pe_disp (pps_cons pe_str (cc c__law_thing R (pa_cons (pv 0) (pa_cons (pe_op op_sub (pv 1) pe_int) pa_nil))) (pps_cons pe_int pe_non pps_nil)) rfl rfl (by decide) (by decide)))) pss_nil) (pss_cons (ps_set (i := 3) nd rfl (Or.inl rfl) (pe_lst (pa_cons pe_non (pa_cons pe_bl (pa_cons pe_bl (pa_cons pe_int (pa_cons (pe_un un_neg pe_int) (pa_cons (pe_op op_pow pe_int pe_int) (pa_cons pe_str (pa_cons pe_str (pa_cons pe_str (pa_cons (pe_tup (pa_cons pe_int (pa_cons pe_int pa_nil))) (pa_cons (pe_tup pa_nil) (pa_cons (pe_lst pa_nil) (pa_cons (pe_tup (pa_cons pe_str (pa_cons pe_str (pa_cons pe_str (pa_cons pe_str pa_nil))))) (pa_cons pe_int pa_nil)))))))))))))))) (pss_one (ps_ret (cc c__law_pick R (pa_cons (pv 0) (pa_cons (pv 3) pa_nil)))))))))), ?r⟩
  case r =>
    refine ⟨_, rfl, d, c, n, 12, rfl, D, by omega, by decide, by decide, fun r H1 a0 a1 D1 s1 => ?_⟩
    -- a tuple
    refine (fun rest => ⟨_, rfl, .inl ⟨_, _, rfl, rfl, _, rfl, ite2 (fun c1 => ⟨_, rfl, _, _, rfl, rfl, _, rfl, ite2 (fun c2 => ?A) (fun _ => rest)⟩) (fun _ => rest)⟩⟩) ?rest
    case A =>
      cases k with
      | zero => exact absurd c2 (by decide)
      | succ j =>
        have he : (((j + 1 : Nat) : Int)) - 1 = (j : Int) := by omega
        have etj : TT (j + 1) = 3 * TT j + 3 := rfl
        have ewj : WW (j + 1) = 3 * WW j + 300 := rfl
        refine ⟨_, rfl, d, c, n + 1, 4, rfl, D1, by omega, by decide, by decide, fun m H2 b0 b1 D2 s2 => ⟨m, rfl, by omega, by omega, fun L hL => ?_⟩⟩
        obtain ⟨Ld, Lc⟩ := D2.ne hL
        have D2L : Deck (upd H2 L (.lst [])) d c (n + 2) := D2.upd Ld Lc
        have hm2 : m.toNat ≤ 3 := by omega
        refine lc_it walk_range (fun i H' => ∃ (ys : List V) (ds : List PyData), H' L = some (.lst ys) ∧ ys.length = i ∧ ds.length = i ∧ DatAll (frs (upd H2 L (.lst [])) H') ds ys ∧ (∀ x ∈ ds, Okd (j + 1) (WW j) x) ∧
            Deck H' d c (n + 2 + i * TT j) ∧ Same (hid d c H2) (hid d c H'))
          ⟨[], [], upd_same, rfl, rfl, by simp only [DatAll], fun _ hy => (nomatch hy), by simpa using D2L, hid_same (same_new hL _)⟩ (fun _ _ _ _ => trivial) ?_ ?_
        · rintro i x H4 H5 hi ⟨ys, ds, e1, e2, e3, e4, e5, D5, s5⟩ ⟨rfl, rfl⟩
          have hi2 : i * TT j ≤ 2 * TT j := Nat.mul_le_mul_right _ (by omega)
          have es : (i + 1) * TT j = i * TT j + TT j := by rw [Nat.add_mul, Nat.one_mul]
          refine ⟨rfl, _, rfl, _, rfl, _, _, rfl, rfl, d, c, n + 2 + i * TT j, ?_, D5, by omega, fun v y H6 hy oy D6 s6 => ?_⟩
          · show [V.ref d, V.int _] = _
            rw [he]
          have hL5 : H5 L ≠ none := by rw [e1]; simp
          have dm : Dm (upd H2 L (.lst [])) H5 := by
            intro b hb
            have bL : b ≠ L := fun e => hL5 (e ▸ hb)
            rw [upd_ne bL]
            exact dm_of D5 s5 b hb
          refine ⟨ys, ?_, ?_, ys ++ [v], ds ++ [y], upd_same, by rw [List.length_append, e2]; rfl, by rw [List.length_append, e3]; rfl, ?_, ?_, ?_, hid_mut (s5.trans s6) hL Ld Lc⟩
          · rw [← hid_ne Ld Lc (H := H6)]
            exact s6 _ _ (by rw [hid_ne Ld Lc]; exact e1)
          · rw [e2]
            exact Nat.lt_of_lt_of_le hi (Nat.le_trans hm2 (by decide))
          · rw [frs_old upd_same]
            exact datAll_snoc (datAll_same (frs_on D2L s6) _ _ e4) (dat_same (frs_back dm) _ _ hy)
          · intro x hx
            rcases List.mem_append.mp hx with hx | hx
            · exact e5 x hx
            · have : x = y := by simpa using hx
              subst this
              exact oy
          · rw [es]
            exact (D6.mono (by omega)).upd Ld Lc
        · rintro H4 ⟨ys, ds, e1, e2, e3, e4, e5, D4, s4⟩
          have hi2 : m.toNat * TT j ≤ 3 * TT j := Nat.mul_le_mul_right _ hm2
          refine .inl ⟨L, ys, rfl, SqL.of e1, fun T hT => ?_⟩
          obtain ⟨Td, Tc⟩ := D4.ne hT
          have s14 := (s1.trans s2).trans s4
          have dmH : Dm H H4 := dm_of D4 s14
          have dmL : Dm H (upd H2 L (.lst [])) := (dm_of D2 (s1.trans s2)).trans (dm_same (same_new hL _))
          refine q _ (.tuple ds) _ ?_ ?_ ((D4.mono (by omega)).upd Td Tc) (hid_mut s14 (dmH _ hT) Td Tc)
          · simp only [Dat]
            refine ⟨T, ys, rfl, ?_, ?_⟩
            · rw [frs_new (dmH _ hT), upd_same]
            · exact datAll_same ((frs_back dmL).trans (frs_up hT)) _ _ e4
          · refine okd_tuple ((oks_all e5).mono (Nat.le_refl _) ?_)
            rw [e3, ewj]
            have : (WW j + 1) * m.toNat ≤ (WW j + 1) * 3 := Nat.mul_le_mul_left _ hm2
            omega
    case rest =>
      -- a list
      refine (fun rest => ⟨_, rfl, rfl, _, rfl, ite2 (fun c1 => ⟨_, rfl, _, _, rfl, rfl, _, rfl, ite2 (fun c2 => ?A) (fun _ => rest)⟩) (fun _ => rest)⟩) ?rest
      case A =>
        cases k with
        | zero => exact absurd c2 (by decide)
        | succ j =>
          have he : (((j + 1 : Nat) : Int)) - 1 = (j : Int) := by omega
          have etj : TT (j + 1) = 3 * TT j + 3 := rfl
          have ewj : WW (j + 1) = 3 * WW j + 300 := rfl
          refine ⟨_, rfl, d, c, n + 1, 3, rfl, D1, by omega, by decide, by decide, fun m H2 b0 b1 D2 s2 => ⟨m, rfl, by omega, by omega, fun L hL => ?_⟩⟩
          obtain ⟨Ld, Lc⟩ := D2.ne hL
          have D2L : Deck (upd H2 L (.lst [])) d c (n + 2) := D2.upd Ld Lc
          have hm2 : m.toNat ≤ 2 := by omega
          refine lc_it walk_range (fun i H' => ∃ (ys : List V) (ds : List PyData), H' L = some (.lst ys) ∧ ys.length = i ∧ ds.length = i ∧ DatAll (frs (upd H2 L (.lst [])) H') ds ys ∧ (∀ x ∈ ds, Okd (j + 1) (WW j) x) ∧
              Deck H' d c (n + 2 + i * TT j) ∧ Same (hid d c H2) (hid d c H'))
            ⟨[], [], upd_same, rfl, rfl, by simp only [DatAll], fun _ hy => (nomatch hy), by simpa using D2L, hid_same (same_new hL _)⟩ (fun _ _ _ _ => trivial) ?_ ?_
          · rintro i x H4 H5 hi ⟨ys, ds, e1, e2, e3, e4, e5, D5, s5⟩ ⟨rfl, rfl⟩
            have hi2 : i * TT j ≤ 1 * TT j := Nat.mul_le_mul_right _ (by omega)
            have es : (i + 1) * TT j = i * TT j + TT j := by rw [Nat.add_mul, Nat.one_mul]
            refine ⟨rfl, _, rfl, _, rfl, _, _, rfl, rfl, d, c, n + 2 + i * TT j, ?_, D5, by omega, fun v y H6 hy oy D6 s6 => ?_⟩
            · show [V.ref d, V.int _] = _
              rw [he]
            have hL5 : H5 L ≠ none := by rw [e1]; simp
            have dm : Dm (upd H2 L (.lst [])) H5 := by
              intro b hb
              have bL : b ≠ L := fun e => hL5 (e ▸ hb)
              rw [upd_ne bL]
              exact dm_of D5 s5 b hb
            refine ⟨ys, ?_, ?_, ys ++ [v], ds ++ [y], upd_same, by rw [List.length_append, e2]; rfl, by rw [List.length_append, e3]; rfl, ?_, ?_, ?_, hid_mut (s5.trans s6) hL Ld Lc⟩
            · rw [← hid_ne Ld Lc (H := H6)]
              exact s6 _ _ (by rw [hid_ne Ld Lc]; exact e1)
            · rw [e2]
              exact Nat.lt_of_lt_of_le hi (Nat.le_trans hm2 (by decide))
            · rw [frs_old upd_same]
              exact datAll_snoc (datAll_same (frs_on D2L s6) _ _ e4) (dat_same (frs_back dm) _ _ hy)
            · intro x hx
              rcases List.mem_append.mp hx with hx | hx
              · exact e5 x hx
              · have : x = y := by simpa using hx
                subst this
                exact oy
            · rw [es]
              exact (D6.mono (by omega)).upd Ld Lc
          · rintro H4 ⟨ys, ds, e1, e2, e3, e4, e5, D4, s4⟩
            have hi2 : m.toNat * TT j ≤ 2 * TT j := Nat.mul_le_mul_right _ hm2
            have s14 := (s1.trans s2).trans s4
            have dmL : Dm H (upd H2 L (.lst [])) := (dm_of D2 (s1.trans s2)).trans (dm_same (same_new hL _))
            refine q _ (.list ds) _ ?_ ?_ (D4.mono (by omega)) s14
            · simp only [Dat]
              refine ⟨L, ys, rfl, ?_, datAll_same (frs_back dmL) _ _ e4⟩
              rw [frs_new (dm_of D2 (s1.trans s2) _ hL)]
              exact e1
            · refine okd_list ((oks_all e5).mono (Nat.le_refl _) ?_)
              rw [e3, ewj]
              have : (WW j + 1) * m.toNat ≤ (WW j + 1) * 2 := Nat.mul_le_mul_left _ hm2
              omega
      case rest =>
        -- a dict
        refine (fun rest => ⟨_, rfl, rfl, _, rfl, ite2 (fun c1 => ⟨_, rfl, _, _, rfl, rfl, _, rfl, ite2 (fun c2 => ?A) (fun _ => rest)⟩) (fun _ => rest)⟩) ?rest
        case A =>
          cases k with
          | zero => exact absurd c2 (by decide)
          | succ j =>
            have he : (((j + 1 : Nat) : Int)) - 1 = (j : Int) := by omega
            have etj : TT (j + 1) = 3 * TT j + 3 := rfl
            have ewj : WW (j + 1) = 3 * WW j + 300 := rfl
            intro p2 hp2
            obtain ⟨p2d, p2c⟩ := D1.ne hp2
            have D3 := D1.upd (o := .dK []) p2d p2c
            refine ⟨_, rfl, _, rfl, _, _, rfl, rfl, d, c, n + 1, ?_, D3, by omega, fun v2 x2 H4 hx2 ox2 D4 s4 => ?_⟩
            · show [V.ref d, V.int _] = _
              rw [he]
            have e4 : H4 p2 = some (.dK []) := hid_sub _ _ (s4 _ _ (hid_at p2d p2c))
            refine ⟨e4, [(Sum.inr "a", v2), (Sum.inl 7, .non)], rfl, by show 2 ≤ 15; decide, ?_⟩
            have hp2' := hp2
            have dm1 : Dm H H1 := dm_of D1 s1
            have dm3 : Dm H (upd H1 p2 (.dK [])) := dm1.trans (dm_same (same_new hp2 _))
            have s14 : Same (hid d c H1) (hid d c H4) := (hid_same (same_new hp2 _)).trans s4
            refine q _ (.dict [(.str "a", x2), (.int 7, .none)]) _ ?_ ?_ ((D4.mono (by omega)).upd p2d p2c) (hid_mut (s1.trans s14) (dm1 _ hp2) p2d p2c)
            · simp only [Dat, DatKv]
              refine ⟨p2, [(Sum.inr "a", v2), (Sum.inl 7, .non)], rfl, ?_, Sum.inr "a", v2, [(Sum.inl 7, .non)], rfl, rfl, ?_, Sum.inl 7, .non, [], rfl, rfl, rfl, rfl⟩
              · rw [frs_new (dm1 _ hp2), upd_same]
                rfl
              · have f5 : Same (frs (upd H1 p2 (.dK [])) H4) (frs (upd H1 p2 (.dK [])) (upd H4 p2 (.dK (mergeK [] [(Sum.inr "a", v2), (Sum.inl 7, .non)])))) := by
                  rw [frs_old upd_same]
                  exact Same.refl _
                exact dat_same (f5.trans (frs_back dm3)) _ _ hx2
            · exact (okd_dict2 (okd_str (W := 1) (low_of (by decide)) (by decide)) ox2 (okd_int (W := 140) (by decide) (Nat.le_refl _)) (okd_non (W := 0))).mono (Nat.le_refl _) (by omega)
        case rest =>
          -- one of many
          refine ⟨_, rfl, _, _, rfl, rfl, ⟨by decide, by decide, by decide⟩, by show 2 ≤ sizeLine; decide, fun p1 hp1 => ?_⟩
          obtain ⟨p1d, p1c⟩ := D1.ne hp1
          have E1 := D1.upd (o := .tup [.int 1, .int 2]) p1d p1c
          refine ⟨Nat.zero_le _, fun p2 hp2 => ?_⟩
          obtain ⟨p2d, p2c⟩ := E1.ne hp2
          have E2 := E1.upd (o := .tup []) p2d p2c
          refine ⟨Nat.zero_le _, fun p3 hp3 => ?_⟩
          obtain ⟨p3d, p3c⟩ := E2.ne hp3
          have E3 := E2.upd (o := .lst []) p3d p3c
          refine ⟨by show 4 ≤ sizeLine; decide, fun p4 hp4 => ?_⟩
          obtain ⟨p4d, p4c⟩ := E3.ne hp4
          have E4 := E3.upd (o := .tup [.str "no", .str "t", .str "a", .str "word"]) p4d p4c
          refine ⟨by show 14 ≤ sizeLine; decide, fun p5 hp5 => ?_⟩
          obtain ⟨p5d, p5c⟩ := E4.ne hp5
          refine ⟨_, rfl, _, rfl, d, c, n + 1, _, rfl, E4.upd p5d p5c, by omega, .inl ⟨p5, _, rfl, hid_at p5d p5c, by show 0 < 14; decide, by show 14 ≤ 1000000; decide, fun i x H9 hx D9 s9 => ?_⟩⟩
          have t4 := (hid_same (d := d) (c := c) (same_new hp5 _)).trans s9
          have t3 := (hid_same (d := d) (c := c) (same_new hp4 _)).trans t4
          have t2 := (hid_same (d := d) (c := c) (same_new hp3 _)).trans t3
          have t1 := (hid_same (d := d) (c := c) (same_new hp2 _)).trans t2
          have t0 := (hid_same (d := d) (c := c) (same_new hp1 _)).trans t1
          have sH := s1.trans t0
          have m1 : Dm H H1 := dm_of D1 s1
          have m2 := m1.trans (dm_same (same_new hp1 (.tup [.int 1, .int 2])))
          have m3 := m2.trans (dm_same (same_new hp2 (.tup [])))
          have m4 := m3.trans (dm_same (same_new hp3 (.lst [])))
          have a1 : frs H H9 p1 = some (.tup [.int 1, .int 2]) := by
            rw [frs_new (m1 _ hp1)]
            exact hid_sub _ _ (t1 _ _ (hid_at p1d p1c))
          have a2 : frs H H9 p2 = some (.tup []) := by
            rw [frs_new (m2 _ hp2)]
            exact hid_sub _ _ (t2 _ _ (hid_at p2d p2c))
          have a3 : frs H H9 p3 = some (.lst []) := by
            rw [frs_new (m3 _ hp3)]
            exact hid_sub _ _ (t3 _ _ (hid_at p3d p3c))
          have a4 : frs H H9 p4 = some (.tup [.str "no", .str "t", .str "a", .str "word"]) := by
            rw [frs_new (m4 _ hp4)]
            exact hid_sub _ _ (t4 _ _ (hid_at p4d p4c))
          have D9' := D9.mono (by omega : n + 1 + 1 ≤ n + TT k)
          have e39 : (10 : Int) ^ Int.toNat 39 = 10 ^ 39 := by decide
          have ok0 : ∀ {x : PyData}, Okd 1 300 x → Okd (k + 1) (WW k) x := fun h => h.mono (by omega) wk
          have int1 : ∀ i : Int, i.natAbs < 10 ^ 40 → Q (.int i) H9 := fun i hi => q _ (.int i) _ (by simp only [Dat]) (ok0 (okd_int hi (by decide))) D9' sH
          have str1 : ∀ y : Str, Low y → y.length ≤ 300 → Q (.str y) H9 := fun y hy hl => q _ (.str y) _ (by simp only [Dat]) (ok0 (okd_str hy hl)) D9' sH
          have st : ∀ z : Str, z.cps.toList.all (fun c => decide (c < 128)) = true → z.length ≤ 20 → Okd 0 20 (.str z) := fun z h1 h2 => okd_str (low_of h1) h2
          have hm := List.mem_of_getElem? hx
          simp only [List.mem_cons, List.not_mem_nil, or_false] at hm
          rcases hm with rfl | rfl | rfl | rfl | rfl | rfl | rfl | rfl | rfl | rfl | rfl | rfl | rfl | rfl
          · exact q _ .none _ (by simp only [Dat]) (ok0 okd_non) D9' sH
          · exact q _ (.bool true) _ (by simp only [Dat]) (ok0 okd_bool) D9' sH
          · exact q _ (.bool false) _ (by simp only [Dat]) (ok0 okd_bool) D9' sH
          · exact int1 _ (by decide)
          · exact int1 _ (by decide)
          · exact int1 _ (by decide)
          · exact str1 _ (low_of (by decide)) (by decide)
          · exact str1 _ (low_of (by decide)) (by decide)
          · exact str1 _ (low_of (by decide)) (by decide)
          · refine q _ (.tuple [.int 1, .int 2]) _ ?_ (ok0 (okd_tuple ((oks_cons (okd_int (W := 140) (by decide) (Nat.le_refl _)) (oks_cons (okd_int (W := 140) (by decide) (Nat.le_refl _)) oks_nil)).mono (Nat.le_refl _) (by omega : 140 + 1 + (140 + 1 + 0) ≤ 300)))) D9' sH
            simp only [Dat, DatAll]
            exact ⟨p1, _, rfl, a1, _, _, rfl, rfl, _, _, rfl, rfl, rfl⟩
          · refine q _ (.tuple []) _ ?_ (ok0 (okd_tuple oks_nil)) D9' sH
            simp only [Dat, DatAll]
            exact ⟨p2, _, rfl, a2, rfl⟩
          · refine q _ (.list []) _ ?_ (ok0 (okd_list oks_nil)) D9' sH
            simp only [Dat, DatAll]
            exact ⟨p3, _, rfl, a3, rfl⟩
          · refine q _ (.tuple [.str "no", .str "t", .str "a", .str "word"]) _ ?_ (ok0 (okd_tuple ((oks_cons (st _ (by decide) (by decide)) (oks_cons (st _ (by decide) (by decide)) (oks_cons (st _ (by decide) (by decide)) (oks_cons (st _ (by decide) (by decide)) (oks_nil (W := 0)))))).mono (Nat.le_refl _) (by decide)))) D9' sH
            simp only [Dat, DatAll]
            exact ⟨p4, _, rfl, a4, _, _, rfl, rfl, _, _, rfl, rfl, _, _, rfl, rfl, _, _, rfl, rfl, rfl⟩
          · exact int1 _ (by decide)
end
end K01
end

/-! K01e -/
section
open PySem PySem.Spec PyProof.Rows L2 FA
--imports K01d
namespace K01
abbrev FnC (K : PySem.W.Frag) (q : Str) (i : Nat) (f : Addr) (fd : FuncData) : Prop := FunD K "__init__" q (defArgs (inClass (top i) 0)) (defBody (inClass (top i) 0)) (defScope (inClass (top i) 0)) [] [] f fd
/-- an __init__ that puts its parameters into fields -/
def spIni (C : Addr) (n : Nat) (g : List V → List (Str × V)) : Sp := fun vs H Q _ => ∃ (a : Addr) (ys : List V), vs = .ref a :: ys ∧ ys.length = n ∧ H a = some (exo a C none) ∧
  ∀ dx H', H dx = none → dx ≠ a → H' a = some (exo a C (some dx)) → H' dx = some (exd dx (g ys)) → (∀ b, b ≠ a → b ≠ dx → H' b = H b) → Q .non H'
/-- one that does nothing -/
def spNo (C : Addr) : Sp := fun vs H Q _ => ∃ (a : Addr), vs = [.ref a] ∧ H a = some (exo a C none) ∧ Q .non H
def one (f : Str) : List V → List (Str × V)
  | [y] => [(f, y)]
  | _ => []
def three : List V → List (Str × V)
  | [x, y, z] => [("numbers", z), ("place", y), ("word", x)]
  | _ => []
section
variable {P : Program} {w : World} {K : PySem.W.Frag} {mg : Str → Option Value} {base : Heap} {f : Addr} {fd : FuncData} {C : Addr}
theorem sc_Failed : FnScope ["self", "word", "place", "numbers"] ["self", "word", "place", "numbers"] (defScope (inClass (top 2) 0)) := ⟨rfl, rfl, rfl, by decide +kernel, rfl, by decide +kernel, by decide +kernel⟩
theorem ini_Failed (F : FnC K "Failed.__init__" 2 f fd) (hS : ∃ o, base.get? sysModules = some o) (T : Ecl K C) (h1 : PySem.W.findIn K (.ref C) "word" = some none) (h2 : PySem.W.findIn K (.ref C) "place" = some none)
    (h3 : PySem.W.findIn K (.ref C) "numbers" = some none) : FnG P w K mg base CX0 1 f fd ["self", "word", "place", "numbers"] (spIni C 3 three) := by
  refine okD F sc_Failed hS (fun vs H Q E h => ?_) (fun cdv A outer s H vs Q E R h => ?_)
  · obtain ⟨a, ys, rfl, hl, _⟩ := h
    show ys.length + 1 = 4
    rw [hl]
  obtain ⟨a, ys, rfl, hl, ha, q⟩ := h
  match ys, hl with
  | [x, y, z], _ =>
    refine ⟨_, pss_cons (ps_est (pv 0) (pv 1)) (pss_cons (ps_est (pv 0) (pv 2)) (pss_one (ps_est (pv 0) (pv 3)))), ?r⟩
    case r =>
      refine ⟨_, rfl, _, rfl, a, C, rfl, T, h1, .inl ⟨ha, fun dx hd ne => ?_⟩⟩
      refine ⟨_, rfl, _, rfl, a, C, rfl, T, h2, .inr ⟨dx, _, upd_same, by rw [upd_ne ne, upd_same], by show 1 ≤ 900; decide, ?_⟩⟩
      refine ⟨_, rfl, _, rfl, a, C, rfl, T, h3, .inr ⟨dx, _, by rw [upd_ne ne.symm, upd_same], upd_same, by show 2 ≤ 900; decide, ?_⟩⟩
      exact q dx _ hd ne (by rw [upd_ne ne.symm, upd_ne ne.symm, upd_same]) upd_same fun b n1 n2 => by rw [upd_ne n2, upd_ne n2, upd_ne n1, upd_ne n2]
theorem sc_NameTaken : FnScope ["self", "name"] ["self", "name"] (defScope (inClass (top 3) 0)) := ⟨rfl, rfl, rfl, by decide +kernel, rfl, by decide +kernel, by decide +kernel⟩
theorem ini_NameTaken (F : FnC K "NameTaken.__init__" 3 f fd) (hS : ∃ o, base.get? sysModules = some o) (T : Ecl K C) (h1 : PySem.W.findIn K (.ref C) "name" = some none) : FnG P w K mg base CX0 1 f fd ["self", "name"] (spIni C 1 (one "name")) := by
  refine okD F sc_NameTaken hS (fun vs H Q E h => ?_) (fun cdv A outer s H vs Q E R h => ?_)
  · obtain ⟨a, ys, rfl, hl, _⟩ := h
    show ys.length + 1 = 2
    rw [hl]
  obtain ⟨a, ys, rfl, hl, ha, q⟩ := h
  match ys, hl with
  | [y], _ =>
    exact ⟨_, pss_one (ps_est (pv 0) (pv 1)), _, rfl, _, rfl, a, C, rfl, T, h1, .inl ⟨ha, fun dx hd ne => q dx _ hd ne upd_same (by rw [upd_ne ne, upd_same]; rfl) fun b n1 n2 => by rw [upd_ne n1, upd_ne n2]⟩⟩
theorem sc_BadTable : FnScope ["self", "part"] ["self", "part"] (defScope (inClass (top 4) 0)) := ⟨rfl, rfl, rfl, by decide +kernel, rfl, by decide +kernel, by decide +kernel⟩
theorem ini_BadTable (F : FnC K "BadTable.__init__" 4 f fd) (hS : ∃ o, base.get? sysModules = some o) (T : Ecl K C) (h1 : PySem.W.findIn K (.ref C) "part" = some none) : FnG P w K mg base CX0 1 f fd ["self", "part"] (spIni C 1 (one "part")) := by
  refine okD F sc_BadTable hS (fun vs H Q E h => ?_) (fun cdv A outer s H vs Q E R h => ?_)
  · obtain ⟨a, ys, rfl, hl, _⟩ := h
    show ys.length + 1 = 2
    rw [hl]
  obtain ⟨a, ys, rfl, hl, ha, q⟩ := h
  match ys, hl with
  | [y], _ =>
    exact ⟨_, pss_one (ps_est (pv 0) (pv 1)), _, rfl, _, rfl, a, C, rfl, T, h1, .inl ⟨ha, fun dx hd ne => q dx _ hd ne upd_same (by rw [upd_ne ne, upd_same]; rfl) fun b n1 n2 => by rw [upd_ne n1, upd_ne n2]⟩⟩
theorem sc_NoTable : FnScope ["self", "name"] ["self", "name"] (defScope (inClass (top 5) 0)) := ⟨rfl, rfl, rfl, by decide +kernel, rfl, by decide +kernel, by decide +kernel⟩
theorem ini_NoTable (F : FnC K "NoTable.__init__" 5 f fd) (hS : ∃ o, base.get? sysModules = some o) (T : Ecl K C) (h1 : PySem.W.findIn K (.ref C) "name" = some none) : FnG P w K mg base CX0 1 f fd ["self", "name"] (spIni C 1 (one "name")) := by
  refine okD F sc_NoTable hS (fun vs H Q E h => ?_) (fun cdv A outer s H vs Q E R h => ?_)
  · obtain ⟨a, ys, rfl, hl, _⟩ := h
    show ys.length + 1 = 2
    rw [hl]
  obtain ⟨a, ys, rfl, hl, ha, q⟩ := h
  match ys, hl with
  | [y], _ =>
    exact ⟨_, pss_one (ps_est (pv 0) (pv 1)), _, rfl, _, rfl, a, C, rfl, T, h1, .inl ⟨ha, fun dx hd ne => q dx _ hd ne upd_same (by rw [upd_ne ne, upd_same]; rfl) fun b n1 n2 => by rw [upd_ne n1, upd_ne n2]⟩⟩
theorem sc_NoColumn : FnScope ["self", "name"] ["self", "name"] (defScope (inClass (top 6) 0)) := ⟨rfl, rfl, rfl, by decide +kernel, rfl, by decide +kernel, by decide +kernel⟩
theorem ini_NoColumn (F : FnC K "NoColumn.__init__" 6 f fd) (hS : ∃ o, base.get? sysModules = some o) (T : Ecl K C) (h1 : PySem.W.findIn K (.ref C) "name" = some none) : FnG P w K mg base CX0 1 f fd ["self", "name"] (spIni C 1 (one "name")) := by
  refine okD F sc_NoColumn hS (fun vs H Q E h => ?_) (fun cdv A outer s H vs Q E R h => ?_)
  · obtain ⟨a, ys, rfl, hl, _⟩ := h
    show ys.length + 1 = 2
    rw [hl]
  obtain ⟨a, ys, rfl, hl, ha, q⟩ := h
  match ys, hl with
  | [y], _ =>
    exact ⟨_, pss_one (ps_est (pv 0) (pv 1)), _, rfl, _, rfl, a, C, rfl, T, h1, .inl ⟨ha, fun dx hd ne => q dx _ hd ne upd_same (by rw [upd_ne ne, upd_same]; rfl) fun b n1 n2 => by rw [upd_ne n1, upd_ne n2]⟩⟩
theorem sc_BadRow : FnScope ["self", "column"] ["self", "column"] (defScope (inClass (top 7) 0)) := ⟨rfl, rfl, rfl, by decide +kernel, rfl, by decide +kernel, by decide +kernel⟩
theorem ini_BadRow (F : FnC K "BadRow.__init__" 7 f fd) (hS : ∃ o, base.get? sysModules = some o) (T : Ecl K C) (h1 : PySem.W.findIn K (.ref C) "column" = some none) : FnG P w K mg base CX0 1 f fd ["self", "column"] (spIni C 1 (one "column")) := by
  refine okD F sc_BadRow hS (fun vs H Q E h => ?_) (fun cdv A outer s H vs Q E R h => ?_)
  · obtain ⟨a, ys, rfl, hl, _⟩ := h
    show ys.length + 1 = 2
    rw [hl]
  obtain ⟨a, ys, rfl, hl, ha, q⟩ := h
  match ys, hl with
  | [y], _ =>
    exact ⟨_, pss_one (ps_est (pv 0) (pv 1)), _, rfl, _, rfl, a, C, rfl, T, h1, .inl ⟨ha, fun dx hd ne => q dx _ hd ne upd_same (by rw [upd_ne ne, upd_same]; rfl) fun b n1 n2 => by rw [upd_ne n1, upd_ne n2]⟩⟩
theorem sc_KeyTaken : FnScope ["self", "column"] ["self", "column"] (defScope (inClass (top 8) 0)) := ⟨rfl, rfl, rfl, by decide +kernel, rfl, by decide +kernel, by decide +kernel⟩
theorem ini_KeyTaken (F : FnC K "KeyTaken.__init__" 8 f fd) (hS : ∃ o, base.get? sysModules = some o) (T : Ecl K C) (h1 : PySem.W.findIn K (.ref C) "column" = some none) : FnG P w K mg base CX0 1 f fd ["self", "column"] (spIni C 1 (one "column")) := by
  refine okD F sc_KeyTaken hS (fun vs H Q E h => ?_) (fun cdv A outer s H vs Q E R h => ?_)
  · obtain ⟨a, ys, rfl, hl, _⟩ := h
    show ys.length + 1 = 2
    rw [hl]
  obtain ⟨a, ys, rfl, hl, ha, q⟩ := h
  match ys, hl with
  | [y], _ =>
    exact ⟨_, pss_one (ps_est (pv 0) (pv 1)), _, rfl, _, rfl, a, C, rfl, T, h1, .inl ⟨ha, fun dx hd ne => q dx _ hd ne upd_same (by rw [upd_ne ne, upd_same]; rfl) fun b n1 n2 => by rw [upd_ne n1, upd_ne n2]⟩⟩
theorem sc_NoRow : FnScope ["self", "number"] ["self", "number"] (defScope (inClass (top 9) 0)) := ⟨rfl, rfl, rfl, by decide +kernel, rfl, by decide +kernel, by decide +kernel⟩
theorem ini_NoRow (F : FnC K "NoRow.__init__" 9 f fd) (hS : ∃ o, base.get? sysModules = some o) (T : Ecl K C) (h1 : PySem.W.findIn K (.ref C) "number" = some none) : FnG P w K mg base CX0 1 f fd ["self", "number"] (spIni C 1 (one "number")) := by
  refine okD F sc_NoRow hS (fun vs H Q E h => ?_) (fun cdv A outer s H vs Q E R h => ?_)
  · obtain ⟨a, ys, rfl, hl, _⟩ := h
    show ys.length + 1 = 2
    rw [hl]
  obtain ⟨a, ys, rfl, hl, ha, q⟩ := h
  match ys, hl with
  | [y], _ =>
    exact ⟨_, pss_one (ps_est (pv 0) (pv 1)), _, rfl, _, rfl, a, C, rfl, T, h1, .inl ⟨ha, fun dx hd ne => q dx _ hd ne upd_same (by rw [upd_ne ne, upd_same]; rfl) fun b n1 n2 => by rw [upd_ne n1, upd_ne n2]⟩⟩
theorem sc_NoQuestion : FnScope ["self"] ["self"] (defScope (inClass (top 10) 0)) := ⟨rfl, rfl, rfl, by decide +kernel, rfl, by decide +kernel, by decide +kernel⟩
theorem ini_NoQuestion (F : FnC K "NoQuestion.__init__" 10 f fd) (hS : ∃ o, base.get? sysModules = some o) : FnG P w K mg base CX0 1 f fd ["self"] (spNo C) := by
  refine okD F sc_NoQuestion hS (fun vs H Q E h => ?_) (fun cdv A outer s H vs Q E R h => ?_)
  · obtain ⟨a, rfl, _⟩ := h
    rfl
  obtain ⟨a, rfl, ha, q⟩ := h
  exact ⟨_, pss_one ps_pass, q⟩
theorem sc_NotPlain : FnScope ["self"] ["self"] (defScope (inClass (top 11) 0)) := ⟨rfl, rfl, rfl, by decide +kernel, rfl, by decide +kernel, by decide +kernel⟩
theorem ini_NotPlain (F : FnC K "NotPlain.__init__" 11 f fd) (hS : ∃ o, base.get? sysModules = some o) : FnG P w K mg base CX0 1 f fd ["self"] (spNo C) := by
  refine okD F sc_NotPlain hS (fun vs H Q E h => ?_) (fun cdv A outer s H vs Q E R h => ?_)
  · obtain ⟨a, rfl, _⟩ := h
    rfl
  obtain ⟨a, rfl, ha, q⟩ := h
  exact ⟨_, pss_one ps_pass, q⟩
theorem sc_TooGreat : FnScope ["self", "limit"] ["self", "limit"] (defScope (inClass (top 12) 0)) := ⟨rfl, rfl, rfl, by decide +kernel, rfl, by decide +kernel, by decide +kernel⟩
theorem ini_TooGreat (F : FnC K "TooGreat.__init__" 12 f fd) (hS : ∃ o, base.get? sysModules = some o) (T : Ecl K C) (h1 : PySem.W.findIn K (.ref C) "limit" = some none) : FnG P w K mg base CX0 1 f fd ["self", "limit"] (spIni C 1 (one "limit")) := by
  refine okD F sc_TooGreat hS (fun vs H Q E h => ?_) (fun cdv A outer s H vs Q E R h => ?_)
  · obtain ⟨a, ys, rfl, hl, _⟩ := h
    show ys.length + 1 = 2
    rw [hl]
  obtain ⟨a, ys, rfl, hl, ha, q⟩ := h
  match ys, hl with
  | [y], _ =>
    exact ⟨_, pss_one (ps_est (pv 0) (pv 1)), _, rfl, _, rfl, a, C, rfl, T, h1, .inl ⟨ha, fun dx hd ne => q dx _ hd ne upd_same (by rw [upd_ne ne, upd_same]; rfl) fun b n1 n2 => by rw [upd_ne n1, upd_ne n2]⟩⟩
theorem sc_NoPlan : FnScope ["self"] ["self"] (defScope (inClass (top 13) 0)) := ⟨rfl, rfl, rfl, by decide +kernel, rfl, by decide +kernel, by decide +kernel⟩
theorem ini_NoPlan (F : FnC K "NoPlan.__init__" 13 f fd) (hS : ∃ o, base.get? sysModules = some o) : FnG P w K mg base CX0 1 f fd ["self"] (spNo C) := by
  refine okD F sc_NoPlan hS (fun vs H Q E h => ?_) (fun cdv A outer s H vs Q E R h => ?_)
  · obtain ⟨a, rfl, _⟩ := h
    rfl
  obtain ⟨a, rfl, ha, q⟩ := h
  exact ⟨_, pss_one ps_pass, q⟩
theorem sc_Outdated : FnScope ["self", "fact"] ["self", "fact"] (defScope (inClass (top 14) 0)) := ⟨rfl, rfl, rfl, by decide +kernel, rfl, by decide +kernel, by decide +kernel⟩
theorem ini_Outdated (F : FnC K "Outdated.__init__" 14 f fd) (hS : ∃ o, base.get? sysModules = some o) (T : Ecl K C) (h1 : PySem.W.findIn K (.ref C) "fact" = some none) : FnG P w K mg base CX0 1 f fd ["self", "fact"] (spIni C 1 (one "fact")) := by
  refine okD F sc_Outdated hS (fun vs H Q E h => ?_) (fun cdv A outer s H vs Q E R h => ?_)
  · obtain ⟨a, ys, rfl, hl, _⟩ := h
    show ys.length + 1 = 2
    rw [hl]
  obtain ⟨a, ys, rfl, hl, ha, q⟩ := h
  match ys, hl with
  | [y], _ =>
    exact ⟨_, pss_one (ps_est (pv 0) (pv 1)), _, rfl, _, rfl, a, C, rfl, T, h1, .inl ⟨ha, fun dx hd ne => q dx _ hd ne upd_same (by rw [upd_ne ne, upd_same]; rfl) fun b n1 n2 => by rw [upd_ne n1, upd_ne n2]⟩⟩
theorem sc_NoGoal : FnScope ["self", "number"] ["self", "number"] (defScope (inClass (top 15) 0)) := ⟨rfl, rfl, rfl, by decide +kernel, rfl, by decide +kernel, by decide +kernel⟩
theorem ini_NoGoal (F : FnC K "NoGoal.__init__" 15 f fd) (hS : ∃ o, base.get? sysModules = some o) (T : Ecl K C) (h1 : PySem.W.findIn K (.ref C) "number" = some none) : FnG P w K mg base CX0 1 f fd ["self", "number"] (spIni C 1 (one "number")) := by
  refine okD F sc_NoGoal hS (fun vs H Q E h => ?_) (fun cdv A outer s H vs Q E R h => ?_)
  · obtain ⟨a, ys, rfl, hl, _⟩ := h
    show ys.length + 1 = 2
    rw [hl]
  obtain ⟨a, ys, rfl, hl, ha, q⟩ := h
  match ys, hl with
  | [y], _ =>
    exact ⟨_, pss_one (ps_est (pv 0) (pv 1)), _, rfl, _, rfl, a, C, rfl, T, h1, .inl ⟨ha, fun dx hd ne => q dx _ hd ne upd_same (by rw [upd_ne ne, upd_same]; rfl) fun b n1 n2 => by rw [upd_ne n1, upd_ne n2]⟩⟩
theorem sc_NoCourse : FnScope ["self", "number"] ["self", "number"] (defScope (inClass (top 16) 0)) := ⟨rfl, rfl, rfl, by decide +kernel, rfl, by decide +kernel, by decide +kernel⟩
theorem ini_NoCourse (F : FnC K "NoCourse.__init__" 16 f fd) (hS : ∃ o, base.get? sysModules = some o) (T : Ecl K C) (h1 : PySem.W.findIn K (.ref C) "number" = some none) : FnG P w K mg base CX0 1 f fd ["self", "number"] (spIni C 1 (one "number")) := by
  refine okD F sc_NoCourse hS (fun vs H Q E h => ?_) (fun cdv A outer s H vs Q E R h => ?_)
  · obtain ⟨a, ys, rfl, hl, _⟩ := h
    show ys.length + 1 = 2
    rw [hl]
  obtain ⟨a, ys, rfl, hl, ha, q⟩ := h
  match ys, hl with
  | [y], _ =>
    exact ⟨_, pss_one (ps_est (pv 0) (pv 1)), _, rfl, _, rfl, a, C, rfl, T, h1, .inl ⟨ha, fun dx hd ne => q dx _ hd ne upd_same (by rw [upd_ne ne, upd_same]; rfl) fun b n1 n2 => by rw [upd_ne n1, upd_ne n2]⟩⟩
theorem sc_InvalidText : FnScope ["self"] ["self"] (defScope (inClass (top 17) 0)) := ⟨rfl, rfl, rfl, by decide +kernel, rfl, by decide +kernel, by decide +kernel⟩
theorem ini_InvalidText (F : FnC K "InvalidText.__init__" 17 f fd) (hS : ∃ o, base.get? sysModules = some o) : FnG P w K mg base CX0 1 f fd ["self"] (spNo C) := by
  refine okD F sc_InvalidText hS (fun vs H Q E h => ?_) (fun cdv A outer s H vs Q E R h => ?_)
  · obtain ⟨a, rfl, _⟩ := h
    rfl
  obtain ⟨a, rfl, ha, q⟩ := h
  exact ⟨_, pss_one ps_pass, q⟩
theorem sc_InvalidCommand : FnScope ["self"] ["self"] (defScope (inClass (top 18) 0)) := ⟨rfl, rfl, rfl, by decide +kernel, rfl, by decide +kernel, by decide +kernel⟩
theorem ini_InvalidCommand (F : FnC K "InvalidCommand.__init__" 18 f fd) (hS : ∃ o, base.get? sysModules = some o) : FnG P w K mg base CX0 1 f fd ["self"] (spNo C) := by
  refine okD F sc_InvalidCommand hS (fun vs H Q E h => ?_) (fun cdv A outer s H vs Q E R h => ?_)
  · obtain ⟨a, rfl, _⟩ := h
    rfl
  obtain ⟨a, rfl, ha, q⟩ := h
  exact ⟨_, pss_one ps_pass, q⟩
theorem sc_NothingAsked : FnScope ["self"] ["self"] (defScope (inClass (top 19) 0)) := ⟨rfl, rfl, rfl, by decide +kernel, rfl, by decide +kernel, by decide +kernel⟩
theorem ini_NothingAsked (F : FnC K "NothingAsked.__init__" 19 f fd) (hS : ∃ o, base.get? sysModules = some o) : FnG P w K mg base CX0 1 f fd ["self"] (spNo C) := by
  refine okD F sc_NothingAsked hS (fun vs H Q E h => ?_) (fun cdv A outer s H vs Q E R h => ?_)
  · obtain ⟨a, rfl, _⟩ := h
    rfl
  obtain ⟨a, rfl, ha, q⟩ := h
  exact ⟨_, pss_one ps_pass, q⟩
theorem sc_NoRun : FnScope ["self"] ["self"] (defScope (inClass (top 20) 0)) := ⟨rfl, rfl, rfl, by decide +kernel, rfl, by decide +kernel, by decide +kernel⟩
theorem ini_NoRun (F : FnC K "NoRun.__init__" 20 f fd) (hS : ∃ o, base.get? sysModules = some o) : FnG P w K mg base CX0 1 f fd ["self"] (spNo C) := by
  refine okD F sc_NoRun hS (fun vs H Q E h => ?_) (fun cdv A outer s H vs Q E R h => ?_)
  · obtain ⟨a, rfl, _⟩ := h
    rfl
  obtain ⟨a, rfl, ha, q⟩ := h
  exact ⟨_, pss_one ps_pass, q⟩
end
end K01
end

/-! K01f -/
section
open PySem PySem.Spec PyProof.Rows L2 FA
--imports K01e
namespace K01
theorem bt_ValueError : bootBuiltins "ValueError" = some (.type "ValueError") := by decide +kernel
theorem bt_LookupError : bootBuiltins "LookupError" = some (.type "LookupError") := by decide +kernel
theorem bt_ArithmeticError : bootBuiltins "ArithmeticError" = some (.type "ArithmeticError") := by decide +kernel
theorem bt_TypeError : bootBuiltins "TypeError" = some (.type "TypeError") := by decide +kernel
theorem bt_RuntimeError : bootBuiltins "RuntimeError" = some (.type "RuntimeError") := by decide +kernel
theorem bt_AttributeError : bootBuiltins "AttributeError" = some (.type "AttributeError") := by decide +kernel
theorem bt_NotImplementedError : bootBuiltins "NotImplementedError" = some (.type "NotImplementedError") := by decide +kernel
theorem bt_Exception : bootBuiltins "Exception" = some (.type "Exception") := by decide +kernel
def cN : List Str := ["Failed", "NameTaken", "BadTable", "NoTable", "NoColumn", "BadRow", "KeyTaken", "NoRow", "TooGreat", "Outdated", "NoGoal", "NoCourse", "NoQuestion", "NotPlain", "NoPlan", "InvalidText", "InvalidCommand", "NothingAsked", "NoRun"]
def fN : List Str := ["word", "place", "numbers", "name", "part", "column", "number", "limit", "fact"]
def oT : List String := ["ValueError", "LookupError", "ArithmeticError", "TypeError", "RuntimeError", "AttributeError", "NotImplementedError"]
/-- a rule for isinstance, at a heap -/
def Okc (K : PySem.W.Frag) (C : Addr) (c : V) (b : Bool) : Prop := ∃ cv, (∀ u, RelV c u → u = cv) ∧ PySem.W.kitOne K (.ref C) cv = some b
def Ask (K : PySem.W.Frag) (C a : Addr) (R : List V → Hp → VK → Prop) (H : Hp) : Prop := ∀ (c : V) (b : Bool), Okc K C c b → ∀ Q : VK, Q (.bl b) H → R [.ref a, c] H Q
def tIs (R : List V → Hp → VK → Prop) : List (V × Bool) → TA
  | [] => tNil
  | c :: r => tCons (tCB R (tCons (tVar 0) (tCons (tC c.1) tNil))) (tIs R r)
def OkA (K : PySem.W.Frag) (C : Addr) : List (V × Bool) → Prop
  | [] => True
  | c :: r => Okc K C c.1 c.2 ∧ OkA K C r
theorem is_all {K : PySem.W.Frag} {C a : Addr} {R : List V → Hp → VK → Prop} {H : Hp} {σ : L2.St} (A : Ask K C a R H) (h0 : σ[0]? = some (some (.ref a))) :
    ∀ (cs : List (V × Bool)) (Q : List V → Hp → Prop), OkA K C cs → Q (cs.map fun c => .bl c.2) H → tIs R cs σ H Q
  | [], Q, _, q => q
  | c :: r, Q, ok, q => ⟨_, h0, A _ _ ok.1 _ (is_all A h0 r (fun xs H1 => Q (.bl c.2 :: xs) H1) ok.2 q)⟩
theorem lst_is {K : PySem.W.Frag} {C a : Addr} {R : List V → Hp → VK → Prop} {H : Hp} {σ : L2.St} {Q : VK} (A : Ask K C a R H) (h0 : σ[0]? = some (some (.ref a)))
    (cs : List (V × Bool)) (ok : OkA K C cs) (hl : cs.length ≤ 100) (q : ∀ p, H p = none → Q (.ref p) (upd H p (.lst (cs.map fun c => .bl c.2)))) : tLst (tIs R cs) σ H Q :=
  is_all A h0 cs _ ok ⟨by rw [List.length_map, sizeLine_eq]; omega, q⟩
theorem cat_is {K : PySem.W.Frag} {C a p : Addr} {xs : List V} {R : List V → Hp → VK → Prop} {H : Hp} {σ : L2.St} {Q : VK} (A : Ask K C a R H) (h0 : σ[0]? = some (some (.ref a)))
    (h1 : σ[1]? = some (some (.ref p))) (e : H p = some (.lst xs)) (hx : xs.length ≤ 100)
    (cs : List (V × Bool)) (ok : OkA K C cs) (hl : cs.length ≤ 100) (q : ∀ r H', H r = none → H' r = some (.lst (xs ++ cs.map fun c => .bl c.2)) → Same H H' → Q (.ref r) H') : tOp rAddA (tVar 1) (tLst (tIs R cs)) σ H Q := by
  refine ⟨_, h1, lst_is A h0 cs ok hl fun r hr => ?_⟩
  have nr := ne_of_none e hr
  refine .inr ⟨p, r, _, _, rfl, rfl, (upd_ne nr).trans e, upd_same, by rw [List.length_map, sizeLine_eq]; omega, fun z hz => ?_⟩
  have s1 : Same H (upd H r (.lst (cs.map fun c => V.bl c.2))) := same_new hr _
  exact q z _ (s1.free hz) upd_same (s1.trans (same_new hz _))
theorem sq_lst {K : PySem.W.Frag} {C a : Addr} {R : List V → Hp → VK → Prop} {H : Hp} {σ : L2.St} {D : Ends} {rest : TS} (A : Ask K C a R H)
    (cs : List (V × Bool)) (ok : OkA K C cs) (hl : cs.length ≤ 100) (h0 : σ[0]? = some (some (.ref a)))
    (q : ∀ p H', H p = none → H' p = some (.lst (cs.map fun c => .bl c.2)) → Same H H' → rest D (σ.set 1 (some (.ref p))) H') : tSeq (tAsg (tLst (tIs R cs)) (gName 1)) rest D σ H :=
  lst_is (Q := fun v H1 => rest D (σ.set 1 (some v)) H1) A h0 cs ok hl fun p hp => q p _ hp upd_same (same_new hp _)
theorem sq_cat {K : PySem.W.Frag} {C a p : Addr} {xs : List V} {R : List V → Hp → VK → Prop} {H : Hp} {σ : L2.St} {D : Ends} {rest : TS} (A : Ask K C a R H)
    (e : H p = some (.lst xs)) (hx : xs.length ≤ 100) (cs : List (V × Bool)) (ok : OkA K C cs) (hl : cs.length ≤ 100) (h0 : σ[0]? = some (some (.ref a))) (h1 : σ[1]? = some (some (.ref p)))
    (q : ∀ r H', H r = none → H' r = some (.lst (xs ++ cs.map fun c => .bl c.2)) → Same H H' → rest D (σ.set 1 (some (.ref r))) H') : tSeq (tAsg (tOp rAddA (tVar 1) (tLst (tIs R cs))) (gName 1)) rest D σ H :=
  cat_is (Q := fun v H1 => rest D (σ.set 1 (some v)) H1) A h0 h1 e hx cs ok hl q
theorem rt_cat {K : PySem.W.Frag} {C a p : Addr} {xs : List V} {R : List V → Hp → VK → Prop} {H : Hp} {σ : L2.St} {D : Ends} (A : Ask K C a R H)
    (e : H p = some (.lst xs)) (hx : xs.length ≤ 100) (cs : List (V × Bool)) (ok : OkA K C cs) (hl : cs.length ≤ 100) (h0 : σ[0]? = some (some (.ref a))) (h1 : σ[1]? = some (some (.ref p)))
    (q : ∀ r H', H r = none → H' r = some (.lst (xs ++ cs.map fun c => .bl c.2)) → Same H H' → D.rt (.ref r) H') : tRet (tOp rAddA (tVar 1) (tLst (tIs R cs))) D σ H :=
  cat_is (Q := D.rt) A h0 h1 e hx cs ok hl q
def cA (K : PySem.W.Frag) (i : Nat) : Addr := He.ga K (cN.getD i "")
structure Kit (K : PySem.W.Frag) (mg : Str → Option Value) : Prop where
  ecl : ∀ i, i < 19 → Ecl K (cA K i)
  glo : ∀ i, i < 19 → mg (cN.getD i "") = some (.ref (cA K i))
  kit : ∀ i j, i < 19 → j < 19 → PySem.W.kitOne K (.ref (cA K i)) (.ref (cA K j)) = some (decide (j = i))
  kitB : ∀ i (T : String), i < 19 → T ∈ oT → PySem.W.kitOne K (.ref (cA K i)) (.type T) = some false
  kitE : ∀ i, i < 19 → PySem.W.kitOne K (.ref (cA K i)) (.type "Exception") = some true
  kitF : ∀ i, i < 19 → PySem.W.kitOne K (.ref (cA K i)) (.ref (He.ga K "FailsError")) = some true
  exF : ∀ i, i < 19 → PySem.W.exmOne K (.ref (cA K i)) (.ref (He.ga K "FailsError")) = some true
  gloF : mg "FailsError" = some (.ref (He.ga K "FailsError"))
  noA : ∀ i (f : Str), i < 19 → f ∈ fN → PySem.W.findIn K (.ref (cA K i)) f = some none
  noB : ∀ T : Str, T ∈ (["ValueError", "LookupError", "ArithmeticError", "TypeError", "RuntimeError", "AttributeError", "NotImplementedError", "Exception"] : List Str) → mg T = none
/-- an exception of the i-th class at a -/
structure Xc (K : PySem.W.Frag) (H : Hp) (a : Addr) (i : Nat) : Prop where
  ex : ∃ d, H a = some (exo a (cA K i) d) ∧ ∀ dx, d = some dx → ∃ fs, H dx = some (exd dx fs)
theorem Xc.same {K : PySem.W.Frag} {H H' : Hp} {a : Addr} {i : Nat} (x : Xc K H a i) (s : Same H H') : Xc K H' a i := by
  obtain ⟨d, h, k⟩ := x.ex
  exact ⟨d, s _ _ h, fun dx e => let ⟨fs, z⟩ := k dx e; ⟨fs, s _ _ z⟩⟩
/-- one that is handled -/
structure Xp (K : PySem.W.Frag) (H : Hp) (d : Option Addr) : Prop where
  ex : ∀ dx, d = some dx → ∃ fs, H dx = some (exd dx fs)
theorem Xp.same {K : PySem.W.Frag} {H H' : Hp} {d : Option Addr} (x : Xp K H d) (s : Same H H') : Xp K H' d := ⟨fun dx e => let ⟨fs, z⟩ := x.ex dx e; ⟨fs, s _ _ z⟩⟩
theorem ask_x {K : PySem.W.Frag} {H : Hp} {a : Addr} {i : Nat} (T : Ecl K (cA K i)) (x : Xc K H a i) : Ask K (cA K i) a (rIsX K) H := by
  rintro c b ⟨cv, h1, h2⟩ Q q
  obtain ⟨d, h, hd⟩ := x.ex
  exact ⟨a, _, d, c, cv, b, rfl, T, h, hd, h1, h2, q⟩
theorem ask_p {K : PySem.W.Frag} {H : Hp} {a : Addr} {d : Option Addr} {C : Addr} (x : Xp K H d) : Ask K C a (rIsP K a d C) H := by
  rintro c b ⟨cv, h1, h2⟩ Q z
  exact ⟨c, cv, b, rfl, x.ex, h1, h2, z⟩
theorem Kit.c {K : PySem.W.Frag} {mg : Str → Option Value} {i : Nat} (Kt : Kit K mg) (hi : i < 19) (j : Nat) (hj : j < 19) : Okc K (cA K i) (.ref (cA K j)) (decide (j = i)) := ⟨_, fun u z => z, Kt.kit i j hi hj⟩
theorem Kit.b {K : PySem.W.Frag} {mg : Str → Option Value} {i : Nat} (Kt : Kit K mg) (hi : i < 19) (T : String) (hT : T ∈ oT) : Okc K (cA K i) (.ty T) false := ⟨_, fun u z => z, Kt.kitB i T hi hT⟩
def bls (i : Nat) : List V := (List.range 19).map fun j => V.bl (decide (j = i))
def spOwn (K : PySem.W.Frag) : Sp := fun vs H Q _ => ∃ (a : Addr) (i : Nat), vs = [.ref a] ∧ i < 19 ∧ Xc K H a i ∧ ∀ p H', H p = none → H' p = some (.lst (bls i)) → Same H H' → Q (.ref p) H'
def spOther (K : PySem.W.Frag) : Sp := fun vs H Q _ => ∃ (a : Addr) (i : Nat), vs = [.ref a] ∧ i < 19 ∧ Xc K H a i ∧ ∀ p H', H p = none → H' p = some (.lst (List.replicate 7 (.bl false))) → Same H H' → Q (.ref p) H'
def spOwnP (K : PySem.W.Frag) (a : Addr) (d : Option Addr) (i : Nat) : Sp := fun vs H Q _ => vs = [.ref a] ∧ Xp K H d ∧ ∀ p H', H p = none → H' p = some (.lst (bls i)) → Same H H' → Q (.ref p) H'
def spOtherP (K : PySem.W.Frag) (a : Addr) (d : Option Addr) : Sp := fun vs H Q _ => vs = [.ref a] ∧ Xp K H d ∧ ∀ p H', H p = none → H' p = some (.lst (List.replicate 7 (.bl false))) → Same H H' → Q (.ref p) H'
section
variable {P : Program} {w : World} {K : PySem.W.Frag} {mg : Str → Option Value} {base : Heap} {f : Addr} {fd : FuncData} {i : Nat} {a : Addr} {oe : Obj} {d : Option Addr}
theorem sc__law_own_kinds : FnScope ["_law_e", "_law_some"] ["_law_e"] (defScope (top 26)) := ⟨rfl, rfl, rfl, by decide +kernel, rfl, by decide +kernel, by decide +kernel⟩
theorem ok__law_own_kinds (F : FnP K "_law_own_kinds" 26 f fd) (hS : ∃ o, base.get? sysModules = some o) (m_isinstance : mg "isinstance" = none) (Kt : Kit K mg) :
    FnG P w K mg base CX0 1 f fd ["_law_e"] (spOwn K) := by
  refine okD F sc__law_own_kinds hS (fun vs H Q E h => ?_) (fun cdv A outer s H vs Q E R h => ?_)
  · obtain ⟨a, i, rfl, _⟩ := h
    rfl
  obtain ⟨a, i, rfl, hi, X0, k⟩ := h
  have nd := sc__law_own_kinds.nd
  have m_Failed : mg "Failed" = some (.ref (cA K 0)) := Kt.glo 0 (by decide)
  have m_NameTaken : mg "NameTaken" = some (.ref (cA K 1)) := Kt.glo 1 (by decide)
  have m_BadTable : mg "BadTable" = some (.ref (cA K 2)) := Kt.glo 2 (by decide)
  have m_NoTable : mg "NoTable" = some (.ref (cA K 3)) := Kt.glo 3 (by decide)
  have m_NoColumn : mg "NoColumn" = some (.ref (cA K 4)) := Kt.glo 4 (by decide)
  have m_BadRow : mg "BadRow" = some (.ref (cA K 5)) := Kt.glo 5 (by decide)
  have m_KeyTaken : mg "KeyTaken" = some (.ref (cA K 6)) := Kt.glo 6 (by decide)
  have m_NoRow : mg "NoRow" = some (.ref (cA K 7)) := Kt.glo 7 (by decide)
  have m_TooGreat : mg "TooGreat" = some (.ref (cA K 8)) := Kt.glo 8 (by decide)
  have m_Outdated : mg "Outdated" = some (.ref (cA K 9)) := Kt.glo 9 (by decide)
  have m_NoGoal : mg "NoGoal" = some (.ref (cA K 10)) := Kt.glo 10 (by decide)
  have m_NoCourse : mg "NoCourse" = some (.ref (cA K 11)) := Kt.glo 11 (by decide)
  have m_NoQuestion : mg "NoQuestion" = some (.ref (cA K 12)) := Kt.glo 12 (by decide)
  have m_NotPlain : mg "NotPlain" = some (.ref (cA K 13)) := Kt.glo 13 (by decide)
  have m_NoPlan : mg "NoPlan" = some (.ref (cA K 14)) := Kt.glo 14 (by decide)
  have m_InvalidText : mg "InvalidText" = some (.ref (cA K 15)) := Kt.glo 15 (by decide)
  have m_InvalidCommand : mg "InvalidCommand" = some (.ref (cA K 16)) := Kt.glo 16 (by decide)
  have m_NothingAsked : mg "NothingAsked" = some (.ref (cA K 17)) := Kt.glo 17 (by decide)
  have m_NoRun : mg "NoRun" = some (.ref (cA K 18)) := Kt.glo 18 (by decide)
  refine ⟨_, (pss_cons (ps_set (i := 1) nd rfl (Or.inl rfl) (pe_lst (pa_cons (pe_callB call_isX rfl m_isinstance bt_isinstance (pa_cons (pv 0) (pa_cons (pe_glob (v := .ref _) rfl m_Failed rfl) pa_nil))) (pa_cons (pe_callB call_isX rfl m_isinstance bt_isinstance (pa_cons (pv 0) (pa_cons (pe_glob (v := .ref _) rfl m_NameTaken rfl) pa_nil))) (pa_cons (pe_callB call_isX rfl m_isinstance bt_isinstance (pa_cons (pv 0) (pa_cons (pe_glob (v := .ref _) rfl m_BadTable rfl) pa_nil))) (pa_cons (pe_callB call_isX rfl m_isinstance bt_isinstance (pa_cons (pv 0) (pa_cons (pe_glob (v := .ref _) rfl m_NoTable rfl) pa_nil))) pa_nil)))))) (pss_cons (ps_set (i := 1) nd rfl (Or.inl rfl) (pe_op opAdd (pv 1) (pe_lst (pa_cons (pe_callB call_isX rfl m_isinstance bt_isinstance (pa_cons (pv 0) (pa_cons (pe_glob (v := .ref _) rfl m_NoColumn rfl) pa_nil))) (pa_cons (pe_callB call_isX rfl m_isinstance bt_isinstance (pa_cons (pv 0) (pa_cons (pe_glob (v := .ref _) rfl m_BadRow rfl) pa_nil))) (pa_cons (pe_callB call_isX rfl m_isinstance bt_isinstance (pa_cons (pv 0) (pa_cons (pe_glob (v := .ref _) rfl m_KeyTaken rfl) pa_nil))) (pa_cons (pe_callB call_isX rfl m_isinstance bt_isinstance (pa_cons (pv 0) (pa_cons (pe_glob (v := .ref _) rfl m_NoRow rfl) pa_nil))) pa_nil))))))) (pss_cons (ps_set (i := 1) nd rfl (Or.inl rfl) (pe_op opAdd (pv 1) (pe_lst (pa_cons (pe_callB call_isX rfl m_isinstance bt_isinstance (pa_cons (pv 0) (pa_cons (pe_glob (v := .ref _) rfl m_TooGreat rfl) pa_nil))) (pa_cons (pe_callB call_isX rfl m_isinstance bt_isinstance (pa_cons (pv 0) (pa_cons (pe_glob (v := .ref _) rfl m_Outdated rfl) pa_nil))) (pa_cons (pe_callB call_isX rfl m_isinstance bt_isinstance (pa_cons (pv 0) (pa_cons (pe_glob (v := .ref _) rfl m_NoGoal rfl) pa_nil))) (pa_cons (pe_callB call_isX rfl m_isinstance bt_isinstance (pa_cons (pv 0) (pa_cons (pe_glob (v := .ref _) rfl m_NoCourse rfl) pa_nil))) pa_nil))))))) (pss_cons (ps_set (i := 1) nd rfl (Or.inl rfl) (pe_op opAdd (pv 1) (pe_lst (pa_cons (pe_callB call_isX rfl m_isinstance bt_isinstance (pa_cons (pv 0) (pa_cons (pe_glob (v := .ref _) rfl m_NoQuestion rfl) pa_nil))) (pa_cons (pe_callB call_isX rfl m_isinstance bt_isinstance (pa_cons (pv 0) (pa_cons (pe_glob (v := .ref _) rfl m_NotPlain rfl) pa_nil))) (pa_cons (pe_callB call_isX rfl m_isinstance bt_isinstance (pa_cons (pv 0) (pa_cons (pe_glob (v := .ref _) rfl m_NoPlan rfl) pa_nil))) pa_nil)))))) (pss_cons (ps_set (i := 1) nd rfl (Or.inl rfl) (pe_op opAdd (pv 1) (pe_lst (pa_cons (pe_callB call_isX rfl m_isinstance bt_isinstance (pa_cons (pv 0) (pa_cons (pe_glob (v := .ref _) rfl m_InvalidText rfl) pa_nil))) (pa_cons (pe_callB call_isX rfl m_isinstance bt_isinstance (pa_cons (pv 0) (pa_cons (pe_glob (v := .ref _) rfl m_InvalidCommand rfl) pa_nil))) pa_nil))))) (pss_one (ps_ret (pe_op opAdd (pv 1) (pe_lst (pa_cons (pe_callB call_isX rfl m_isinstance bt_isinstance (pa_cons (pv 0) (pa_cons (pe_glob (v := .ref _) rfl m_NothingAsked rfl) pa_nil))) (pa_cons (pe_callB call_isX rfl m_isinstance bt_isinstance (pa_cons (pv 0) (pa_cons (pe_glob (v := .ref _) rfl m_NoRun rfl) pa_nil))) pa_nil))))))))))), ?r⟩
  case r =>
    refine sq_lst (ask_x (Kt.ecl i hi) X0) [(.ref (cA K 0), decide (0 = i)), (.ref (cA K 1), decide (1 = i)), (.ref (cA K 2), decide (2 = i)), (.ref (cA K 3), decide (3 = i))] ⟨Kt.c hi 0 (by decide), Kt.c hi 1 (by decide), Kt.c hi 2 (by decide), Kt.c hi 3 (by decide), trivial⟩ (by show 4 ≤ 100; decide) rfl fun p0 H0 f0 e0 s0 => ?_
    refine sq_cat (ask_x (Kt.ecl i hi) (X0.same s0)) e0 (by show 4 ≤ 100; decide) [(.ref (cA K 4), decide (4 = i)), (.ref (cA K 5), decide (5 = i)), (.ref (cA K 6), decide (6 = i)), (.ref (cA K 7), decide (7 = i))] ⟨Kt.c hi 4 (by decide), Kt.c hi 5 (by decide), Kt.c hi 6 (by decide), Kt.c hi 7 (by decide), trivial⟩ (by show 4 ≤ 100; decide) rfl rfl fun p1 H1 h1 e1 t1 => ?_
    have s1 := s0.trans t1
    have f1 : H p1 = none := s0.free h1
    refine sq_cat (ask_x (Kt.ecl i hi) (X0.same s1)) e1 (by show 8 ≤ 100; decide) [(.ref (cA K 8), decide (8 = i)), (.ref (cA K 9), decide (9 = i)), (.ref (cA K 10), decide (10 = i)), (.ref (cA K 11), decide (11 = i))] ⟨Kt.c hi 8 (by decide), Kt.c hi 9 (by decide), Kt.c hi 10 (by decide), Kt.c hi 11 (by decide), trivial⟩ (by show 4 ≤ 100; decide) rfl rfl fun p2 H2 h2 e2 t2 => ?_
    have s2 := s1.trans t2
    have f2 : H p2 = none := s1.free h2
    refine sq_cat (ask_x (Kt.ecl i hi) (X0.same s2)) e2 (by show 12 ≤ 100; decide) [(.ref (cA K 12), decide (12 = i)), (.ref (cA K 13), decide (13 = i)), (.ref (cA K 14), decide (14 = i))] ⟨Kt.c hi 12 (by decide), Kt.c hi 13 (by decide), Kt.c hi 14 (by decide), trivial⟩ (by show 3 ≤ 100; decide) rfl rfl fun p3 H3 h3 e3 t3 => ?_
    have s3 := s2.trans t3
    have f3 : H p3 = none := s2.free h3
    refine sq_cat (ask_x (Kt.ecl i hi) (X0.same s3)) e3 (by show 15 ≤ 100; decide) [(.ref (cA K 15), decide (15 = i)), (.ref (cA K 16), decide (16 = i))] ⟨Kt.c hi 15 (by decide), Kt.c hi 16 (by decide), trivial⟩ (by show 2 ≤ 100; decide) rfl rfl fun p4 H4 h4 e4 t4 => ?_
    have s4 := s3.trans t4
    have f4 : H p4 = none := s3.free h4
    refine rt_cat (ask_x (Kt.ecl i hi) (X0.same s4)) e4 (by show 17 ≤ 100; decide) [(.ref (cA K 17), decide (17 = i)), (.ref (cA K 18), decide (18 = i))] ⟨Kt.c hi 17 (by decide), Kt.c hi 18 (by decide), trivial⟩ (by show 2 ≤ 100; decide) rfl rfl fun p5 H5 h5 e5 t5 => ?_
    have s5 := s4.trans t5
    have f5 : H p5 = none := s4.free h5
    exact k p5 H5 f5 e5 s5
theorem okP__law_own_kinds (F : FnP K "_law_own_kinds" 26 f fd) (m_isinstance : mg "isinstance" = none) (Kt : Kit K mg) (hi : i < 19) (hc : oe.cls = .ref (cA K i)) (hdd : oe.dict = d) (hf : ∃ vs, oe.data = .fields vs) :
    FnX P w K mg base (a, oe) 1 f fd ["_law_e"] (spOwnP K a d i) := by
  refine okX F sc__law_own_kinds (fun vs H Q E h => ?_) (fun cdv A outer s H vs Q E h => ?_)
  · obtain ⟨rfl, _⟩ := h
    rfl
  obtain ⟨rfl, X0, k⟩ := h
  have nd := sc__law_own_kinds.nd
  have m_Failed : mg "Failed" = some (.ref (cA K 0)) := Kt.glo 0 (by decide)
  have m_NameTaken : mg "NameTaken" = some (.ref (cA K 1)) := Kt.glo 1 (by decide)
  have m_BadTable : mg "BadTable" = some (.ref (cA K 2)) := Kt.glo 2 (by decide)
  have m_NoTable : mg "NoTable" = some (.ref (cA K 3)) := Kt.glo 3 (by decide)
  have m_NoColumn : mg "NoColumn" = some (.ref (cA K 4)) := Kt.glo 4 (by decide)
  have m_BadRow : mg "BadRow" = some (.ref (cA K 5)) := Kt.glo 5 (by decide)
  have m_KeyTaken : mg "KeyTaken" = some (.ref (cA K 6)) := Kt.glo 6 (by decide)
  have m_NoRow : mg "NoRow" = some (.ref (cA K 7)) := Kt.glo 7 (by decide)
  have m_TooGreat : mg "TooGreat" = some (.ref (cA K 8)) := Kt.glo 8 (by decide)
  have m_Outdated : mg "Outdated" = some (.ref (cA K 9)) := Kt.glo 9 (by decide)
  have m_NoGoal : mg "NoGoal" = some (.ref (cA K 10)) := Kt.glo 10 (by decide)
  have m_NoCourse : mg "NoCourse" = some (.ref (cA K 11)) := Kt.glo 11 (by decide)
  have m_NoQuestion : mg "NoQuestion" = some (.ref (cA K 12)) := Kt.glo 12 (by decide)
  have m_NotPlain : mg "NotPlain" = some (.ref (cA K 13)) := Kt.glo 13 (by decide)
  have m_NoPlan : mg "NoPlan" = some (.ref (cA K 14)) := Kt.glo 14 (by decide)
  have m_InvalidText : mg "InvalidText" = some (.ref (cA K 15)) := Kt.glo 15 (by decide)
  have m_InvalidCommand : mg "InvalidCommand" = some (.ref (cA K 16)) := Kt.glo 16 (by decide)
  have m_NothingAsked : mg "NothingAsked" = some (.ref (cA K 17)) := Kt.glo 17 (by decide)
  have m_NoRun : mg "NoRun" = some (.ref (cA K 18)) := Kt.glo 18 (by decide)
  refine ⟨_, (pss_cons (ps_set (i := 1) nd rfl (Or.inl rfl) (pe_lst (pa_cons (pe_callB (call_isP (Kt.ecl i hi) (List.mem_singleton.mpr rfl) hc hdd hf) rfl m_isinstance bt_isinstance (pa_cons (pv 0) (pa_cons (pe_glob (v := .ref _) rfl m_Failed rfl) pa_nil))) (pa_cons (pe_callB (call_isP (Kt.ecl i hi) (List.mem_singleton.mpr rfl) hc hdd hf) rfl m_isinstance bt_isinstance (pa_cons (pv 0) (pa_cons (pe_glob (v := .ref _) rfl m_NameTaken rfl) pa_nil))) (pa_cons (pe_callB (call_isP (Kt.ecl i hi) (List.mem_singleton.mpr rfl) hc hdd hf) rfl m_isinstance bt_isinstance (pa_cons (pv 0) (pa_cons (pe_glob (v := .ref _) rfl m_BadTable rfl) pa_nil))) (pa_cons (pe_callB (call_isP (Kt.ecl i hi) (List.mem_singleton.mpr rfl) hc hdd hf) rfl m_isinstance bt_isinstance (pa_cons (pv 0) (pa_cons (pe_glob (v := .ref _) rfl m_NoTable rfl) pa_nil))) pa_nil)))))) (pss_cons (ps_set (i := 1) nd rfl (Or.inl rfl) (pe_op opAdd (pv 1) (pe_lst (pa_cons (pe_callB (call_isP (Kt.ecl i hi) (List.mem_singleton.mpr rfl) hc hdd hf) rfl m_isinstance bt_isinstance (pa_cons (pv 0) (pa_cons (pe_glob (v := .ref _) rfl m_NoColumn rfl) pa_nil))) (pa_cons (pe_callB (call_isP (Kt.ecl i hi) (List.mem_singleton.mpr rfl) hc hdd hf) rfl m_isinstance bt_isinstance (pa_cons (pv 0) (pa_cons (pe_glob (v := .ref _) rfl m_BadRow rfl) pa_nil))) (pa_cons (pe_callB (call_isP (Kt.ecl i hi) (List.mem_singleton.mpr rfl) hc hdd hf) rfl m_isinstance bt_isinstance (pa_cons (pv 0) (pa_cons (pe_glob (v := .ref _) rfl m_KeyTaken rfl) pa_nil))) (pa_cons (pe_callB (call_isP (Kt.ecl i hi) (List.mem_singleton.mpr rfl) hc hdd hf) rfl m_isinstance bt_isinstance (pa_cons (pv 0) (pa_cons (pe_glob (v := .ref _) rfl m_NoRow rfl) pa_nil))) pa_nil))))))) (pss_cons (ps_set (i := 1) nd rfl (Or.inl rfl) (pe_op opAdd (pv 1) (pe_lst (pa_cons (pe_callB (call_isP (Kt.ecl i hi) (List.mem_singleton.mpr rfl) hc hdd hf) rfl m_isinstance bt_isinstance (pa_cons (pv 0) (pa_cons (pe_glob (v := .ref _) rfl m_TooGreat rfl) pa_nil))) (pa_cons (pe_callB (call_isP (Kt.ecl i hi) (List.mem_singleton.mpr rfl) hc hdd hf) rfl m_isinstance bt_isinstance (pa_cons (pv 0) (pa_cons (pe_glob (v := .ref _) rfl m_Outdated rfl) pa_nil))) (pa_cons (pe_callB (call_isP (Kt.ecl i hi) (List.mem_singleton.mpr rfl) hc hdd hf) rfl m_isinstance bt_isinstance (pa_cons (pv 0) (pa_cons (pe_glob (v := .ref _) rfl m_NoGoal rfl) pa_nil))) (pa_cons (pe_callB (call_isP (Kt.ecl i hi) (List.mem_singleton.mpr rfl) hc hdd hf) rfl m_isinstance bt_isinstance (pa_cons (pv 0) (pa_cons (pe_glob (v := .ref _) rfl m_NoCourse rfl) pa_nil))) pa_nil))))))) (pss_cons (ps_set (i := 1) nd rfl (Or.inl rfl) (pe_op opAdd (pv 1) (pe_lst (pa_cons (pe_callB (call_isP (Kt.ecl i hi) (List.mem_singleton.mpr rfl) hc hdd hf) rfl m_isinstance bt_isinstance (pa_cons (pv 0) (pa_cons (pe_glob (v := .ref _) rfl m_NoQuestion rfl) pa_nil))) (pa_cons (pe_callB (call_isP (Kt.ecl i hi) (List.mem_singleton.mpr rfl) hc hdd hf) rfl m_isinstance bt_isinstance (pa_cons (pv 0) (pa_cons (pe_glob (v := .ref _) rfl m_NotPlain rfl) pa_nil))) (pa_cons (pe_callB (call_isP (Kt.ecl i hi) (List.mem_singleton.mpr rfl) hc hdd hf) rfl m_isinstance bt_isinstance (pa_cons (pv 0) (pa_cons (pe_glob (v := .ref _) rfl m_NoPlan rfl) pa_nil))) pa_nil)))))) (pss_cons (ps_set (i := 1) nd rfl (Or.inl rfl) (pe_op opAdd (pv 1) (pe_lst (pa_cons (pe_callB (call_isP (Kt.ecl i hi) (List.mem_singleton.mpr rfl) hc hdd hf) rfl m_isinstance bt_isinstance (pa_cons (pv 0) (pa_cons (pe_glob (v := .ref _) rfl m_InvalidText rfl) pa_nil))) (pa_cons (pe_callB (call_isP (Kt.ecl i hi) (List.mem_singleton.mpr rfl) hc hdd hf) rfl m_isinstance bt_isinstance (pa_cons (pv 0) (pa_cons (pe_glob (v := .ref _) rfl m_InvalidCommand rfl) pa_nil))) pa_nil))))) (pss_one (ps_ret (pe_op opAdd (pv 1) (pe_lst (pa_cons (pe_callB (call_isP (Kt.ecl i hi) (List.mem_singleton.mpr rfl) hc hdd hf) rfl m_isinstance bt_isinstance (pa_cons (pv 0) (pa_cons (pe_glob (v := .ref _) rfl m_NothingAsked rfl) pa_nil))) (pa_cons (pe_callB (call_isP (Kt.ecl i hi) (List.mem_singleton.mpr rfl) hc hdd hf) rfl m_isinstance bt_isinstance (pa_cons (pv 0) (pa_cons (pe_glob (v := .ref _) rfl m_NoRun rfl) pa_nil))) pa_nil))))))))))), ?r⟩
  case r =>
    refine sq_lst (ask_p X0) [(.ref (cA K 0), decide (0 = i)), (.ref (cA K 1), decide (1 = i)), (.ref (cA K 2), decide (2 = i)), (.ref (cA K 3), decide (3 = i))] ⟨Kt.c hi 0 (by decide), Kt.c hi 1 (by decide), Kt.c hi 2 (by decide), Kt.c hi 3 (by decide), trivial⟩ (by show 4 ≤ 100; decide) rfl fun p0 H0 f0 e0 s0 => ?_
    refine sq_cat (ask_p (X0.same s0)) e0 (by show 4 ≤ 100; decide) [(.ref (cA K 4), decide (4 = i)), (.ref (cA K 5), decide (5 = i)), (.ref (cA K 6), decide (6 = i)), (.ref (cA K 7), decide (7 = i))] ⟨Kt.c hi 4 (by decide), Kt.c hi 5 (by decide), Kt.c hi 6 (by decide), Kt.c hi 7 (by decide), trivial⟩ (by show 4 ≤ 100; decide) rfl rfl fun p1 H1 h1 e1 t1 => ?_
    have s1 := s0.trans t1
    have f1 : H p1 = none := s0.free h1
    refine sq_cat (ask_p (X0.same s1)) e1 (by show 8 ≤ 100; decide) [(.ref (cA K 8), decide (8 = i)), (.ref (cA K 9), decide (9 = i)), (.ref (cA K 10), decide (10 = i)), (.ref (cA K 11), decide (11 = i))] ⟨Kt.c hi 8 (by decide), Kt.c hi 9 (by decide), Kt.c hi 10 (by decide), Kt.c hi 11 (by decide), trivial⟩ (by show 4 ≤ 100; decide) rfl rfl fun p2 H2 h2 e2 t2 => ?_
    have s2 := s1.trans t2
    have f2 : H p2 = none := s1.free h2
    refine sq_cat (ask_p (X0.same s2)) e2 (by show 12 ≤ 100; decide) [(.ref (cA K 12), decide (12 = i)), (.ref (cA K 13), decide (13 = i)), (.ref (cA K 14), decide (14 = i))] ⟨Kt.c hi 12 (by decide), Kt.c hi 13 (by decide), Kt.c hi 14 (by decide), trivial⟩ (by show 3 ≤ 100; decide) rfl rfl fun p3 H3 h3 e3 t3 => ?_
    have s3 := s2.trans t3
    have f3 : H p3 = none := s2.free h3
    refine sq_cat (ask_p (X0.same s3)) e3 (by show 15 ≤ 100; decide) [(.ref (cA K 15), decide (15 = i)), (.ref (cA K 16), decide (16 = i))] ⟨Kt.c hi 15 (by decide), Kt.c hi 16 (by decide), trivial⟩ (by show 2 ≤ 100; decide) rfl rfl fun p4 H4 h4 e4 t4 => ?_
    have s4 := s3.trans t4
    have f4 : H p4 = none := s3.free h4
    refine rt_cat (ask_p (X0.same s4)) e4 (by show 17 ≤ 100; decide) [(.ref (cA K 17), decide (17 = i)), (.ref (cA K 18), decide (18 = i))] ⟨Kt.c hi 17 (by decide), Kt.c hi 18 (by decide), trivial⟩ (by show 2 ≤ 100; decide) rfl rfl fun p5 H5 h5 e5 t5 => ?_
    have s5 := s4.trans t5
    have f5 : H p5 = none := s4.free h5
    exact k p5 H5 f5 e5 s5
theorem sc__law_other_kinds : FnScope ["_law_e", "_law_some"] ["_law_e"] (defScope (top 27)) := ⟨rfl, rfl, rfl, by decide +kernel, rfl, by decide +kernel, by decide +kernel⟩
theorem ok__law_other_kinds (F : FnP K "_law_other_kinds" 27 f fd) (hS : ∃ o, base.get? sysModules = some o) (m_isinstance : mg "isinstance" = none) (Kt : Kit K mg) :
    FnG P w K mg base CX0 1 f fd ["_law_e"] (spOther K) := by
  refine okD F sc__law_other_kinds hS (fun vs H Q E h => ?_) (fun cdv A outer s H vs Q E R h => ?_)
  · obtain ⟨a, i, rfl, _⟩ := h
    rfl
  obtain ⟨a, i, rfl, hi, X0, k⟩ := h
  have nd := sc__law_other_kinds.nd
  have m_ValueError : mg "ValueError" = none := Kt.noB "ValueError" (by decide)
  have m_LookupError : mg "LookupError" = none := Kt.noB "LookupError" (by decide)
  have m_ArithmeticError : mg "ArithmeticError" = none := Kt.noB "ArithmeticError" (by decide)
  have m_TypeError : mg "TypeError" = none := Kt.noB "TypeError" (by decide)
  have m_RuntimeError : mg "RuntimeError" = none := Kt.noB "RuntimeError" (by decide)
  have m_AttributeError : mg "AttributeError" = none := Kt.noB "AttributeError" (by decide)
  have m_NotImplementedError : mg "NotImplementedError" = none := Kt.noB "NotImplementedError" (by decide)
  have m_Exception : mg "Exception" = none := Kt.noB "Exception" (by decide)
  refine ⟨_, (pss_cons (ps_set (i := 1) nd rfl (Or.inl rfl) (pe_lst (pa_cons (pe_callB call_isX rfl m_isinstance bt_isinstance (pa_cons (pv 0) (pa_cons (pe_bltn (v := .ty "ValueError") (u := .type "ValueError") rfl m_ValueError bt_ValueError rfl) pa_nil))) (pa_cons (pe_callB call_isX rfl m_isinstance bt_isinstance (pa_cons (pv 0) (pa_cons (pe_bltn (v := .ty "LookupError") (u := .type "LookupError") rfl m_LookupError bt_LookupError rfl) pa_nil))) (pa_cons (pe_callB call_isX rfl m_isinstance bt_isinstance (pa_cons (pv 0) (pa_cons (pe_bltn (v := .ty "ArithmeticError") (u := .type "ArithmeticError") rfl m_ArithmeticError bt_ArithmeticError rfl) pa_nil))) pa_nil))))) (pss_cons (ps_set (i := 1) nd rfl (Or.inl rfl) (pe_op opAdd (pv 1) (pe_lst (pa_cons (pe_callB call_isX rfl m_isinstance bt_isinstance (pa_cons (pv 0) (pa_cons (pe_bltn (v := .ty "TypeError") (u := .type "TypeError") rfl m_TypeError bt_TypeError rfl) pa_nil))) (pa_cons (pe_callB call_isX rfl m_isinstance bt_isinstance (pa_cons (pv 0) (pa_cons (pe_bltn (v := .ty "RuntimeError") (u := .type "RuntimeError") rfl m_RuntimeError bt_RuntimeError rfl) pa_nil))) (pa_cons (pe_callB call_isX rfl m_isinstance bt_isinstance (pa_cons (pv 0) (pa_cons (pe_bltn (v := .ty "AttributeError") (u := .type "AttributeError") rfl m_AttributeError bt_AttributeError rfl) pa_nil))) pa_nil)))))) (pss_one (ps_ret (pe_op opAdd (pv 1) (pe_lst (pa_cons (pe_callB call_isX rfl m_isinstance bt_isinstance (pa_cons (pv 0) (pa_cons (pe_bltn (v := .ty "NotImplementedError") (u := .type "NotImplementedError") rfl m_NotImplementedError bt_NotImplementedError rfl) pa_nil))) pa_nil))))))), ?r⟩
  case r =>
    refine sq_lst (ask_x (Kt.ecl i hi) X0) [(.ty "ValueError", false), (.ty "LookupError", false), (.ty "ArithmeticError", false)] ⟨Kt.b hi "ValueError" (by decide), Kt.b hi "LookupError" (by decide), Kt.b hi "ArithmeticError" (by decide), trivial⟩ (by show 3 ≤ 100; decide) rfl fun p0 H0 f0 e0 s0 => ?_
    refine sq_cat (ask_x (Kt.ecl i hi) (X0.same s0)) e0 (by show 3 ≤ 100; decide) [(.ty "TypeError", false), (.ty "RuntimeError", false), (.ty "AttributeError", false)] ⟨Kt.b hi "TypeError" (by decide), Kt.b hi "RuntimeError" (by decide), Kt.b hi "AttributeError" (by decide), trivial⟩ (by show 3 ≤ 100; decide) rfl rfl fun p1 H1 h1 e1 t1 => ?_
    have s1 := s0.trans t1
    have f1 : H p1 = none := s0.free h1
    refine rt_cat (ask_x (Kt.ecl i hi) (X0.same s1)) e1 (by show 6 ≤ 100; decide) [(.ty "NotImplementedError", false)] ⟨Kt.b hi "NotImplementedError" (by decide), trivial⟩ (by show 1 ≤ 100; decide) rfl rfl fun p2 H2 h2 e2 t2 => ?_
    have s2 := s1.trans t2
    have f2 : H p2 = none := s1.free h2
    exact k p2 H2 f2 e2 s2
theorem okP__law_other_kinds (F : FnP K "_law_other_kinds" 27 f fd) (m_isinstance : mg "isinstance" = none) (Kt : Kit K mg) (hi : i < 19) (hc : oe.cls = .ref (cA K i)) (hdd : oe.dict = d) (hf : ∃ vs, oe.data = .fields vs) :
    FnX P w K mg base (a, oe) 1 f fd ["_law_e"] (spOtherP K a d) := by
  refine okX F sc__law_other_kinds (fun vs H Q E h => ?_) (fun cdv A outer s H vs Q E h => ?_)
  · obtain ⟨rfl, _⟩ := h
    rfl
  obtain ⟨rfl, X0, k⟩ := h
  have nd := sc__law_other_kinds.nd
  have m_ValueError : mg "ValueError" = none := Kt.noB "ValueError" (by decide)
  have m_LookupError : mg "LookupError" = none := Kt.noB "LookupError" (by decide)
  have m_ArithmeticError : mg "ArithmeticError" = none := Kt.noB "ArithmeticError" (by decide)
  have m_TypeError : mg "TypeError" = none := Kt.noB "TypeError" (by decide)
  have m_RuntimeError : mg "RuntimeError" = none := Kt.noB "RuntimeError" (by decide)
  have m_AttributeError : mg "AttributeError" = none := Kt.noB "AttributeError" (by decide)
  have m_NotImplementedError : mg "NotImplementedError" = none := Kt.noB "NotImplementedError" (by decide)
  have m_Exception : mg "Exception" = none := Kt.noB "Exception" (by decide)
  refine ⟨_, (pss_cons (ps_set (i := 1) nd rfl (Or.inl rfl) (pe_lst (pa_cons (pe_callB (call_isP (Kt.ecl i hi) (List.mem_singleton.mpr rfl) hc hdd hf) rfl m_isinstance bt_isinstance (pa_cons (pv 0) (pa_cons (pe_bltn (v := .ty "ValueError") (u := .type "ValueError") rfl m_ValueError bt_ValueError rfl) pa_nil))) (pa_cons (pe_callB (call_isP (Kt.ecl i hi) (List.mem_singleton.mpr rfl) hc hdd hf) rfl m_isinstance bt_isinstance (pa_cons (pv 0) (pa_cons (pe_bltn (v := .ty "LookupError") (u := .type "LookupError") rfl m_LookupError bt_LookupError rfl) pa_nil))) (pa_cons (pe_callB (call_isP (Kt.ecl i hi) (List.mem_singleton.mpr rfl) hc hdd hf) rfl m_isinstance bt_isinstance (pa_cons (pv 0) (pa_cons (pe_bltn (v := .ty "ArithmeticError") (u := .type "ArithmeticError") rfl m_ArithmeticError bt_ArithmeticError rfl) pa_nil))) pa_nil))))) (pss_cons (ps_set (i := 1) nd rfl (Or.inl rfl) (pe_op opAdd (pv 1) (pe_lst (pa_cons (pe_callB (call_isP (Kt.ecl i hi) (List.mem_singleton.mpr rfl) hc hdd hf) rfl m_isinstance bt_isinstance (pa_cons (pv 0) (pa_cons (pe_bltn (v := .ty "TypeError") (u := .type "TypeError") rfl m_TypeError bt_TypeError rfl) pa_nil))) (pa_cons (pe_callB (call_isP (Kt.ecl i hi) (List.mem_singleton.mpr rfl) hc hdd hf) rfl m_isinstance bt_isinstance (pa_cons (pv 0) (pa_cons (pe_bltn (v := .ty "RuntimeError") (u := .type "RuntimeError") rfl m_RuntimeError bt_RuntimeError rfl) pa_nil))) (pa_cons (pe_callB (call_isP (Kt.ecl i hi) (List.mem_singleton.mpr rfl) hc hdd hf) rfl m_isinstance bt_isinstance (pa_cons (pv 0) (pa_cons (pe_bltn (v := .ty "AttributeError") (u := .type "AttributeError") rfl m_AttributeError bt_AttributeError rfl) pa_nil))) pa_nil)))))) (pss_one (ps_ret (pe_op opAdd (pv 1) (pe_lst (pa_cons (pe_callB (call_isP (Kt.ecl i hi) (List.mem_singleton.mpr rfl) hc hdd hf) rfl m_isinstance bt_isinstance (pa_cons (pv 0) (pa_cons (pe_bltn (v := .ty "NotImplementedError") (u := .type "NotImplementedError") rfl m_NotImplementedError bt_NotImplementedError rfl) pa_nil))) pa_nil))))))), ?r⟩
  case r =>
    refine sq_lst (ask_p X0) [(.ty "ValueError", false), (.ty "LookupError", false), (.ty "ArithmeticError", false)] ⟨Kt.b hi "ValueError" (by decide), Kt.b hi "LookupError" (by decide), Kt.b hi "ArithmeticError" (by decide), trivial⟩ (by show 3 ≤ 100; decide) rfl fun p0 H0 f0 e0 s0 => ?_
    refine sq_cat (ask_p (X0.same s0)) e0 (by show 3 ≤ 100; decide) [(.ty "TypeError", false), (.ty "RuntimeError", false), (.ty "AttributeError", false)] ⟨Kt.b hi "TypeError" (by decide), Kt.b hi "RuntimeError" (by decide), Kt.b hi "AttributeError" (by decide), trivial⟩ (by show 3 ≤ 100; decide) rfl rfl fun p1 H1 h1 e1 t1 => ?_
    have s1 := s0.trans t1
    have f1 : H p1 = none := s0.free h1
    refine rt_cat (ask_p (X0.same s1)) e1 (by show 6 ≤ 100; decide) [(.ty "NotImplementedError", false)] ⟨Kt.b hi "NotImplementedError" (by decide), trivial⟩ (by show 1 ≤ 100; decide) rfl rfl fun p2 H2 h2 e2 t2 => ?_
    have s2 := s1.trans t2
    have f2 : H p2 = none := s1.free h2
    exact k p2 H2 f2 e2 s2
end
end K01
end

/-! K01g -/
section
open PySem PySem.Spec PyProof.Rows L2 FA
--imports K01f
namespace K01
/-- what a maker of an exception needs -/
structure Mkr (P : Program) (w : World) (K : PySem.W.Frag) (mg : Str → Option Value) (base : Heap) (x : Str) (C : Addr) (k : Nat) (ps : List Str) (sp : Sp) : Prop where
  ex : ∃ (fI : Addr) (fd : FuncData), Ecl K C ∧ PySem.W.findIn K (.ref C) "__init__" = some (some (.ref fI)) ∧ PySem.W.typeIn K (.ref fI) = some (.type "function") ∧
    FnG P w K mg base CX0 k fI fd ps sp ∧ Binds K fd ps [] ∧ mg x = some (.ref C)
section
variable {X : Cx} {k j : Nat} {x : Str} {C : Addr} {ps : List Str} {sp : Sp} {p pos : Pos} {e : Expr} {es : List Expr} {t : TA}
theorem ce (c : Mkr X.prog X.w X.K X.mg X.base x C k ps sp) (R : Rdy j X) (ha : PA X (e :: es) t) (hk : k + 1 ≤ j := by omega) (hg : Gl X x := by rfl)
    (hdb : (x == ("__debug__" : Str)) = false := by decide)
    (he : starEach (e :: es) X.env = (false, eval e X.env) :: starEach es X.env := by rfl)
    (hpl : (backTo pos (starEach es X.env)).any (·.1) = false := by rfl) :
    PE X (.Call (.Name x p) (e :: es) [] pos) (tEmk C sp t) := by
  obtain ⟨fI, fd, T, hi, ht, G, hb, hm⟩ := c.ex
  exact pe_emk T hi ht G R.gd (R.room.mono hk) hb hm ha hg hdb he hpl
theorem ce0 (c : Mkr X.prog X.w X.K X.mg X.base x C k ps sp) (R : Rdy j X) (hk : k + 1 ≤ j := by omega) (hg : Gl X x := by rfl)
    (hdb : (x == ("__debug__" : Str)) = false := by decide) :
    PE X (.Call (.Name x p) [] [] pos) (tEmk C sp tNil) := by
  obtain ⟨fI, fd, T, hi, ht, G, hb, hm⟩ := c.ex
  exact pe_emk0 T hi ht G R.gd (R.room.mono hk) hb hm hg hdb
end
/-- which error flies, with what in the heap -/
def Fly (K : PySem.W.Frag) (i : Nat) (H : Hp) (E : XK) : Prop := ∀ d H', Same H H' → (∀ dx, d = some dx → ∃ fs, H' dx = some (exd dx fs)) → E (.ref (cA K i)) d H'
def spFirst (K : PySem.W.Frag) : Sp := fun vs H Q E => ∃ (t : Addr) (x y z : V) (i : Nat), vs = [.int i, .ref t] ∧ i < 19 ∧ H t = some (.lst [x, y, z]) ∧ (i < 12 → Fly K i H E) ∧ (12 ≤ i → Q .non H)
def spRaised (K : PySem.W.Frag) : Sp := fun vs H _ E => ∃ (t : Addr) (x y z : V) (i : Nat), vs = [.int i, .ref t] ∧ i < 19 ∧ H t = some (.lst [x, y, z]) ∧ Fly K i H E
theorem eqI {i : Nat} {k : Int} (h : decide (V.int (i : Int) = V.int k) = true) : (i : Int) = k := by
  have := of_decide_eq_true h
  cases this
  rfl
theorem neI {i : Nat} {k : Int} (h : decide (V.int (i : Int) = V.int k) ≠ true) : (i : Int) ≠ k := fun e => h (decide_eq_true (by rw [e]))
theorem fly_ini {K : PySem.W.Frag} {i : Nat} {H : Hp} {E : XK} (F : Fly K i H E) {a dx : Addr} {H' : Hp} {fs : List (Str × V)} {C : Addr} (ha : H a = none) (hd : upd H a (exo a C none) dx = none) (ne : dx ≠ a)
    (e2 : H' dx = some (exd dx fs)) (e3 : ∀ b, b ≠ a → b ≠ dx → H' b = upd H a (exo a C none) b) : E (.ref (cA K i)) (some dx) (delH H' a) := by
  refine F _ _ (fun b o q => ?_) (fun dy e => ?_)
  · have n1 : b ≠ a := ne_of_none q ha
    have hd0 : H dx = none := by rw [upd_ne ne] at hd; exact hd
    have n2 : b ≠ dx := ne_of_none q hd0
    show (if b = a then none else H' b) = some o
    rw [if_neg n1, e3 b n1 n2, upd_ne n1]
    exact q
  · cases e
    refine ⟨fs, ?_⟩
    show (if dx = a then none else H' dx) = _
    rw [if_neg ne]
    exact e2
theorem fly_no {K : PySem.W.Frag} {i : Nat} {H : Hp} {E : XK} (F : Fly K i H E) {a C : Addr} (ha : H a = none) : E (.ref (cA K i)) none (delH (upd H a (exo a C none)) a) := by
  refine F _ _ (fun b o q => ?_) (fun dy e => nomatch e)
  have n1 : b ≠ a := ne_of_none q ha
  show (if b = a then none else upd H a _ b) = some o
  rw [if_neg n1, upd_ne n1]
  exact q
section
variable {P : Program} {w : World} {K : PySem.W.Frag} {mg : Str → Option Value} {base : Heap} {f : Addr} {fd : FuncData}
theorem sc__law_first_raised : FnScope ["_law_which", "_law_things"] ["_law_which", "_law_things"] (defScope (top 30)) := ⟨rfl, rfl, rfl, by decide +kernel, rfl, by decide +kernel, by decide +kernel⟩
theorem ok__law_first_raised (F : FnP K "_law_first_raised" 30 f fd) (hS : ∃ o, base.get? sysModules = some o) (Kt : Kit K mg)
    (k_Failed : Mkr P w K mg base "Failed" (cA K 0) 1 ["self", "word", "place", "numbers"] (spIni (cA K 0) 3 three))
    (k_NameTaken : Mkr P w K mg base "NameTaken" (cA K 1) 1 ["self", "name"] (spIni (cA K 1) 1 (one "name")))
    (k_BadTable : Mkr P w K mg base "BadTable" (cA K 2) 1 ["self", "part"] (spIni (cA K 2) 1 (one "part")))
    (k_NoTable : Mkr P w K mg base "NoTable" (cA K 3) 1 ["self", "name"] (spIni (cA K 3) 1 (one "name")))
    (k_NoColumn : Mkr P w K mg base "NoColumn" (cA K 4) 1 ["self", "name"] (spIni (cA K 4) 1 (one "name")))
    (k_BadRow : Mkr P w K mg base "BadRow" (cA K 5) 1 ["self", "column"] (spIni (cA K 5) 1 (one "column")))
    (k_KeyTaken : Mkr P w K mg base "KeyTaken" (cA K 6) 1 ["self", "column"] (spIni (cA K 6) 1 (one "column")))
    (k_NoRow : Mkr P w K mg base "NoRow" (cA K 7) 1 ["self", "number"] (spIni (cA K 7) 1 (one "number")))
    (k_TooGreat : Mkr P w K mg base "TooGreat" (cA K 8) 1 ["self", "limit"] (spIni (cA K 8) 1 (one "limit")))
    (k_Outdated : Mkr P w K mg base "Outdated" (cA K 9) 1 ["self", "fact"] (spIni (cA K 9) 1 (one "fact")))
    (k_NoGoal : Mkr P w K mg base "NoGoal" (cA K 10) 1 ["self", "number"] (spIni (cA K 10) 1 (one "number")))
    (k_NoCourse : Mkr P w K mg base "NoCourse" (cA K 11) 1 ["self", "number"] (spIni (cA K 11) 1 (one "number"))) :
    FnG P w K mg base (L2.CX P w) 3 f fd ["_law_which", "_law_things"] (spFirst K) := by
  refine okR F sc__law_first_raised hS (fun vs H Q E h => ?_) (fun cdv A outer s H vs Q E R h => ?_)
  · obtain ⟨t, x, y, z, i, rfl, _⟩ := h
    rfl
  obtain ⟨t, x, y, z, i, rfl, hi, ht, fly, q⟩ := h
  have nd := sc__law_first_raised.nd
  refine ⟨_, (pss_cons (ps_if (pt_cmpR op_eq (pv 0) pe_int (nomark _)) (pss_one (ps_raise rfl (takes_of rfl rfl rfl rfl) (pmk_val rfl (ce k_Failed R (pa_cons (pe_ix ixAny (pv 1) pe_int (fun _ _ => rfl)) (pa_cons (pe_ix ixAny (pv 1) pe_int (fun _ _ => rfl)) (pa_cons (pe_ix ixAny (pv 1) pe_int (fun _ _ => rfl)) pa_nil))))))) pss_nil) (pss_cons (ps_if (pt_cmpR op_eq (pv 0) pe_int (nomark _)) (pss_one (ps_raise rfl (takes_of rfl rfl rfl rfl) (pmk_val rfl (ce k_NameTaken R (pa_cons (pe_ix ixAny (pv 1) pe_int (fun _ _ => rfl)) pa_nil))))) pss_nil) (pss_cons (ps_if (pt_cmpR op_eq (pv 0) pe_int (nomark _)) (pss_one (ps_raise rfl (takes_of rfl rfl rfl rfl) (pmk_val rfl (ce k_BadTable R (pa_cons (pe_ix ixAny (pv 1) pe_int (fun _ _ => rfl)) pa_nil))))) pss_nil) (pss_cons (ps_if (pt_cmpR op_eq (pv 0) pe_int (nomark _)) (pss_one (ps_raise rfl (takes_of rfl rfl rfl rfl) (pmk_val rfl (ce k_NoTable R (pa_cons (pe_ix ixAny (pv 1) pe_int (fun _ _ => rfl)) pa_nil))))) pss_nil) (pss_cons (ps_if (pt_cmpR op_eq (pv 0) pe_int (nomark _)) (pss_one (ps_raise rfl (takes_of rfl rfl rfl rfl) (pmk_val rfl (ce k_NoColumn R (pa_cons (pe_ix ixAny (pv 1) pe_int (fun _ _ => rfl)) pa_nil))))) pss_nil) (pss_cons (ps_if (pt_cmpR op_eq (pv 0) pe_int (nomark _)) (pss_one (ps_raise rfl (takes_of rfl rfl rfl rfl) (pmk_val rfl (ce k_BadRow R (pa_cons (pe_ix ixAny (pv 1) pe_int (fun _ _ => rfl)) pa_nil))))) pss_nil) (pss_cons (ps_if (pt_cmpR op_eq (pv 0) pe_int (nomark _)) (pss_one (ps_raise rfl (takes_of rfl rfl rfl rfl) (pmk_val rfl (ce k_KeyTaken R (pa_cons (pe_ix ixAny (pv 1) pe_int (fun _ _ => rfl)) pa_nil))))) pss_nil) (pss_cons (ps_if (pt_cmpR op_eq (pv 0) pe_int (nomark _)) (pss_one (ps_raise rfl (takes_of rfl rfl rfl rfl) (pmk_val rfl (ce k_NoRow R (pa_cons (pe_ix ixAny (pv 1) pe_int (fun _ _ => rfl)) pa_nil))))) pss_nil) (pss_cons (ps_if (pt_cmpR op_eq (pv 0) pe_int (nomark _)) (pss_one (ps_raise rfl (takes_of rfl rfl rfl rfl) (pmk_val rfl (ce k_TooGreat R (pa_cons (pe_ix ixAny (pv 1) pe_int (fun _ _ => rfl)) pa_nil))))) pss_nil) (pss_cons (ps_if (pt_cmpR op_eq (pv 0) pe_int (nomark _)) (pss_one (ps_raise rfl (takes_of rfl rfl rfl rfl) (pmk_val rfl (ce k_Outdated R (pa_cons (pe_ix ixAny (pv 1) pe_int (fun _ _ => rfl)) pa_nil))))) pss_nil) (pss_cons (ps_if (pt_cmpR op_eq (pv 0) pe_int (nomark _)) (pss_one (ps_raise rfl (takes_of rfl rfl rfl rfl) (pmk_val rfl (ce k_NoGoal R (pa_cons (pe_ix ixAny (pv 1) pe_int (fun _ _ => rfl)) pa_nil))))) pss_nil) (pss_one (ps_if (pt_cmpR op_eq (pv 0) pe_int (nomark _)) (pss_one (ps_raise rfl (takes_of rfl rfl rfl rfl) (pmk_val rfl (ce k_NoCourse R (pa_cons (pe_ix ixAny (pv 1) pe_int (fun _ _ => rfl)) pa_nil))))) pss_nil))))))))))))), ?r⟩
  case r =>
    refine ⟨_, rfl, rfl, _, rfl, ite2 (fun c => ?A) (fun c0 => ?rest)⟩
    case A =>
      obtain rfl : i = 0 := by have := eqI c; omega
      refine ⟨_, rfl, .inl ⟨t, _, _, _, rfl, rfl, SqL.of ht, rfl, ?_⟩⟩
      refine ⟨_, rfl, .inl ⟨t, _, _, _, rfl, rfl, SqL.of ht, rfl, ?_⟩⟩
      refine ⟨_, rfl, .inl ⟨t, _, _, _, rfl, rfl, SqL.of ht, rfl, ?_⟩⟩
      refine ⟨by show 3 ≤ 1000; decide, fun a ha => ?_⟩
      exact ⟨a, [x, y, z], rfl, rfl, upd_same, fun dx H' hd ne e1 e2 e3 => ⟨rfl, a, _, some dx, rfl, Kt.ecl 0 (by decide), e1, fr0_none ha, fly_ini (fly (by decide)) ha hd ne e2 e3⟩⟩
    case rest =>
    refine ⟨_, rfl, rfl, _, rfl, ite2 (fun c => ?A) (fun c1 => ?rest)⟩
    case A =>
      obtain rfl : i = 1 := by have := eqI c; omega
      refine ⟨_, rfl, .inl ⟨t, _, _, _, rfl, rfl, SqL.of ht, rfl, ?_⟩⟩
      refine ⟨by show 1 ≤ 1000; decide, fun a ha => ?_⟩
      exact ⟨a, [x], rfl, rfl, upd_same, fun dx H' hd ne e1 e2 e3 => ⟨rfl, a, _, some dx, rfl, Kt.ecl 1 (by decide), e1, fr0_none ha, fly_ini (fly (by decide)) ha hd ne e2 e3⟩⟩
    case rest =>
    refine ⟨_, rfl, rfl, _, rfl, ite2 (fun c => ?A) (fun c2 => ?rest)⟩
    case A =>
      obtain rfl : i = 2 := by have := eqI c; omega
      refine ⟨_, rfl, .inl ⟨t, _, _, _, rfl, rfl, SqL.of ht, rfl, ?_⟩⟩
      refine ⟨by show 1 ≤ 1000; decide, fun a ha => ?_⟩
      exact ⟨a, [x], rfl, rfl, upd_same, fun dx H' hd ne e1 e2 e3 => ⟨rfl, a, _, some dx, rfl, Kt.ecl 2 (by decide), e1, fr0_none ha, fly_ini (fly (by decide)) ha hd ne e2 e3⟩⟩
    case rest =>
    refine ⟨_, rfl, rfl, _, rfl, ite2 (fun c => ?A) (fun c3 => ?rest)⟩
    case A =>
      obtain rfl : i = 3 := by have := eqI c; omega
      refine ⟨_, rfl, .inl ⟨t, _, _, _, rfl, rfl, SqL.of ht, rfl, ?_⟩⟩
      refine ⟨by show 1 ≤ 1000; decide, fun a ha => ?_⟩
      exact ⟨a, [x], rfl, rfl, upd_same, fun dx H' hd ne e1 e2 e3 => ⟨rfl, a, _, some dx, rfl, Kt.ecl 3 (by decide), e1, fr0_none ha, fly_ini (fly (by decide)) ha hd ne e2 e3⟩⟩
    case rest =>
    refine ⟨_, rfl, rfl, _, rfl, ite2 (fun c => ?A) (fun c4 => ?rest)⟩
    case A =>
      obtain rfl : i = 4 := by have := eqI c; omega
      refine ⟨_, rfl, .inl ⟨t, _, _, _, rfl, rfl, SqL.of ht, rfl, ?_⟩⟩
      refine ⟨by show 1 ≤ 1000; decide, fun a ha => ?_⟩
      exact ⟨a, [x], rfl, rfl, upd_same, fun dx H' hd ne e1 e2 e3 => ⟨rfl, a, _, some dx, rfl, Kt.ecl 4 (by decide), e1, fr0_none ha, fly_ini (fly (by decide)) ha hd ne e2 e3⟩⟩
    case rest =>
    refine ⟨_, rfl, rfl, _, rfl, ite2 (fun c => ?A) (fun c5 => ?rest)⟩
    case A =>
      obtain rfl : i = 5 := by have := eqI c; omega
      refine ⟨_, rfl, .inl ⟨t, _, _, _, rfl, rfl, SqL.of ht, rfl, ?_⟩⟩
      refine ⟨by show 1 ≤ 1000; decide, fun a ha => ?_⟩
      exact ⟨a, [x], rfl, rfl, upd_same, fun dx H' hd ne e1 e2 e3 => ⟨rfl, a, _, some dx, rfl, Kt.ecl 5 (by decide), e1, fr0_none ha, fly_ini (fly (by decide)) ha hd ne e2 e3⟩⟩
    case rest =>
    refine ⟨_, rfl, rfl, _, rfl, ite2 (fun c => ?A) (fun c6 => ?rest)⟩
    case A =>
      obtain rfl : i = 6 := by have := eqI c; omega
      refine ⟨_, rfl, .inl ⟨t, _, _, _, rfl, rfl, SqL.of ht, rfl, ?_⟩⟩
      refine ⟨by show 1 ≤ 1000; decide, fun a ha => ?_⟩
      exact ⟨a, [x], rfl, rfl, upd_same, fun dx H' hd ne e1 e2 e3 => ⟨rfl, a, _, some dx, rfl, Kt.ecl 6 (by decide), e1, fr0_none ha, fly_ini (fly (by decide)) ha hd ne e2 e3⟩⟩
    case rest =>
    refine ⟨_, rfl, rfl, _, rfl, ite2 (fun c => ?A) (fun c7 => ?rest)⟩
    case A =>
      obtain rfl : i = 7 := by have := eqI c; omega
      refine ⟨_, rfl, .inl ⟨t, _, _, _, rfl, rfl, SqL.of ht, rfl, ?_⟩⟩
      refine ⟨by show 1 ≤ 1000; decide, fun a ha => ?_⟩
      exact ⟨a, [x], rfl, rfl, upd_same, fun dx H' hd ne e1 e2 e3 => ⟨rfl, a, _, some dx, rfl, Kt.ecl 7 (by decide), e1, fr0_none ha, fly_ini (fly (by decide)) ha hd ne e2 e3⟩⟩
    case rest =>
    refine ⟨_, rfl, rfl, _, rfl, ite2 (fun c => ?A) (fun c8 => ?rest)⟩
    case A =>
      obtain rfl : i = 8 := by have := eqI c; omega
      refine ⟨_, rfl, .inl ⟨t, _, _, _, rfl, rfl, SqL.of ht, rfl, ?_⟩⟩
      refine ⟨by show 1 ≤ 1000; decide, fun a ha => ?_⟩
      exact ⟨a, [x], rfl, rfl, upd_same, fun dx H' hd ne e1 e2 e3 => ⟨rfl, a, _, some dx, rfl, Kt.ecl 8 (by decide), e1, fr0_none ha, fly_ini (fly (by decide)) ha hd ne e2 e3⟩⟩
    case rest =>
    refine ⟨_, rfl, rfl, _, rfl, ite2 (fun c => ?A) (fun c9 => ?rest)⟩
    case A =>
      obtain rfl : i = 9 := by have := eqI c; omega
      refine ⟨_, rfl, .inl ⟨t, _, _, _, rfl, rfl, SqL.of ht, rfl, ?_⟩⟩
      refine ⟨by show 1 ≤ 1000; decide, fun a ha => ?_⟩
      exact ⟨a, [x], rfl, rfl, upd_same, fun dx H' hd ne e1 e2 e3 => ⟨rfl, a, _, some dx, rfl, Kt.ecl 9 (by decide), e1, fr0_none ha, fly_ini (fly (by decide)) ha hd ne e2 e3⟩⟩
    case rest =>
    refine ⟨_, rfl, rfl, _, rfl, ite2 (fun c => ?A) (fun c10 => ?rest)⟩
    case A =>
      obtain rfl : i = 10 := by have := eqI c; omega
      refine ⟨_, rfl, .inl ⟨t, _, _, _, rfl, rfl, SqL.of ht, rfl, ?_⟩⟩
      refine ⟨by show 1 ≤ 1000; decide, fun a ha => ?_⟩
      exact ⟨a, [x], rfl, rfl, upd_same, fun dx H' hd ne e1 e2 e3 => ⟨rfl, a, _, some dx, rfl, Kt.ecl 10 (by decide), e1, fr0_none ha, fly_ini (fly (by decide)) ha hd ne e2 e3⟩⟩
    case rest =>
    refine ⟨_, rfl, rfl, _, rfl, ite2 (fun c => ?A) (fun c11 => ?rest)⟩
    case A =>
      obtain rfl : i = 11 := by have := eqI c; omega
      refine ⟨_, rfl, .inl ⟨t, _, _, _, rfl, rfl, SqL.of ht, rfl, ?_⟩⟩
      refine ⟨by show 1 ≤ 1000; decide, fun a ha => ?_⟩
      exact ⟨a, [x], rfl, rfl, upd_same, fun dx H' hd ne e1 e2 e3 => ⟨rfl, a, _, some dx, rfl, Kt.ecl 11 (by decide), e1, fr0_none ha, fly_ini (fly (by decide)) ha hd ne e2 e3⟩⟩
    case rest =>
    have n0 := neI c0
    have n1 := neI c1
    have n2 := neI c2
    have n3 := neI c3
    have n4 := neI c4
    have n5 := neI c5
    have n6 := neI c6
    have n7 := neI c7
    have n8 := neI c8
    have n9 := neI c9
    have n10 := neI c10
    have n11 := neI c11
    exact q (by omega)
theorem sc__law_raised : FnScope ["_law_which", "_law_things"] ["_law_which", "_law_things"] (defScope (top 31)) := ⟨rfl, rfl, rfl, by decide +kernel, rfl, by decide +kernel, by decide +kernel⟩
theorem ok__law_raised (F : FnP K "_law_raised" 31 f fd) (hS : ∃ o, base.get? sysModules = some o) (Kt : Kit K mg) {fF : Addr} {fdF : FuncData}
    (G : FnG P w K mg base (L2.CX P w) 3 fF fdF ["_law_which", "_law_things"] (spFirst K)) (gF : mg "_law_first_raised" = some (.ref fF)) (kF : PySem.W.keepIn K (.ref fF) = true) (bF : Binds K fdF ["_law_which", "_law_things"] [])
    (k_NoQuestion : Mkr P w K mg base "NoQuestion" (cA K 12) 1 ["self"] (spNo (cA K 12)))
    (k_NotPlain : Mkr P w K mg base "NotPlain" (cA K 13) 1 ["self"] (spNo (cA K 13)))
    (k_NoPlan : Mkr P w K mg base "NoPlan" (cA K 14) 1 ["self"] (spNo (cA K 14)))
    (k_InvalidText : Mkr P w K mg base "InvalidText" (cA K 15) 1 ["self"] (spNo (cA K 15)))
    (k_InvalidCommand : Mkr P w K mg base "InvalidCommand" (cA K 16) 1 ["self"] (spNo (cA K 16)))
    (k_NothingAsked : Mkr P w K mg base "NothingAsked" (cA K 17) 1 ["self"] (spNo (cA K 17)))
    (k_NoRun : Mkr P w K mg base "NoRun" (cA K 18) 1 ["self"] (spNo (cA K 18))) :
    FnG P w K mg base (L2.CX P w) 4 f fd ["_law_which", "_law_things"] (spRaised K) := by
  refine okR F sc__law_raised hS (fun vs H Q E h => ?_) (fun cdv A outer s H vs Q E R h => ?_)
  · obtain ⟨t, x, y, z, i, rfl, _⟩ := h
    rfl
  obtain ⟨t, x, y, z, i, rfl, hi, ht, fly⟩ := h
  have nd := sc__law_raised.nd
  refine ⟨_, (pss_cons (ps_expr (callGS G R.gd (R.room.mono (by omega)) gF kF bF (fun σ => passAt (takes_of rfl rfl rfl rfl) σ) (pa_cons (pv 0) (pa_cons (pv 1) pa_nil)))) (pss_cons (ps_if (pt_cmpR op_eq (pv 0) pe_int (nomark _)) (pss_one (ps_raise rfl (takes_of rfl rfl rfl rfl) (pmk_val rfl (ce0 k_NoQuestion R)))) pss_nil) (pss_cons (ps_if (pt_cmpR op_eq (pv 0) pe_int (nomark _)) (pss_one (ps_raise rfl (takes_of rfl rfl rfl rfl) (pmk_val rfl (ce0 k_NotPlain R)))) pss_nil) (pss_cons (ps_if (pt_cmpR op_eq (pv 0) pe_int (nomark _)) (pss_one (ps_raise rfl (takes_of rfl rfl rfl rfl) (pmk_val rfl (ce0 k_NoPlan R)))) pss_nil) (pss_cons (ps_if (pt_cmpR op_eq (pv 0) pe_int (nomark _)) (pss_one (ps_raise rfl (takes_of rfl rfl rfl rfl) (pmk_val rfl (ce0 k_InvalidText R)))) pss_nil) (pss_cons (ps_if (pt_cmpR op_eq (pv 0) pe_int (nomark _)) (pss_one (ps_raise rfl (takes_of rfl rfl rfl rfl) (pmk_val rfl (ce0 k_InvalidCommand R)))) pss_nil) (pss_cons (ps_if (pt_cmpR op_eq (pv 0) pe_int (nomark _)) (pss_one (ps_raise rfl (takes_of rfl rfl rfl rfl) (pmk_val rfl (ce0 k_NothingAsked R)))) pss_nil) (pss_one (ps_raise rfl (takes_of rfl rfl rfl rfl) (pmk_val rfl (ce0 k_NoRun R))))))))))), ?r⟩
  case r =>
    refine ⟨_, rfl, _, rfl, t, x, y, z, i, rfl, hi, ht, fun _ => fly, fun h12 => ?_⟩
    refine ⟨_, rfl, rfl, _, rfl, ite2 (fun c => ?A) (fun c12 => ?rest)⟩
    case A =>
      obtain rfl : i = 12 := by have := eqI c; omega
      exact ⟨by show 0 ≤ 1000; decide, fun a ha => ⟨a, rfl, upd_same, rfl, a, _, none, rfl, Kt.ecl 12 (by decide), upd_same, fr0_none ha, fly_no fly ha⟩⟩
    case rest =>
    refine ⟨_, rfl, rfl, _, rfl, ite2 (fun c => ?A) (fun c13 => ?rest)⟩
    case A =>
      obtain rfl : i = 13 := by have := eqI c; omega
      exact ⟨by show 0 ≤ 1000; decide, fun a ha => ⟨a, rfl, upd_same, rfl, a, _, none, rfl, Kt.ecl 13 (by decide), upd_same, fr0_none ha, fly_no fly ha⟩⟩
    case rest =>
    refine ⟨_, rfl, rfl, _, rfl, ite2 (fun c => ?A) (fun c14 => ?rest)⟩
    case A =>
      obtain rfl : i = 14 := by have := eqI c; omega
      exact ⟨by show 0 ≤ 1000; decide, fun a ha => ⟨a, rfl, upd_same, rfl, a, _, none, rfl, Kt.ecl 14 (by decide), upd_same, fr0_none ha, fly_no fly ha⟩⟩
    case rest =>
    refine ⟨_, rfl, rfl, _, rfl, ite2 (fun c => ?A) (fun c15 => ?rest)⟩
    case A =>
      obtain rfl : i = 15 := by have := eqI c; omega
      exact ⟨by show 0 ≤ 1000; decide, fun a ha => ⟨a, rfl, upd_same, rfl, a, _, none, rfl, Kt.ecl 15 (by decide), upd_same, fr0_none ha, fly_no fly ha⟩⟩
    case rest =>
    refine ⟨_, rfl, rfl, _, rfl, ite2 (fun c => ?A) (fun c16 => ?rest)⟩
    case A =>
      obtain rfl : i = 16 := by have := eqI c; omega
      exact ⟨by show 0 ≤ 1000; decide, fun a ha => ⟨a, rfl, upd_same, rfl, a, _, none, rfl, Kt.ecl 16 (by decide), upd_same, fr0_none ha, fly_no fly ha⟩⟩
    case rest =>
    refine ⟨_, rfl, rfl, _, rfl, ite2 (fun c => ?A) (fun c17 => ?rest)⟩
    case A =>
      obtain rfl : i = 17 := by have := eqI c; omega
      exact ⟨by show 0 ≤ 1000; decide, fun a ha => ⟨a, rfl, upd_same, rfl, a, _, none, rfl, Kt.ecl 17 (by decide), upd_same, fr0_none ha, fly_no fly ha⟩⟩
    case rest =>
    have n12 := neI c12
    have n13 := neI c13
    have n14 := neI c14
    have n15 := neI c15
    have n16 := neI c16
    have n17 := neI c17
    obtain rfl : i = 18 := by omega
    exact ⟨by show 0 ≤ 1000; decide, fun a ha => ⟨a, rfl, upd_same, rfl, a, _, none, rfl, Kt.ecl 18 (by decide), upd_same, fr0_none ha, fly_no fly ha⟩⟩
end
end K01
end

/-! K01h -/
section
open PySem PySem.Spec PyProof.Rows L2 FA
--imports K01g
namespace K01
/-- the three answers about an error -/
def Told (K : PySem.W.Frag) (i : Nat) (H : Hp) (p : Addr) : Prop := ∃ p1 p2, H p = some (.lst [.ref p1, .ref p2, .bl true]) ∧ H p1 = some (.lst (bls i)) ∧ H p2 = some (.lst (List.replicate 7 (.bl false)))
def spCaught (K : PySem.W.Frag) : Sp := fun vs H Q _ => ∃ (t : Addr) (x y z : V) (i : Nat), vs = [.int i, .ref t] ∧ i < 19 ∧ H t = some (.lst [x, y, z]) ∧ ∀ p H', Told K i H' p → Same H H' → Q (.ref p) H'
section
variable {P : Program} {w : World} {K : PySem.W.Frag} {mg : Str → Option Value} {base : Heap} {f : Addr} {fd : FuncData}
theorem sc__law_caught : FnScope ["_law_which", "_law_things", "_law_kinds", "_law_e"] ["_law_which", "_law_things"] (defScope (top 32)) := ⟨rfl, rfl, rfl, by decide +kernel, rfl, by decide +kernel, by decide +kernel⟩
theorem ok__law_caught (F : FnP K "_law_caught" 32 f fd) (hS : ∃ o, base.get? sysModules = some o) (B : Blt mg) (Kt : Kit K mg) {fF fO fT : Addr} {fdF fdO fdT : FuncData}
    (G : FnG P w K mg base (L2.CX P w) 4 fF fdF ["_law_which", "_law_things"] (spRaised K)) (gF : mg "_law_raised" = some (.ref fF)) (kF : PySem.W.keepIn K (.ref fF) = true) (bF : Binds K fdF ["_law_which", "_law_things"] [])
    (GO : ∀ {a oe d i}, i < 19 → oe.cls = .ref (cA K i) → oe.dict = d → (∃ vs, oe.data = .fields vs) → FnX P w K mg base (a, oe) 1 fO fdO ["_law_e"] (spOwnP K a d i)) (gO : mg "_law_own_kinds" = some (.ref fO)) (kO : PySem.W.keepIn K (.ref fO) = true) (bO : Binds K fdO ["_law_e"] [])
    (GT : ∀ {a oe d i}, i < 19 → oe.cls = .ref (cA K i) → oe.dict = d → (∃ vs, oe.data = .fields vs) → FnX P w K mg base (a, oe) 1 fT fdT ["_law_e"] (spOtherP K a d)) (gT : mg "_law_other_kinds" = some (.ref fT)) (kT : PySem.W.keepIn K (.ref fT) = true) (bT : Binds K fdT ["_law_e"] []) :
    FnG P w K mg base CX0 5 f fd ["_law_which", "_law_things"] (spCaught K) := by
  refine okD F sc__law_caught hS (fun vs H Q E h => ?_) (fun cdv A outer s H vs Q E R h => ?_)
  · obtain ⟨t, x, y, z, i, rfl, _⟩ := h
    rfl
  obtain ⟨t, x, y, z, i, rfl, hi, ht, k⟩ := h
  have nd := sc__law_caught.nd
  have m_isinstance := B.isinstance
  have m_Exception : mg "Exception" = none := Kt.noB "Exception" (by decide)
  have rm1 := R.room.mono (by decide : 1 ≤ 4)
  refine ⟨_, pss_cons (ps_set (i := 2) nd rfl (Or.inl rfl) (pe_lst pa_nil)) (pss_cons
    (ps_try_as (i := 3) (c := .ref (He.ga K "FailsError")) (Wout := fun _ _ _ _ => False) rfl rfl nd rfl rfl ⟨rfl, by decide, Or.inl Kt.gloF⟩ takes0
      (fun W pn xe tk _ => pss_one (ps_expr (callGS G R.gd (R.room.mono (by omega)) gF kF bF (fun σ => passAt tk σ) (pa_cons (pv 0) (pa_cons (pv 1) pa_nil)))))
      (fun a oe cls d pn hz hf => pss_ex (h := fun i => i < 19 ∧ cls = .ref (cA K i)) fun i hi => pss_one (ps_set (i := 2) nd rfl (Or.inl rfl) (pe_lst
        (pa_cons (callX (GO hi.1 (hz.1.trans hi.2) hz.2 hf) ⟨rm1.dp, rm1.un⟩ List.mem_cons_self gO kO bO (pa_cons (pv 3) pa_nil))
        (pa_cons (callX (GT hi.1 (hz.1.trans hi.2) hz.2 hf) ⟨rm1.dp, rm1.un⟩ List.mem_cons_self gT kT bT (pa_cons (pv 3) pa_nil))
        (pa_cons (pe_callB (r := rIsP K a d (cA K i)) (call_isP (Kt.ecl i hi.1) List.mem_cons_self (hz.1.trans hi.2) hz.2 hf) rfl m_isinstance bt_isinstance (pa_cons (pv 3) (pa_cons (pe_bltn (v := .ty "Exception") (u := .type "Exception") rfl m_Exception bt_Exception rfl) pa_nil))) pa_nil)))))))
    (pss_one (ps_ret (pv 2)))), ?r⟩
  case r =>
    refine ⟨Nat.zero_le _, fun p0 h0 => ?_⟩
    have s0 : Same H (upd H p0 (.lst [])) := same_new h0 _
    refine ⟨_, rfl, _, rfl, t, x, y, z, i, rfl, hi, s0 _ _ ht, fun d H1 s1 hd => ⟨true, Kt.exF i hi, fun _ a ha => ⟨i, ⟨hi, rfl⟩, ?_⟩, fun q => nomatch q⟩⟩
    have x1 : Xp K H1 d := ⟨hd⟩
    refine ⟨_, rfl, rfl, x1, fun p1 H2 h1 e1 s2 => ?_⟩
    refine ⟨_, rfl, rfl, x1.same s2, fun p2 H3 h2 e2 s3 => ?_⟩
    refine ⟨_, rfl, _, .type "Exception", true, rfl, ((x1.same s2).same s3).ex, fun u z => z, Kt.kitE i hi, by show 3 ≤ sizeLine; decide, fun p hp => ?_⟩
    have s4 := same_new hp (.lst [.ref p1, .ref p2, .bl true])
    exact ⟨_, rfl, k p _ ⟨p1, p2, upd_same, s4 _ _ (s3 _ _ e1), s4 _ _ e2⟩ ((((s0.trans s1).trans s2).trans s3).trans s4)⟩
end
end K01
end

/-! K01i -/
section
open PySem PySem.Spec PyProof.Rows L2 FA
--imports K01h
namespace K01
def held (i : Nat) (x y z : V) : List V := if i = 0 then [x, y, z] else if i < 12 then [x] else []
structure MadeOk (K : PySem.W.Frag) (H H' : Hp) (i : Nat) (x y z : V) (p : Addr) : Prop where
  ex : ∃ a p2, H' p = some (.lst [.ref a, .ref p2]) ∧ H' p2 = some (.lst (held i x y z)) ∧ Xc K H' a i
  same : Same H H'
def spMade (K : PySem.W.Frag) : Sp := fun vs H Q _ => ∃ (t : Addr) (x y z : V) (i : Nat), vs = [.int i, .ref t] ∧ i < 19 ∧ H t = some (.lst [x, y, z]) ∧ ∀ p H', MadeOk K H H' i x y z p → Q (.ref p) H'
theorem inI {i : Nat} {ks : List Int} : L2.inV (.int i) (ks.map V.int) = decide ((i : Int) ∈ ks) := by
  induction ks with
  | nil => rfl
  | cons k r ih =>
    unfold L2.inV at ih ⊢
    rw [List.map_cons, List.any_cons, ih]
    by_cases h : k = (i : Int)
    · subst h
      simp [L2.eqV]
    · have h' : ¬ ((i : Int) = k) := fun e => h e.symm
      simp [L2.eqV, h, h']
theorem made_end {K : PySem.W.Frag} {H Hc H' : Hp} {i : Nat} {x y z : V} {a dx p p2 C : Addr} {fs : List (Str × V)} {xs : List V} (s : Same H Hc) (ha : Hc a = none) (hd : upd Hc a (exo a C none) dx = none) (ne : dx ≠ a)
    (e1 : H' a = some (exo a (cA K i) (some dx))) (e2 : H' dx = some (exd dx fs)) (e3 : ∀ b, b ≠ a → b ≠ dx → H' b = upd Hc a (exo a C none) b)
    (h2 : H' p2 = none) (hp : upd H' p2 (.lst xs) p = none) (hx : xs = held i x y z) : MadeOk K H (upd (upd H' p2 (.lst xs)) p (.lst [.ref a, .ref p2])) i x y z p := by
  subst hx
  have s1 := same_new h2 (.lst (held i x y z))
  have s2 := same_new hp (.lst [.ref a, .ref p2])
  have s12 := s1.trans s2
  have sh : Same H H' := fun b o q => by
    have q1 := s _ _ q
    have n1 : b ≠ a := ne_of_none q1 ha
    have hd0 : Hc dx = none := by rw [upd_ne ne] at hd; exact hd
    have n2 : b ≠ dx := ne_of_none q1 hd0
    rw [e3 b n1 n2, upd_ne n1]
    exact q1
  exact ⟨⟨a, p2, upd_same, s2 _ _ upd_same, ⟨some dx, s12 _ _ e1, fun dy e => by cases e; exact ⟨fs, s12 _ _ e2⟩⟩⟩, sh.trans s12⟩
theorem made_no {K : PySem.W.Frag} {H H9 : Hp} {i : Nat} {x y z : V} {a p p2 : Addr} (e : H9 a = some (exo a (cA K i) none)) (s : Same H H9) (h2 : H9 p2 = none) (hp : upd H9 p2 (.lst []) p = none)
    (h12 : 12 ≤ i) : MadeOk K H (upd (upd H9 p2 (.lst [])) p (.lst [.ref a, .ref p2])) i x y z p := by
  have s1 := same_new h2 (.lst [])
  have s2 := same_new hp (.lst [.ref a, .ref p2])
  have s12 := s1.trans s2
  have hh : held i x y z = [] := by
    unfold held
    rw [if_neg (by omega), if_neg (by omega)]
  exact ⟨⟨a, p2, upd_same, by rw [hh]; exact s2 _ _ upd_same, ⟨none, s12 _ _ e, fun dy e => nomatch e⟩⟩, s.trans s12⟩
section
variable {P : Program} {w : World} {K : PySem.W.Frag} {mg : Str → Option Value} {base : Heap} {f : Addr} {fd : FuncData}
theorem sc__law_made : FnScope ["_law_which", "_law_things", "_law_one", "_law_e", "_law_some"] ["_law_which", "_law_things"] (defScope (top 28)) := ⟨rfl, rfl, rfl, by decide +kernel, rfl, by decide +kernel, by decide +kernel⟩
theorem ok__law_made (F : FnP K "_law_made" 28 f fd) (hS : ∃ o, base.get? sysModules = some o) (Kt : Kit K mg)
    (k_Failed : Mkr P w K mg base "Failed" (cA K 0) 1 ["self", "word", "place", "numbers"] (spIni (cA K 0) 3 three))
    (k_NameTaken : Mkr P w K mg base "NameTaken" (cA K 1) 1 ["self", "name"] (spIni (cA K 1) 1 (one "name")))
    (k_BadTable : Mkr P w K mg base "BadTable" (cA K 2) 1 ["self", "part"] (spIni (cA K 2) 1 (one "part")))
    (k_NoTable : Mkr P w K mg base "NoTable" (cA K 3) 1 ["self", "name"] (spIni (cA K 3) 1 (one "name")))
    (k_NoColumn : Mkr P w K mg base "NoColumn" (cA K 4) 1 ["self", "name"] (spIni (cA K 4) 1 (one "name")))
    (k_BadRow : Mkr P w K mg base "BadRow" (cA K 5) 1 ["self", "column"] (spIni (cA K 5) 1 (one "column")))
    (k_KeyTaken : Mkr P w K mg base "KeyTaken" (cA K 6) 1 ["self", "column"] (spIni (cA K 6) 1 (one "column")))
    (k_NoRow : Mkr P w K mg base "NoRow" (cA K 7) 1 ["self", "number"] (spIni (cA K 7) 1 (one "number")))
    (k_TooGreat : Mkr P w K mg base "TooGreat" (cA K 8) 1 ["self", "limit"] (spIni (cA K 8) 1 (one "limit")))
    (k_Outdated : Mkr P w K mg base "Outdated" (cA K 9) 1 ["self", "fact"] (spIni (cA K 9) 1 (one "fact")))
    (k_NoGoal : Mkr P w K mg base "NoGoal" (cA K 10) 1 ["self", "number"] (spIni (cA K 10) 1 (one "number")))
    (k_NoCourse : Mkr P w K mg base "NoCourse" (cA K 11) 1 ["self", "number"] (spIni (cA K 11) 1 (one "number")))
    (k_NoQuestion : Mkr P w K mg base "NoQuestion" (cA K 12) 1 ["self"] (spNo (cA K 12)))
    (k_NotPlain : Mkr P w K mg base "NotPlain" (cA K 13) 1 ["self"] (spNo (cA K 13)))
    (k_NoPlan : Mkr P w K mg base "NoPlan" (cA K 14) 1 ["self"] (spNo (cA K 14)))
    (k_InvalidText : Mkr P w K mg base "InvalidText" (cA K 15) 1 ["self"] (spNo (cA K 15)))
    (k_InvalidCommand : Mkr P w K mg base "InvalidCommand" (cA K 16) 1 ["self"] (spNo (cA K 16)))
    (k_NothingAsked : Mkr P w K mg base "NothingAsked" (cA K 17) 1 ["self"] (spNo (cA K 17)))
    (k_NoRun : Mkr P w K mg base "NoRun" (cA K 18) 1 ["self"] (spNo (cA K 18))) :
    FnG P w K mg base CX0 3 f fd ["_law_which", "_law_things"] (spMade K) := by
  refine okD F sc__law_made hS (fun vs H Q E h => ?_) (fun cdv A outer s H vs Q E R h => ?_)
  · obtain ⟨t, x, y, z, i, rfl, _⟩ := h
    rfl
  obtain ⟨t, x, y, z, i, rfl, hi, ht, k⟩ := h
  have nd := sc__law_made.nd
  refine ⟨_, (pss_cons (ps_set (i := 2) nd rfl (Or.inl rfl) (pe_ix ixAny (pv 1) pe_int (fun _ _ => rfl))) (pss_cons (ps_if (pt_cmpR op_eq (pv 0) pe_int (nomark _)) (pss_cons (ps_set (i := 3) nd rfl (Or.inl rfl) (ce k_Failed R (pa_cons (pv 2) (pa_cons (pe_ix ixAny (pv 1) pe_int (fun _ _ => rfl)) (pa_cons (pe_ix ixAny (pv 1) pe_int (fun _ _ => rfl)) pa_nil))))) (pss_one (ps_ret (pe_lst (pa_cons (pv 3) (pa_cons (pe_lst (pa_cons (pe_ef (pv 3)) (pa_cons (pe_ef (pv 3)) (pa_cons (pe_ef (pv 3)) pa_nil)))) pa_nil)))))) pss_nil) (pss_cons (ps_if (pt_cmpR op_in_seq (pv 0) (pe_tup (pa_cons pe_int (pa_cons pe_int (pa_cons pe_int pa_nil)))) (by rfl)) (pss_cons (ps_set (i := 3) nd rfl (Or.inl rfl) (pe_ifExp (pt_cmpR op_eq (pv 0) pe_int (nomark _)) (ce k_NameTaken R (pa_cons (pv 2) pa_nil)) (pe_ifExp (pt_cmpR op_eq (pv 0) pe_int (nomark _)) (ce k_NoTable R (pa_cons (pv 2) pa_nil)) (ce k_NoColumn R (pa_cons (pv 2) pa_nil))))) (pss_one (ps_ret (pe_lst (pa_cons (pv 3) (pa_cons (pe_lst (pa_cons (pe_ef (pv 3)) pa_nil)) pa_nil)))))) pss_nil) (pss_cons (ps_if (pt_cmpR op_eq (pv 0) pe_int (nomark _)) (pss_cons (ps_set (i := 3) nd rfl (Or.inl rfl) (ce k_BadTable R (pa_cons (pv 2) pa_nil))) (pss_one (ps_ret (pe_lst (pa_cons (pv 3) (pa_cons (pe_lst (pa_cons (pe_ef (pv 3)) pa_nil)) pa_nil)))))) pss_nil) (pss_cons (ps_if (pt_cmpR op_in_seq (pv 0) (pe_tup (pa_cons pe_int (pa_cons pe_int pa_nil))) (by rfl)) (pss_cons (ps_set (i := 3) nd rfl (Or.inl rfl) (pe_ifExp (pt_cmpR op_eq (pv 0) pe_int (nomark _)) (ce k_BadRow R (pa_cons (pv 2) pa_nil)) (ce k_KeyTaken R (pa_cons (pv 2) pa_nil)))) (pss_one (ps_ret (pe_lst (pa_cons (pv 3) (pa_cons (pe_lst (pa_cons (pe_ef (pv 3)) pa_nil)) pa_nil)))))) pss_nil) (pss_cons (ps_if (pt_cmpR op_in_seq (pv 0) (pe_tup (pa_cons pe_int (pa_cons pe_int (pa_cons pe_int pa_nil)))) (by rfl)) (pss_cons (ps_set (i := 3) nd rfl (Or.inl rfl) (pe_ifExp (pt_cmpR op_eq (pv 0) pe_int (nomark _)) (ce k_NoRow R (pa_cons (pv 2) pa_nil)) (pe_ifExp (pt_cmpR op_eq (pv 0) pe_int (nomark _)) (ce k_NoGoal R (pa_cons (pv 2) pa_nil)) (ce k_NoCourse R (pa_cons (pv 2) pa_nil))))) (pss_one (ps_ret (pe_lst (pa_cons (pv 3) (pa_cons (pe_lst (pa_cons (pe_ef (pv 3)) pa_nil)) pa_nil)))))) pss_nil) (pss_cons (ps_if (pt_cmpR op_eq (pv 0) pe_int (nomark _)) (pss_cons (ps_set (i := 3) nd rfl (Or.inl rfl) (ce k_TooGreat R (pa_cons (pv 2) pa_nil))) (pss_one (ps_ret (pe_lst (pa_cons (pv 3) (pa_cons (pe_lst (pa_cons (pe_ef (pv 3)) pa_nil)) pa_nil)))))) pss_nil) (pss_cons (ps_if (pt_cmpR op_eq (pv 0) pe_int (nomark _)) (pss_cons (ps_set (i := 3) nd rfl (Or.inl rfl) (ce k_Outdated R (pa_cons (pv 2) pa_nil))) (pss_one (ps_ret (pe_lst (pa_cons (pv 3) (pa_cons (pe_lst (pa_cons (pe_ef (pv 3)) pa_nil)) pa_nil)))))) pss_nil) (pss_cons (ps_set (i := 4) nd rfl (Or.inl rfl) (pe_lst (pa_cons (ce0 k_NoQuestion R) (pa_cons (ce0 k_NotPlain R) (pa_cons (ce0 k_NoPlan R) (pa_cons (ce0 k_InvalidText R) (pa_cons (ce0 k_InvalidCommand R) (pa_cons (ce0 k_NothingAsked R) (pa_cons (ce0 k_NoRun R) pa_nil))))))))) (pss_one (ps_ret (pe_lst (pa_cons (pe_ix ixAny (pv 4) (pe_op op_sub (pv 0) pe_int) (fun _ _ => rfl)) (pa_cons (pe_lst pa_nil) pa_nil)))))))))))))), ?r⟩
  case r =>
    refine ⟨_, rfl, .inl ⟨t, _, _, _, rfl, rfl, SqL.of ht, rfl, ?_⟩⟩
    refine ⟨_, rfl, rfl, _, rfl, ite2 (fun c => ?A) (fun c0 => ?rest)⟩
    case A =>
      obtain rfl : i = 0 := by have := eqI c; omega
      refine ⟨_, rfl, _, rfl, .inl ⟨t, _, _, _, rfl, rfl, SqL.of ht, rfl, ?_⟩⟩
      refine ⟨_, rfl, .inl ⟨t, _, _, _, rfl, rfl, SqL.of ht, rfl, ?_⟩⟩
      refine ⟨by show 3 ≤ 1000; decide, fun a ha => ⟨a, [x, y, z], rfl, rfl, upd_same, fun dx H' hd ne e1 e2 e3 => ⟨rfl, ?_⟩⟩⟩
      refine ⟨_, rfl, _, rfl, a, _, dx, _, x, rfl, Kt.ecl 0 hi, Kt.noA 0 "word" hi (by decide), e1, e2, rfl, ?_⟩
      refine ⟨_, rfl, a, _, dx, _, y, rfl, Kt.ecl 0 hi, Kt.noA 0 "place" hi (by decide), e1, e2, rfl, ?_⟩
      refine ⟨_, rfl, a, _, dx, _, z, rfl, Kt.ecl 0 hi, Kt.noA 0 "numbers" hi (by decide), e1, e2, rfl, ?_⟩
      exact ⟨by show 3 ≤ sizeLine; decide, fun p2 h2 => ⟨by show 2 ≤ sizeLine; decide, fun p hp => k p _ (made_end (Same.refl _) ha hd ne e1 e2 e3 h2 hp rfl)⟩⟩
    case rest =>
    have n0 := neI c0
    refine ⟨_, rfl, by show 3 ≤ sizeLine; decide, fun T1 hT1 => ⟨T1, _, rfl, .inr (SqT.of upd_same), rfl, rfl, _, rfl, ite2 (fun c => ?A) (fun c1 => ?rest)⟩⟩
    case A =>
      have c' : decide ((i : Int) ∈ ([1, 3, 4] : List Int)) = true := (inI (ks := [1, 3, 4])).symm.trans c
      have cm := of_decide_eq_true c'
      simp only [List.mem_cons, List.not_mem_nil, or_false] at cm
      have hi2 : i = 1 ∨ i = 3 ∨ i = 4 := by omega
      rcases hi2 with rfl | rfl | rfl
      · refine ⟨_, rfl, rfl, _, rfl, ite2 (fun _ => ?_) (fun c => absurd rfl (neI c))⟩
        refine ⟨_, rfl, by show 1 ≤ 1000; decide, fun a ha => ⟨a, [x], rfl, rfl, upd_same, fun dx H' hd ne e1 e2 e3 => ⟨rfl, ?_⟩⟩⟩
        refine ⟨_, rfl, _, rfl, a, _, dx, _, x, rfl, Kt.ecl 1 hi, Kt.noA 1 "name" hi (by decide), e1, e2, rfl, ?_⟩
        exact ⟨by show 1 ≤ sizeLine; decide, fun p2 h2 => ⟨by show 2 ≤ sizeLine; decide, fun p hp => k p _ (made_end (same_new hT1 (.tup [.int 1, .int 3, .int 4])) ha hd ne e1 e2 e3 h2 hp rfl)⟩⟩
      · refine ⟨_, rfl, rfl, _, rfl, ite2 (fun c => absurd (eqI c) (by decide)) (fun _ => ?_)⟩
        refine ⟨_, rfl, rfl, _, rfl, ite2 (fun _ => ?_) (fun c => absurd rfl (neI c))⟩
        refine ⟨_, rfl, by show 1 ≤ 1000; decide, fun a ha => ⟨a, [x], rfl, rfl, upd_same, fun dx H' hd ne e1 e2 e3 => ⟨rfl, ?_⟩⟩⟩
        refine ⟨_, rfl, _, rfl, a, _, dx, _, x, rfl, Kt.ecl 3 hi, Kt.noA 3 "name" hi (by decide), e1, e2, rfl, ?_⟩
        exact ⟨by show 1 ≤ sizeLine; decide, fun p2 h2 => ⟨by show 2 ≤ sizeLine; decide, fun p hp => k p _ (made_end (same_new hT1 (.tup [.int 1, .int 3, .int 4])) ha hd ne e1 e2 e3 h2 hp rfl)⟩⟩
      · refine ⟨_, rfl, rfl, _, rfl, ite2 (fun c => absurd (eqI c) (by decide)) (fun _ => ?_)⟩
        refine ⟨_, rfl, rfl, _, rfl, ite2 (fun c => absurd (eqI c) (by decide)) (fun _ => ?_)⟩
        refine ⟨_, rfl, by show 1 ≤ 1000; decide, fun a ha => ⟨a, [x], rfl, rfl, upd_same, fun dx H' hd ne e1 e2 e3 => ⟨rfl, ?_⟩⟩⟩
        refine ⟨_, rfl, _, rfl, a, _, dx, _, x, rfl, Kt.ecl 4 hi, Kt.noA 4 "name" hi (by decide), e1, e2, rfl, ?_⟩
        exact ⟨by show 1 ≤ sizeLine; decide, fun p2 h2 => ⟨by show 2 ≤ sizeLine; decide, fun p hp => k p _ (made_end (same_new hT1 (.tup [.int 1, .int 3, .int 4])) ha hd ne e1 e2 e3 h2 hp rfl)⟩⟩
    case rest =>
    have n1 : ¬ ((i : Int) ∈ ([1, 3, 4] : List Int)) := fun z => c1 ((inI (ks := [1, 3, 4])).trans (decide_eq_true z))
    simp only [List.mem_cons, List.not_mem_nil, or_false, not_or] at n1
    have s1 := (same_new hT1 (.tup [.int 1, .int 3, .int 4]))
    have hts1 := s1 _ _ ht
    refine ⟨_, rfl, rfl, _, rfl, ite2 (fun c => ?A) (fun c2 => ?rest)⟩
    case A =>
      obtain rfl : i = 2 := by have := eqI c; omega
      refine ⟨_, rfl, by show 1 ≤ 1000; decide, fun a ha => ⟨a, [x], rfl, rfl, upd_same, fun dx H' hd ne e1 e2 e3 => ⟨rfl, ?_⟩⟩⟩
      refine ⟨_, rfl, _, rfl, a, _, dx, _, x, rfl, Kt.ecl 2 hi, Kt.noA 2 "part" hi (by decide), e1, e2, rfl, ?_⟩
      exact ⟨by show 1 ≤ sizeLine; decide, fun p2 h2 => ⟨by show 2 ≤ sizeLine; decide, fun p hp => k p _ (made_end s1 ha hd ne e1 e2 e3 h2 hp rfl)⟩⟩
    case rest =>
    have n2 := neI c2
    refine ⟨_, rfl, by show 2 ≤ sizeLine; decide, fun T3 hT3 => ⟨T3, _, rfl, .inr (SqT.of upd_same), rfl, rfl, _, rfl, ite2 (fun c => ?A) (fun c3 => ?rest)⟩⟩
    case A =>
      have c' : decide ((i : Int) ∈ ([5, 6] : List Int)) = true := (inI (ks := [5, 6])).symm.trans c
      have cm := of_decide_eq_true c'
      simp only [List.mem_cons, List.not_mem_nil, or_false] at cm
      have hi2 : i = 5 ∨ i = 6 := by omega
      rcases hi2 with rfl | rfl
      · refine ⟨_, rfl, rfl, _, rfl, ite2 (fun _ => ?_) (fun c => absurd rfl (neI c))⟩
        refine ⟨_, rfl, by show 1 ≤ 1000; decide, fun a ha => ⟨a, [x], rfl, rfl, upd_same, fun dx H' hd ne e1 e2 e3 => ⟨rfl, ?_⟩⟩⟩
        refine ⟨_, rfl, _, rfl, a, _, dx, _, x, rfl, Kt.ecl 5 hi, Kt.noA 5 "column" hi (by decide), e1, e2, rfl, ?_⟩
        exact ⟨by show 1 ≤ sizeLine; decide, fun p2 h2 => ⟨by show 2 ≤ sizeLine; decide, fun p hp => k p _ (made_end (s1.trans (same_new hT3 (.tup [.int 5, .int 6]))) ha hd ne e1 e2 e3 h2 hp rfl)⟩⟩
      · refine ⟨_, rfl, rfl, _, rfl, ite2 (fun c => absurd (eqI c) (by decide)) (fun _ => ?_)⟩
        refine ⟨_, rfl, by show 1 ≤ 1000; decide, fun a ha => ⟨a, [x], rfl, rfl, upd_same, fun dx H' hd ne e1 e2 e3 => ⟨rfl, ?_⟩⟩⟩
        refine ⟨_, rfl, _, rfl, a, _, dx, _, x, rfl, Kt.ecl 6 hi, Kt.noA 6 "column" hi (by decide), e1, e2, rfl, ?_⟩
        exact ⟨by show 1 ≤ sizeLine; decide, fun p2 h2 => ⟨by show 2 ≤ sizeLine; decide, fun p hp => k p _ (made_end (s1.trans (same_new hT3 (.tup [.int 5, .int 6]))) ha hd ne e1 e2 e3 h2 hp rfl)⟩⟩
    case rest =>
    have n3 : ¬ ((i : Int) ∈ ([5, 6] : List Int)) := fun z => c3 ((inI (ks := [5, 6])).trans (decide_eq_true z))
    simp only [List.mem_cons, List.not_mem_nil, or_false, not_or] at n3
    have s3 := (s1.trans (same_new hT3 (.tup [.int 5, .int 6])))
    have hts3 := s3 _ _ ht
    refine ⟨_, rfl, by show 3 ≤ sizeLine; decide, fun T4 hT4 => ⟨T4, _, rfl, .inr (SqT.of upd_same), rfl, rfl, _, rfl, ite2 (fun c => ?A) (fun c4 => ?rest)⟩⟩
    case A =>
      have c' : decide ((i : Int) ∈ ([7, 10, 11] : List Int)) = true := (inI (ks := [7, 10, 11])).symm.trans c
      have cm := of_decide_eq_true c'
      simp only [List.mem_cons, List.not_mem_nil, or_false] at cm
      have hi2 : i = 7 ∨ i = 10 ∨ i = 11 := by omega
      rcases hi2 with rfl | rfl | rfl
      · refine ⟨_, rfl, rfl, _, rfl, ite2 (fun _ => ?_) (fun c => absurd rfl (neI c))⟩
        refine ⟨_, rfl, by show 1 ≤ 1000; decide, fun a ha => ⟨a, [x], rfl, rfl, upd_same, fun dx H' hd ne e1 e2 e3 => ⟨rfl, ?_⟩⟩⟩
        refine ⟨_, rfl, _, rfl, a, _, dx, _, x, rfl, Kt.ecl 7 hi, Kt.noA 7 "number" hi (by decide), e1, e2, rfl, ?_⟩
        exact ⟨by show 1 ≤ sizeLine; decide, fun p2 h2 => ⟨by show 2 ≤ sizeLine; decide, fun p hp => k p _ (made_end (s3.trans (same_new hT4 (.tup [.int 7, .int 10, .int 11]))) ha hd ne e1 e2 e3 h2 hp rfl)⟩⟩
      · refine ⟨_, rfl, rfl, _, rfl, ite2 (fun c => absurd (eqI c) (by decide)) (fun _ => ?_)⟩
        refine ⟨_, rfl, rfl, _, rfl, ite2 (fun _ => ?_) (fun c => absurd rfl (neI c))⟩
        refine ⟨_, rfl, by show 1 ≤ 1000; decide, fun a ha => ⟨a, [x], rfl, rfl, upd_same, fun dx H' hd ne e1 e2 e3 => ⟨rfl, ?_⟩⟩⟩
        refine ⟨_, rfl, _, rfl, a, _, dx, _, x, rfl, Kt.ecl 10 hi, Kt.noA 10 "number" hi (by decide), e1, e2, rfl, ?_⟩
        exact ⟨by show 1 ≤ sizeLine; decide, fun p2 h2 => ⟨by show 2 ≤ sizeLine; decide, fun p hp => k p _ (made_end (s3.trans (same_new hT4 (.tup [.int 7, .int 10, .int 11]))) ha hd ne e1 e2 e3 h2 hp rfl)⟩⟩
      · refine ⟨_, rfl, rfl, _, rfl, ite2 (fun c => absurd (eqI c) (by decide)) (fun _ => ?_)⟩
        refine ⟨_, rfl, rfl, _, rfl, ite2 (fun c => absurd (eqI c) (by decide)) (fun _ => ?_)⟩
        refine ⟨_, rfl, by show 1 ≤ 1000; decide, fun a ha => ⟨a, [x], rfl, rfl, upd_same, fun dx H' hd ne e1 e2 e3 => ⟨rfl, ?_⟩⟩⟩
        refine ⟨_, rfl, _, rfl, a, _, dx, _, x, rfl, Kt.ecl 11 hi, Kt.noA 11 "number" hi (by decide), e1, e2, rfl, ?_⟩
        exact ⟨by show 1 ≤ sizeLine; decide, fun p2 h2 => ⟨by show 2 ≤ sizeLine; decide, fun p hp => k p _ (made_end (s3.trans (same_new hT4 (.tup [.int 7, .int 10, .int 11]))) ha hd ne e1 e2 e3 h2 hp rfl)⟩⟩
    case rest =>
    have n4 : ¬ ((i : Int) ∈ ([7, 10, 11] : List Int)) := fun z => c4 ((inI (ks := [7, 10, 11])).trans (decide_eq_true z))
    simp only [List.mem_cons, List.not_mem_nil, or_false, not_or] at n4
    have s4 := (s3.trans (same_new hT4 (.tup [.int 7, .int 10, .int 11])))
    have hts4 := s4 _ _ ht
    refine ⟨_, rfl, rfl, _, rfl, ite2 (fun c => ?A) (fun c5 => ?rest)⟩
    case A =>
      obtain rfl : i = 8 := by have := eqI c; omega
      refine ⟨_, rfl, by show 1 ≤ 1000; decide, fun a ha => ⟨a, [x], rfl, rfl, upd_same, fun dx H' hd ne e1 e2 e3 => ⟨rfl, ?_⟩⟩⟩
      refine ⟨_, rfl, _, rfl, a, _, dx, _, x, rfl, Kt.ecl 8 hi, Kt.noA 8 "limit" hi (by decide), e1, e2, rfl, ?_⟩
      exact ⟨by show 1 ≤ sizeLine; decide, fun p2 h2 => ⟨by show 2 ≤ sizeLine; decide, fun p hp => k p _ (made_end s4 ha hd ne e1 e2 e3 h2 hp rfl)⟩⟩
    case rest =>
    have n5 := neI c5
    refine ⟨_, rfl, rfl, _, rfl, ite2 (fun c => ?A) (fun c6 => ?rest)⟩
    case A =>
      obtain rfl : i = 9 := by have := eqI c; omega
      refine ⟨_, rfl, by show 1 ≤ 1000; decide, fun a ha => ⟨a, [x], rfl, rfl, upd_same, fun dx H' hd ne e1 e2 e3 => ⟨rfl, ?_⟩⟩⟩
      refine ⟨_, rfl, _, rfl, a, _, dx, _, x, rfl, Kt.ecl 9 hi, Kt.noA 9 "fact" hi (by decide), e1, e2, rfl, ?_⟩
      exact ⟨by show 1 ≤ sizeLine; decide, fun p2 h2 => ⟨by show 2 ≤ sizeLine; decide, fun p hp => k p _ (made_end s4 ha hd ne e1 e2 e3 h2 hp rfl)⟩⟩
    case rest =>
    have n6 := neI c6
    have h12 : 12 ≤ i := by omega
    refine ⟨by show 0 ≤ 1000; decide, fun a12 ha12 => ⟨a12, rfl, upd_same, rfl, ?_⟩⟩
    have z12 := same_new ha12 (exo a12 (cA K 12) none)
    refine ⟨by show 0 ≤ 1000; decide, fun a13 ha13 => ⟨a13, rfl, upd_same, rfl, ?_⟩⟩
    have z13 := same_new ha13 (exo a13 (cA K 13) none)
    refine ⟨by show 0 ≤ 1000; decide, fun a14 ha14 => ⟨a14, rfl, upd_same, rfl, ?_⟩⟩
    have z14 := same_new ha14 (exo a14 (cA K 14) none)
    refine ⟨by show 0 ≤ 1000; decide, fun a15 ha15 => ⟨a15, rfl, upd_same, rfl, ?_⟩⟩
    have z15 := same_new ha15 (exo a15 (cA K 15) none)
    refine ⟨by show 0 ≤ 1000; decide, fun a16 ha16 => ⟨a16, rfl, upd_same, rfl, ?_⟩⟩
    have z16 := same_new ha16 (exo a16 (cA K 16) none)
    refine ⟨by show 0 ≤ 1000; decide, fun a17 ha17 => ⟨a17, rfl, upd_same, rfl, ?_⟩⟩
    have z17 := same_new ha17 (exo a17 (cA K 17) none)
    refine ⟨by show 0 ≤ 1000; decide, fun a18 ha18 => ⟨a18, rfl, upd_same, rfl, ?_⟩⟩
    have z18 := same_new ha18 (exo a18 (cA K 18) none)
    refine ⟨by show 7 ≤ sizeLine; decide, fun p5 h5 => ?_⟩
    have z19 := same_new h5 (.lst [.ref a12, .ref a13, .ref a14, .ref a15, .ref a16, .ref a17, .ref a18])
    have y12 := ((((((z13.trans z14).trans z15).trans z16).trans z17).trans z18).trans z19) a12 _ upd_same
    have y13 := (((((z14.trans z15).trans z16).trans z17).trans z18).trans z19) a13 _ upd_same
    have y14 := ((((z15.trans z16).trans z17).trans z18).trans z19) a14 _ upd_same
    have y15 := (((z16.trans z17).trans z18).trans z19) a15 _ upd_same
    have y16 := ((z17.trans z18).trans z19) a16 _ upd_same
    have y17 := (z18.trans z19) a17 _ upd_same
    have y18 := z19 a18 _ upd_same
    have sA := (((((((s4.trans z12).trans z13).trans z14).trans z15).trans z16).trans z17).trans z18).trans z19
    have hi2 : i = 12 ∨ i = 13 ∨ i = 14 ∨ i = 15 ∨ i = 16 ∨ i = 17 ∨ i = 18 := by omega
    rcases hi2 with rfl | rfl | rfl | rfl | rfl | rfl | rfl
    · exact ⟨_, rfl, _, rfl, _, _, rfl, rfl, .inl ⟨p5, _, _, _, rfl, rfl, SqL.of upd_same, rfl, ⟨Nat.zero_le _, fun p2 h2 => ⟨by show 2 ≤ sizeLine; decide, fun p hp => k p _ (made_no y12 sA h2 hp (by decide))⟩⟩⟩⟩
    · exact ⟨_, rfl, _, rfl, _, _, rfl, rfl, .inl ⟨p5, _, _, _, rfl, rfl, SqL.of upd_same, rfl, ⟨Nat.zero_le _, fun p2 h2 => ⟨by show 2 ≤ sizeLine; decide, fun p hp => k p _ (made_no y13 sA h2 hp (by decide))⟩⟩⟩⟩
    · exact ⟨_, rfl, _, rfl, _, _, rfl, rfl, .inl ⟨p5, _, _, _, rfl, rfl, SqL.of upd_same, rfl, ⟨Nat.zero_le _, fun p2 h2 => ⟨by show 2 ≤ sizeLine; decide, fun p hp => k p _ (made_no y14 sA h2 hp (by decide))⟩⟩⟩⟩
    · exact ⟨_, rfl, _, rfl, _, _, rfl, rfl, .inl ⟨p5, _, _, _, rfl, rfl, SqL.of upd_same, rfl, ⟨Nat.zero_le _, fun p2 h2 => ⟨by show 2 ≤ sizeLine; decide, fun p hp => k p _ (made_no y15 sA h2 hp (by decide))⟩⟩⟩⟩
    · exact ⟨_, rfl, _, rfl, _, _, rfl, rfl, .inl ⟨p5, _, _, _, rfl, rfl, SqL.of upd_same, rfl, ⟨Nat.zero_le _, fun p2 h2 => ⟨by show 2 ≤ sizeLine; decide, fun p hp => k p _ (made_no y16 sA h2 hp (by decide))⟩⟩⟩⟩
    · exact ⟨_, rfl, _, rfl, _, _, rfl, rfl, .inl ⟨p5, _, _, _, rfl, rfl, SqL.of upd_same, rfl, ⟨Nat.zero_le _, fun p2 h2 => ⟨by show 2 ≤ sizeLine; decide, fun p hp => k p _ (made_no y17 sA h2 hp (by decide))⟩⟩⟩⟩
    · exact ⟨_, rfl, _, rfl, _, _, rfl, rfl, .inl ⟨p5, _, _, _, rfl, rfl, SqL.of upd_same, rfl, ⟨Nat.zero_le _, fun p2 h2 => ⟨by show 2 ≤ sizeLine; decide, fun p hp => k p _ (made_no y18 sA h2 hp (by decide))⟩⟩⟩⟩
end
end K01
end

/-! K01j -/
section
open PySem PySem.Spec PyProof.Rows L2 FA
--imports K01i
namespace K01
def same1 : ∀ {α : Type}, List α → List α := fun l => l
def rot1 : ∀ {α : Type}, List α → List α
  | _, [n, w, p] => [w, p, n]
  | _, l => l
structure MkrK (P : Program) (w : World) (K : PySem.W.Frag) (mg : Str → Option Value) (base : Heap) (x : Str) (C : Addr) (k : Nat) (ps ks : List Str) (g : ∀ {α : Type}, List α → List α) (sp : Sp) : Prop where
  ex : ∃ (fI : Addr) (fd : FuncData), Ecl K C ∧ PySem.W.findIn K (.ref C) "__init__" = some (some (.ref fI)) ∧ PySem.W.typeIn K (.ref fI) = some (.type "function") ∧
    FnG P w K mg base CX0 k fI fd ps sp ∧ KwTo1 K fd ps ks g ∧ mg x = some (.ref C)
section
variable {X : Cx} {k j : Nat} {x : Str} {C : Addr} {ps ks : List Str} {sp : Sp} {p pos : Pos} {kws : List Keyword} {tk : TA} {g : ∀ {α : Type}, List α → List α}
theorem cek (c : MkrK X.prog X.w X.K X.mg X.base x C k ps ks g sp) (R : Rdy j X) (hkw : PK X kws tk) (hk : k + 1 ≤ j := by omega) (hg : Gl X x := by rfl)
    (hdb : (x == ("__debug__" : Str)) = false := by decide)
    (hall : (backToKw pos (keywordEach kws X.env)).all (·.1.isSome) = true := by rfl)
    (hks : (backToKw pos (keywordEach kws X.env)).filterMap (·.1) = ks := by rfl)
    (hpl : ((backTo pos (starEach [] X.env)).any (·.1) || (backToKw pos (keywordEach kws X.env)).any (·.1.isNone)) = false := by rfl) :
    PE X (.Call (.Name x p) [] kws pos) (tEmkK C ks.length sp g tk) := by
  obtain ⟨fI, fd, T, hi, ht, G, hb, hm⟩ := c.ex
  exact pe_emkK T hi ht G R.gd (R.room.mono hk) hb hm hkw hg hdb hall hks hpl
end
theorem same_ini {Hc H' : Hp} {a dx C : Addr} (ha : Hc a = none) (hd : upd Hc a (exo a C none) dx = none) (ne : dx ≠ a) (e3 : ∀ b, b ≠ a → b ≠ dx → H' b = upd Hc a (exo a C none) b) : Same Hc H' := fun b o q1 => by
  have n1 : b ≠ a := ne_of_none q1 ha
  have hd0 : Hc dx = none := by rw [upd_ne ne] at hd; exact hd
  have n2 : b ≠ dx := ne_of_none q1 hd0
  rw [e3 b n1 n2, upd_ne n1]
  exact q1
def spBy (K : PySem.W.Frag) : Sp := fun vs H Q _ => ∃ (t : Addr) (x y z : V), vs = [.ref t] ∧ H t = some (.lst [x, y, z]) ∧ ∀ p H', H p = none → H' p = some (.lst ([x, y, z] ++ List.replicate 11 x)) → Same H H' → Q (.ref p) H'
section
variable {P : Program} {w : World} {K : PySem.W.Frag} {mg : Str → Option Value} {base : Heap} {f : Addr} {fd : FuncData}
theorem sc__law_by_name : FnScope ["_law_things", "_law_first", "_law_found"] ["_law_things"] (defScope (top 29)) := ⟨rfl, rfl, rfl, by decide +kernel, rfl, by decide +kernel, by decide +kernel⟩
theorem ok__law_by_name (F : FnP K "_law_by_name" 29 f fd) (hS : ∃ o, base.get? sysModules = some o) (Kt : Kit K mg)
    (k_Failed : MkrK P w K mg base "Failed" (cA K 0) 1 ["self", "word", "place", "numbers"] ["numbers", "word", "place"] rot1 (spIni (cA K 0) 3 three))
    (k_NameTaken : MkrK P w K mg base "NameTaken" (cA K 1) 1 ["self", "name"] ["name"] same1 (spIni (cA K 1) 1 (one "name")))
    (k_BadTable : MkrK P w K mg base "BadTable" (cA K 2) 1 ["self", "part"] ["part"] same1 (spIni (cA K 2) 1 (one "part")))
    (k_NoTable : MkrK P w K mg base "NoTable" (cA K 3) 1 ["self", "name"] ["name"] same1 (spIni (cA K 3) 1 (one "name")))
    (k_NoColumn : MkrK P w K mg base "NoColumn" (cA K 4) 1 ["self", "name"] ["name"] same1 (spIni (cA K 4) 1 (one "name")))
    (k_BadRow : MkrK P w K mg base "BadRow" (cA K 5) 1 ["self", "column"] ["column"] same1 (spIni (cA K 5) 1 (one "column")))
    (k_KeyTaken : MkrK P w K mg base "KeyTaken" (cA K 6) 1 ["self", "column"] ["column"] same1 (spIni (cA K 6) 1 (one "column")))
    (k_NoRow : MkrK P w K mg base "NoRow" (cA K 7) 1 ["self", "number"] ["number"] same1 (spIni (cA K 7) 1 (one "number")))
    (k_TooGreat : MkrK P w K mg base "TooGreat" (cA K 8) 1 ["self", "limit"] ["limit"] same1 (spIni (cA K 8) 1 (one "limit")))
    (k_Outdated : MkrK P w K mg base "Outdated" (cA K 9) 1 ["self", "fact"] ["fact"] same1 (spIni (cA K 9) 1 (one "fact")))
    (k_NoGoal : MkrK P w K mg base "NoGoal" (cA K 10) 1 ["self", "number"] ["number"] same1 (spIni (cA K 10) 1 (one "number")))
    (k_NoCourse : MkrK P w K mg base "NoCourse" (cA K 11) 1 ["self", "number"] ["number"] same1 (spIni (cA K 11) 1 (one "number"))) :
    FnG P w K mg base CX0 3 f fd ["_law_things"] (spBy K) := by
  refine okD F sc__law_by_name hS (fun vs H Q E h => ?_) (fun cdv A outer s H vs Q E R h => ?_)
  · obtain ⟨t, x, y, z, rfl, _⟩ := h
    rfl
  obtain ⟨t, x, y, z, rfl, ht, k⟩ := h
  have nd := sc__law_by_name.nd
  refine ⟨_, (pss_cons (ps_set (i := 1) nd rfl (Or.inl rfl) (cek k_Failed R (pk_cons (pe_ix ixAny (pv 0) pe_int (fun _ _ => rfl)) (pk_cons (pe_ix ixAny (pv 0) pe_int (fun _ _ => rfl)) (pk_cons (pe_ix ixAny (pv 0) pe_int (fun _ _ => rfl)) pk_nil))))) (pss_cons (ps_set (i := 2) nd rfl (Or.inl rfl) (pe_lst (pa_cons (pe_ef (pv 1)) (pa_cons (pe_ef (pv 1)) (pa_cons (pe_ef (pv 1)) (pa_cons (pe_ef (cek k_NameTaken R (pk_cons (pe_ix ixAny (pv 0) pe_int (fun _ _ => rfl)) pk_nil))) (pa_cons (pe_ef (cek k_BadTable R (pk_cons (pe_ix ixAny (pv 0) pe_int (fun _ _ => rfl)) pk_nil))) pa_nil))))))) (pss_cons (ps_set (i := 2) nd rfl (Or.inl rfl) (pe_op opAdd (pv 2) (pe_lst (pa_cons (pe_ef (cek k_NoTable R (pk_cons (pe_ix ixAny (pv 0) pe_int (fun _ _ => rfl)) pk_nil))) (pa_cons (pe_ef (cek k_NoColumn R (pk_cons (pe_ix ixAny (pv 0) pe_int (fun _ _ => rfl)) pk_nil))) (pa_cons (pe_ef (cek k_BadRow R (pk_cons (pe_ix ixAny (pv 0) pe_int (fun _ _ => rfl)) pk_nil))) pa_nil)))))) (pss_cons (ps_set (i := 2) nd rfl (Or.inl rfl) (pe_op opAdd (pv 2) (pe_lst (pa_cons (pe_ef (cek k_KeyTaken R (pk_cons (pe_ix ixAny (pv 0) pe_int (fun _ _ => rfl)) pk_nil))) (pa_cons (pe_ef (cek k_NoRow R (pk_cons (pe_ix ixAny (pv 0) pe_int (fun _ _ => rfl)) pk_nil))) (pa_cons (pe_ef (cek k_TooGreat R (pk_cons (pe_ix ixAny (pv 0) pe_int (fun _ _ => rfl)) pk_nil))) pa_nil)))))) (pss_cons (ps_set (i := 2) nd rfl (Or.inl rfl) (pe_op opAdd (pv 2) (pe_lst (pa_cons (pe_ef (cek k_Outdated R (pk_cons (pe_ix ixAny (pv 0) pe_int (fun _ _ => rfl)) pk_nil))) (pa_cons (pe_ef (cek k_NoGoal R (pk_cons (pe_ix ixAny (pv 0) pe_int (fun _ _ => rfl)) pk_nil))) pa_nil))))) (pss_one (ps_ret (pe_op opAdd (pv 2) (pe_lst (pa_cons (pe_ef (cek k_NoCourse R (pk_cons (pe_ix ixAny (pv 0) pe_int (fun _ _ => rfl)) pk_nil))) pa_nil)))))))))), ?r⟩
  case r =>
    refine ⟨_, rfl, .inl ⟨t, _, _, _, rfl, rfl, SqL.of ht, rfl, ?_⟩⟩
    refine ⟨_, rfl, .inl ⟨t, _, _, _, rfl, rfl, SqL.of ht, rfl, ?_⟩⟩
    refine ⟨_, rfl, .inl ⟨t, _, _, _, rfl, rfl, SqL.of ht, rfl, ?_⟩⟩
    refine ⟨rfl, fun a0 ha0 => ⟨a0, [x, y, z], rfl, rfl, upd_same, fun dx0 H0 hd0 ne0 i0 j0 e0 => ⟨rfl, ?_⟩⟩⟩
    have s0 := same_ini ha0 hd0 ne0 e0
    have t0 := s0 _ _ ht
    refine ⟨_, rfl, a0, _, dx0, _, x, rfl, Kt.ecl 0 (by decide), Kt.noA 0 "word" (by decide) (by decide), i0, j0, rfl, ?_⟩
    refine ⟨_, rfl, a0, _, dx0, _, y, rfl, Kt.ecl 0 (by decide), Kt.noA 0 "place" (by decide) (by decide), i0, j0, rfl, ?_⟩
    refine ⟨_, rfl, a0, _, dx0, _, z, rfl, Kt.ecl 0 (by decide), Kt.noA 0 "numbers" (by decide) (by decide), i0, j0, rfl, ?_⟩
    refine ⟨_, rfl, .inl ⟨t, _, _, _, rfl, rfl, SqL.of t0, rfl, ?_⟩⟩
    refine ⟨rfl, fun a1 ha1 => ⟨a1, [x], rfl, rfl, upd_same, fun dx1 H1 hd1 ne1 i1 j1 e1 => ⟨rfl, a1, _, dx1, _, x, rfl, Kt.ecl 1 (by decide), Kt.noA 1 "name" (by decide) (by decide), i1, j1, rfl, ?_⟩⟩⟩
    have q1 := same_ini ha1 hd1 ne1 e1
    have s1 := s0.trans q1
    have t1 := s1 _ _ ht
    refine ⟨_, rfl, .inl ⟨t, _, _, _, rfl, rfl, SqL.of t1, rfl, ?_⟩⟩
    refine ⟨rfl, fun a2 ha2 => ⟨a2, [x], rfl, rfl, upd_same, fun dx2 H2 hd2 ne2 i2 j2 e2 => ⟨rfl, a2, _, dx2, _, x, rfl, Kt.ecl 2 (by decide), Kt.noA 2 "part" (by decide) (by decide), i2, j2, rfl, ?_⟩⟩⟩
    have q2 := same_ini ha2 hd2 ne2 e2
    have s2 := s1.trans q2
    have t2 := s2 _ _ ht
    refine ⟨by show 5 ≤ sizeLine; decide, fun p3 hp3 => ?_⟩
    have q3 := same_new hp3 (.lst [x, y, z, x, x])
    have s3 := s2.trans q3
    have t3 := s3 _ _ ht
    have l3 : upd H2 p3 (.lst [x, y, z, x, x]) p3 = some (.lst [x, y, z, x, x]) := upd_same
    generalize upd H2 p3 (.lst [x, y, z, x, x]) = H3 at q3 s3 t3 l3
    refine ⟨_, rfl, ?_⟩
    refine ⟨_, rfl, .inl ⟨t, _, _, _, rfl, rfl, SqL.of t3, rfl, ?_⟩⟩
    refine ⟨rfl, fun a4 ha4 => ⟨a4, [x], rfl, rfl, upd_same, fun dx4 H4 hd4 ne4 i4 j4 e4 => ⟨rfl, a4, _, dx4, _, x, rfl, Kt.ecl 3 (by decide), Kt.noA 3 "name" (by decide) (by decide), i4, j4, rfl, ?_⟩⟩⟩
    have q4 := same_ini ha4 hd4 ne4 e4
    have s4 := s3.trans q4
    have t4 := s4 _ _ ht
    have l4 := q4 _ _ l3
    refine ⟨_, rfl, .inl ⟨t, _, _, _, rfl, rfl, SqL.of t4, rfl, ?_⟩⟩
    refine ⟨rfl, fun a5 ha5 => ⟨a5, [x], rfl, rfl, upd_same, fun dx5 H5 hd5 ne5 i5 j5 e5 => ⟨rfl, a5, _, dx5, _, x, rfl, Kt.ecl 4 (by decide), Kt.noA 4 "name" (by decide) (by decide), i5, j5, rfl, ?_⟩⟩⟩
    have q5 := same_ini ha5 hd5 ne5 e5
    have s5 := s4.trans q5
    have t5 := s5 _ _ ht
    have l5 := q5 _ _ l4
    refine ⟨_, rfl, .inl ⟨t, _, _, _, rfl, rfl, SqL.of t5, rfl, ?_⟩⟩
    refine ⟨rfl, fun a6 ha6 => ⟨a6, [x], rfl, rfl, upd_same, fun dx6 H6 hd6 ne6 i6 j6 e6 => ⟨rfl, a6, _, dx6, _, x, rfl, Kt.ecl 5 (by decide), Kt.noA 5 "column" (by decide) (by decide), i6, j6, rfl, ?_⟩⟩⟩
    have q6 := same_ini ha6 hd6 ne6 e6
    have s6 := s5.trans q6
    have t6 := s6 _ _ ht
    have l6 := q6 _ _ l5
    refine ⟨by show 3 ≤ sizeLine; decide, fun r7 hr7 => .inr ⟨p3, r7, _, _, rfl, rfl, (upd_ne (ne_of_none l6 hr7)).trans l6, upd_same, by show 5 + 3 ≤ sizeLine; decide, fun p7 hp7 => ?_⟩⟩
    have u7 := same_new hr7 (.lst [x, x, x])
    have v7 := same_new hp7 (.lst ([x, y, z, x, x] ++ [x, x, x]))
    have s7 := (s6.trans u7).trans v7
    have t7 := s7 _ _ ht
    have l7 : upd (upd H6 r7 (.lst [x, x, x])) p7 (.lst ([x, y, z, x, x] ++ [x, x, x])) p7 = some (.lst ([x, y, z, x, x] ++ [x, x, x])) := upd_same
    generalize upd (upd H6 r7 (.lst [x, x, x])) p7 (.lst ([x, y, z, x, x] ++ [x, x, x])) = H7 at v7 s7 t7 l7
    refine ⟨_, rfl, ?_⟩
    refine ⟨_, rfl, .inl ⟨t, _, _, _, rfl, rfl, SqL.of t7, rfl, ?_⟩⟩
    refine ⟨rfl, fun a8 ha8 => ⟨a8, [x], rfl, rfl, upd_same, fun dx8 H8 hd8 ne8 i8 j8 e8 => ⟨rfl, a8, _, dx8, _, x, rfl, Kt.ecl 6 (by decide), Kt.noA 6 "column" (by decide) (by decide), i8, j8, rfl, ?_⟩⟩⟩
    have q8 := same_ini ha8 hd8 ne8 e8
    have s8 := s7.trans q8
    have t8 := s8 _ _ ht
    have l8 := q8 _ _ l7
    refine ⟨_, rfl, .inl ⟨t, _, _, _, rfl, rfl, SqL.of t8, rfl, ?_⟩⟩
    refine ⟨rfl, fun a9 ha9 => ⟨a9, [x], rfl, rfl, upd_same, fun dx9 H9 hd9 ne9 i9 j9 e9 => ⟨rfl, a9, _, dx9, _, x, rfl, Kt.ecl 7 (by decide), Kt.noA 7 "number" (by decide) (by decide), i9, j9, rfl, ?_⟩⟩⟩
    have q9 := same_ini ha9 hd9 ne9 e9
    have s9 := s8.trans q9
    have t9 := s9 _ _ ht
    have l9 := q9 _ _ l8
    refine ⟨_, rfl, .inl ⟨t, _, _, _, rfl, rfl, SqL.of t9, rfl, ?_⟩⟩
    refine ⟨rfl, fun a10 ha10 => ⟨a10, [x], rfl, rfl, upd_same, fun dx10 H10 hd10 ne10 i10 j10 e10 => ⟨rfl, a10, _, dx10, _, x, rfl, Kt.ecl 8 (by decide), Kt.noA 8 "limit" (by decide) (by decide), i10, j10, rfl, ?_⟩⟩⟩
    have q10 := same_ini ha10 hd10 ne10 e10
    have s10 := s9.trans q10
    have t10 := s10 _ _ ht
    have l10 := q10 _ _ l9
    refine ⟨by show 3 ≤ sizeLine; decide, fun r11 hr11 => .inr ⟨p7, r11, _, _, rfl, rfl, (upd_ne (ne_of_none l10 hr11)).trans l10, upd_same, by show 8 + 3 ≤ sizeLine; decide, fun p11 hp11 => ?_⟩⟩
    have u11 := same_new hr11 (.lst [x, x, x])
    have v11 := same_new hp11 (.lst (([x, y, z, x, x] ++ [x, x, x]) ++ [x, x, x]))
    have s11 := (s10.trans u11).trans v11
    have t11 := s11 _ _ ht
    have l11 : upd (upd H10 r11 (.lst [x, x, x])) p11 (.lst (([x, y, z, x, x] ++ [x, x, x]) ++ [x, x, x])) p11 = some (.lst (([x, y, z, x, x] ++ [x, x, x]) ++ [x, x, x])) := upd_same
    generalize upd (upd H10 r11 (.lst [x, x, x])) p11 (.lst (([x, y, z, x, x] ++ [x, x, x]) ++ [x, x, x])) = H11 at v11 s11 t11 l11
    refine ⟨_, rfl, ?_⟩
    refine ⟨_, rfl, .inl ⟨t, _, _, _, rfl, rfl, SqL.of t11, rfl, ?_⟩⟩
    refine ⟨rfl, fun a12 ha12 => ⟨a12, [x], rfl, rfl, upd_same, fun dx12 H12 hd12 ne12 i12 j12 e12 => ⟨rfl, a12, _, dx12, _, x, rfl, Kt.ecl 9 (by decide), Kt.noA 9 "fact" (by decide) (by decide), i12, j12, rfl, ?_⟩⟩⟩
    have q12 := same_ini ha12 hd12 ne12 e12
    have s12 := s11.trans q12
    have t12 := s12 _ _ ht
    have l12 := q12 _ _ l11
    refine ⟨_, rfl, .inl ⟨t, _, _, _, rfl, rfl, SqL.of t12, rfl, ?_⟩⟩
    refine ⟨rfl, fun a13 ha13 => ⟨a13, [x], rfl, rfl, upd_same, fun dx13 H13 hd13 ne13 i13 j13 e13 => ⟨rfl, a13, _, dx13, _, x, rfl, Kt.ecl 10 (by decide), Kt.noA 10 "number" (by decide) (by decide), i13, j13, rfl, ?_⟩⟩⟩
    have q13 := same_ini ha13 hd13 ne13 e13
    have s13 := s12.trans q13
    have t13 := s13 _ _ ht
    have l13 := q13 _ _ l12
    refine ⟨by show 2 ≤ sizeLine; decide, fun r14 hr14 => .inr ⟨p11, r14, _, _, rfl, rfl, (upd_ne (ne_of_none l13 hr14)).trans l13, upd_same, by show 11 + 2 ≤ sizeLine; decide, fun p14 hp14 => ?_⟩⟩
    have u14 := same_new hr14 (.lst [x, x])
    have v14 := same_new hp14 (.lst ((([x, y, z, x, x] ++ [x, x, x]) ++ [x, x, x]) ++ [x, x]))
    have s14 := (s13.trans u14).trans v14
    have t14 := s14 _ _ ht
    have l14 : upd (upd H13 r14 (.lst [x, x])) p14 (.lst ((([x, y, z, x, x] ++ [x, x, x]) ++ [x, x, x]) ++ [x, x])) p14 = some (.lst ((([x, y, z, x, x] ++ [x, x, x]) ++ [x, x, x]) ++ [x, x])) := upd_same
    generalize upd (upd H13 r14 (.lst [x, x])) p14 (.lst ((([x, y, z, x, x] ++ [x, x, x]) ++ [x, x, x]) ++ [x, x])) = H14 at v14 s14 t14 l14
    refine ⟨_, rfl, ?_⟩
    refine ⟨_, rfl, .inl ⟨t, _, _, _, rfl, rfl, SqL.of t14, rfl, ?_⟩⟩
    refine ⟨rfl, fun a15 ha15 => ⟨a15, [x], rfl, rfl, upd_same, fun dx15 H15 hd15 ne15 i15 j15 e15 => ⟨rfl, a15, _, dx15, _, x, rfl, Kt.ecl 11 (by decide), Kt.noA 11 "number" (by decide) (by decide), i15, j15, rfl, ?_⟩⟩⟩
    have q15 := same_ini ha15 hd15 ne15 e15
    have s15 := s14.trans q15
    have t15 := s15 _ _ ht
    have l15 := q15 _ _ l14
    refine ⟨by show 1 ≤ sizeLine; decide, fun r16 hr16 => .inr ⟨p14, r16, _, _, rfl, rfl, (upd_ne (ne_of_none l15 hr16)).trans l15, upd_same, by show 13 + 1 ≤ sizeLine; decide, fun p16 hp16 => ?_⟩⟩
    have u16 := same_new hr16 (.lst [x])
    have v16 := same_new hp16 (.lst (((([x, y, z, x, x] ++ [x, x, x]) ++ [x, x, x]) ++ [x, x]) ++ [x]))
    have s16 := (s15.trans u16).trans v16
    exact k p16 _ ((s15.trans u16).free hp16) upd_same s16
end
end K01
end

/-! K01k -/
section
open PySem PySem.Spec PyProof.Rows L2 FA
--imports K01j,HandS.TryOnly
namespace K01
def heldD (i : Nat) (x y z : PyData) : List PyData := if i = 0 then [x, y, z] else if i < 12 then [x] else []
def spRight (K : PySem.W.Frag) : Sp := fun vs H Q _ => ∃ (t : Addr) (x y z : V) (dx dy dz : PyData) (i : Nat), vs = [.int i, .ref t] ∧ i < 19 ∧ H t = some (.lst [x, y, z]) ∧ Dat H dx x ∧ Dat H dy y ∧ Dat H dz z ∧
  Okd 4 12000 dx ∧ Okd 4 12000 dy ∧ Okd 4 12000 dz ∧ ∀ H', Same H H' → Q (.bl true) H'
def toldD (i : Nat) : PyData := .list [.list ((List.range 19).map fun m => .bool (decide (m = i))), .list (List.replicate 7 (.bool false)), .bool true]
theorem bls_dp {K : PySem.W.Frag} {H : Hp} {i : Nat} : ∀ l : List Nat, DpAll K H (l.map fun m => V.bl (decide (m = i))) (l.map fun m => PyData.bool (decide (m = i)))
  | [] => .nil
  | _ :: r => .cons (.bl _) (bls_dp r)
theorem told_dp {K : PySem.W.Frag} {H : Hp} {i : Nat} {p : Addr} (h : Told K i H p) : Dp K H (.ref p) (toldD i) := by
  obtain ⟨p1, p2, e, e1, e2⟩ := h
  exact .lst (SqL.of e) (.cons (.lst (SqL.of e1) (bls_dp _)) (.cons (.lst (SqL.of e2) (.cons (.bl _) (.cons (.bl _) (.cons (.bl _) (.cons (.bl _) (.cons (.bl _) (.cons (.bl _) (.cons (.bl _) .nil)))))))) (.cons (.bl _) .nil)))
theorem told_sh (i : Nat) : SeqAt.shaped (toldD i) = true := rfl
theorem Told.same {K : PySem.W.Frag} {H H' : Hp} {i : Nat} {p : Addr} (h : Told K i H p) (s : Same H H') : Told K i H' p := by
  obtain ⟨p1, p2, e, e1, e2⟩ := h
  exact ⟨p1, p2, s _ _ e, s _ _ e1, s _ _ e2⟩
theorem bls_step {i j : Nat} : ((List.range j).map fun m => V.bl (decide (m = i))) ++ [V.bl (decide (V.int (0 + (j : Int)) = V.int (i : Int)))] = (List.range (j + 1)).map fun m => V.bl (decide (m = i)) := by
  rw [List.range_succ, List.map_append]
  have e : decide (V.int (0 + (j : Int)) = V.int (i : Int)) = decide (j = i) := by
    by_cases h : j = i
    · rw [decide_eq_true h]
      exact decide_eq_true (by rw [h, Int.zero_add])
    · rw [decide_eq_false h]
      refine decide_eq_false fun z => h ?_
      injection z with z
      omega
  rw [e]
  rfl
section
variable {P : Program} {w : World} {K : PySem.W.Frag} {mg : Str → Option Value} {base : Heap} {f : Addr} {fd : FuncData}
theorem sc__law_right : FnScope ["_law_which", "_law_things", "_law_kept", "_law_e", "_law_held_by", "_law_due", "_law_kinds", "_law_told", "_law_k"] ["_law_which", "_law_things"] (defScope (top 33)) := ⟨rfl, rfl, rfl, by decide +kernel, rfl, by decide +kernel, by decide +kernel⟩
theorem ok__law_right (F : FnP K "_law_right" 33 f fd) (hS : ∃ o, base.get? sysModules = some o) (B : Blt mg) (Kt : Kit K mg)
    (c__law_made : Cal P w K mg base 3 "_law_made" ["_law_which", "_law_things"] (spMade K))
    (c__law_own_kinds : Cal P w K mg base 1 "_law_own_kinds" ["_law_e"] (spOwn K))
    (c__law_other_kinds : Cal P w K mg base 1 "_law_other_kinds" ["_law_e"] (spOther K))
    (c__law_caught : Cal P w K mg base 5 "_law_caught" ["_law_which", "_law_things"] (spCaught K)) :
    FnG P w K mg base CX0 6 f fd ["_law_which", "_law_things"] (spRight K) := by
  refine okD F sc__law_right hS (fun vs H Q E h => ?_) (fun cdv A outer s H vs Q E R h => ?_)
  · obtain ⟨t, x, y, z, dx, dy, dz, i, rfl, _⟩ := h
    rfl
  obtain ⟨t, x, y, z, dx, dy, dz, i, rfl, hi, ht, hx, hy, hz, ox, oy, oz, q⟩ := h
  obtain ⟨m_isinstance, m_len, m_all, m_abs, m_repr, m_str, m_int, m_bool, m_list, m_tuple, m_range⟩ := B
  have m_FailsError := Kt.gloF
  have nd := sc__law_right.nd
  refine ⟨_, (pss_cons (ps_set (i := 2) nd rfl (Or.inl rfl) (crepr R m_repr (pa_cons (pv 1) pa_nil))) (pss_cons (ps_asg (cc c__law_made R (pa_cons (pv 0) (pa_cons (pv 1) pa_nil))) (pg_lst rfl (pgs_cons (pg_name (i := 3) nd rfl (Or.inl rfl)) (pgs_cons (pg_name (i := 4) nd rfl (Or.inl rfl)) pgs_nil)))) (pss_cons (ps_set (i := 5) nd rfl (Or.inl rfl) (pe_ifExp (pt_cmpR op_gt (pv 0) pe_int (nomark _)) (pe_lst pa_nil) (pe_slice slAny (pv 1) po_none (po_some (pe_ix ixAny (pe_lst (pa_cons pe_int (pa_cons pe_int pa_nil))) (pe_callTy call_int1 rfl m_int bt_int (pa_cons (pe_cmpR op_eq (pv 0) pe_int (nomark _)) pa_nil)) (fun _ _ => rfl)))))) (pss_cons (ps_if (PW.pt (pw_or (pt_cmpR op_ne (crepr R m_repr (pa_cons (pv 4) pa_nil)) (crepr R m_repr (pa_cons (pv 5) pa_nil)) (nomark _)) (pw_or1 (pt_cmpR op_ne (crepr R m_repr (pa_cons (pv 1) pa_nil)) (pv 2) (nomark _))))) (pss_one (ps_ret pe_bl)) pss_nil) (pss_cons (ps_set (i := 6) nd rfl (Or.inl rfl) (pe_lst (pa_cons (pe_lc1 8 rfl nd (pi_range1 rfl m_range (pa_cons pe_int pa_nil)) (by kernel_rfl) (fun _ _ _ _ _ => pg_name (i := 8) nd rfl (Or.inl rfl)) (fun _ _ _ _ _ => pts_nil) (fun _ _ _ _ _ => (pe_cmpR op_eq (pv 8) (pv 0) (nomark _)))) (pa_cons (pe_op opMul (pe_lst (pa_cons pe_bl pa_nil)) pe_int) (pa_cons pe_bl pa_nil))))) (pss_cons (ps_set (i := 7) nd rfl (Or.inl rfl) (pe_lst (pa_cons (cc c__law_own_kinds R (pa_cons (pv 3) pa_nil)) (pa_cons (cc c__law_other_kinds R (pa_cons (pv 3) pa_nil)) (pa_cons (pe_callB call_isX rfl m_isinstance bt_isinstance (pa_cons (pv 3) (pa_cons (pe_glob (v := .ref _) rfl m_FailsError rfl) pa_nil))) pa_nil))))) (pss_one (ps_ret (pe_and (pe_cmpR (op_eqD R.room.units) (pv 7) (pv 6) (nomark _)) (pe_one (pe_cmpR (op_eqD R.room.units) (cc c__law_caught R (pa_cons (pv 0) (pa_cons (pv 1) pa_nil))) (pv 6) (nomark _)))))))))))), ?r⟩
  case r =>
    have dT : ∀ H', Same H H' → Dat H' (.list [dx, dy, dz]) (.ref t) := fun H' s => by
      simp only [Dat, DatAll]
      exact ⟨t, _, rfl, s _ _ ht, _, _, rfl, dat_same s _ _ hx, _, _, rfl, dat_same s _ _ hy, _, _, rfl, dat_same s _ _ hz, rfl⟩
    have oT : Okd 5 37000 (.list [dx, dy, dz]) := okd_list ((oks_cons ox (oks_cons oy (oks_cons oz (oks_nil (W := 0))))).mono (Nat.le_refl _) (by decide))
    have rT : Rp (.list [dx, dy, dz]) := oT.rp (by decide) (by decide)
    refine ⟨_, rfl, _, .list [dx, dy, dz], rfl, dT H (Same.refl _), rT.sh, rT.dp, rT.ln, ?_⟩
    refine ⟨_, rfl, _, rfl, t, x, y, z, i, rfl, hi, ht, fun p H1 M => ?_⟩
    obtain ⟨⟨a, p2, e1, e2, xc⟩, s1⟩ := M
    refine ⟨p, _, rfl, SqL.of e1, rfl, ?_⟩
    have hHeld : ∀ H', Same H1 H' → ∀ p', H' p' = some (.lst (held i x y z)) → Dat H' (.list (heldD i dx dy dz)) (.ref p') := fun H' s p' e => by
      have s' := s1.trans s
      have gx := dat_same s' _ _ hx
      have gy := dat_same s' _ _ hy
      have gz := dat_same s' _ _ hz
      simp only [Dat]
      refine ⟨p', _, rfl, e, ?_⟩
      unfold held heldD
      by_cases h0 : i = 0
      · rw [if_pos h0, if_pos h0]
        simp only [DatAll]
        exact ⟨_, _, rfl, gx, _, _, rfl, gy, _, _, rfl, gz, rfl⟩
      · rw [if_neg h0, if_neg h0]
        by_cases h1 : i < 12
        · rw [if_pos h1, if_pos h1]
          simp only [DatAll]
          exact ⟨_, _, rfl, gx, rfl⟩
        · rw [if_neg h1, if_neg h1]
          simp only [DatAll]
    have oH : Okd 5 37000 (.list (heldD i dx dy dz)) := by
      unfold heldD
      by_cases h0 : i = 0
      · rw [if_pos h0]
        exact oT
      · rw [if_neg h0]
        by_cases h1 : i < 12
        · rw [if_pos h1]
          exact okd_list ((oks_cons ox (oks_nil (W := 0))).mono (Nat.le_refl _) (by decide))
        · rw [if_neg h1]
          exact okd_list oks_nil
    have rH : Rp (.list (heldD i dx dy dz)) := oH.rp (by decide) (by decide)
    refine ⟨_, _, rfl, _, _, rfl, rfl, ?_⟩
    refine ⟨_, rfl, _, _, rfl, rfl, _, rfl, ite2 (fun c => ?A) (fun c => ?B)⟩
    case A =>
      have cc := of_decide_eq_true c
      have h12 : 12 ≤ i := by omega
      refine ⟨Nat.zero_le _, fun p3 h3 => ?_⟩
      have s2 : Same H1 (upd H1 p3 (.lst [])) := same_new h3 _
      have e3 : upd H1 p3 (.lst []) p3 = some (.lst (held i x y z)) := by
        rw [upd_same]
        unfold held
        rw [if_neg (by omega), if_neg (by omega)]
      generalize upd H1 p3 (.lst []) = H2 at s2 e3
      have xc2 := xc.same s2
      have sH2 := s1.trans s2
      refine ⟨_, rfl, _, .list (heldD i dx dy dz), rfl, hHeld H2 s2 p2 (s2 _ _ e2), rH.sh, rH.dp, rH.ln, _, rfl, _, .list (heldD i dx dy dz), rfl, hHeld H2 s2 p3 e3, rH.sh, rH.dp, rH.ln, rfl, _, rfl, ite2 (fun c => absurd (c.symm.trans (strEq rfl)) (by decide)) (fun _ => ?_)⟩
      refine ⟨_, rfl, _, .list [dx, dy, dz], rfl, dT H2 sH2, rT.sh, rT.dp, rT.ln, _, rfl, rfl, _, rfl, ite2 (fun c => absurd (c.symm.trans (strEq rfl)) (by decide)) (fun _ => ?_)⟩
      refine ⟨19, rfl, by decide, by decide, fun L8 hL8 => ?_⟩
      refine lc_it walk_range (fun j H' => Same H2 H' ∧ H' L8 = some (.lst ((List.range j).map fun m => V.bl (decide (m = i))))) ⟨same_new hL8 _, upd_same⟩ (fun _ _ _ _ => trivial) ?_ ?_
      · rintro j v H4 H5 hj ⟨s4, e4⟩ ⟨rfl, rfl⟩
        have hj' : j < 19 := hj
        refine ⟨rfl, _, rfl, _, rfl, rfl, _, e4, ?_, same_mut s4 hL8, ?_⟩
        · rw [List.length_map, List.length_range, sizeLine_eq]
          omega
        · rw [upd_same, bls_step]
      rintro H4 ⟨s4, e4⟩
      refine ⟨by show 1 ≤ sizeLine; decide, fun L9 h9 => .inl (.inr ⟨L9, 7, _, rfl, rfl, upd_same, by decide, by decide, by show 1 * 7 ≤ sizeLine; decide, fun p10 h10 => ?_⟩)⟩
      refine ⟨by show 3 ≤ sizeLine; decide, fun pk hk => ?_⟩
      have w9 := same_new h9 (.lst [.bl false])
      have w10 := same_new h10 (.lst (List.replicate (Int.toNat 7) [V.bl false]).flatten)
      have wk := same_new hk (.lst [.ref L8, .ref p10, .bl true])
      have tK : Told K i _ pk := ⟨L8, p10, upd_same, wk _ _ (w10 _ _ (w9 _ _ e4)), wk _ _ upd_same⟩
      have s5 := ((sH2.trans s4).trans (w9.trans w10)).trans wk
      have xc5 := (((xc2.same s4).same w9).same w10).same wk
      generalize upd (upd (upd H4 L9 (.lst [.bl false])) p10 (.lst (List.replicate (Int.toNat 7) [V.bl false]).flatten)) pk (.lst [.ref L8, .ref p10, .bl true]) = H5 at tK s5 xc5
      refine ⟨_, rfl, a, i, rfl, hi, xc5, fun q1 H6 g1 f1 s6 => ?_⟩
      refine ⟨_, rfl, a, i, rfl, hi, xc5.same s6, fun q2 H7 g2 f2 s7 => ?_⟩
      obtain ⟨d7, hd7, hf7⟩ := ((xc5.same s6).same s7).ex
      refine ⟨_, rfl, a, _, d7, _, .ref (He.ga K "FailsError"), true, rfl, Kt.ecl i hi, hd7, hf7, fun u z => z, Kt.kitF i hi, by show 3 ≤ sizeLine; decide, fun pt hpt => ?_⟩
      have wt := same_new hpt (.lst [.ref q1, .ref q2, .bl true])
      have tT : Told K i _ pt := ⟨q1, q2, upd_same, wt _ _ (s7 _ _ f1), wt _ _ f2⟩
      have tK8 := ((tK.same s6).same s7).same wt
      have s8 := ((s5.trans s6).trans s7).trans wt
      generalize upd H7 pt (.lst [.ref q1, .ref q2, .bl true]) = H8 at tT tK8 s8
      have er : (toldD i).eqv (toldD i) = true := SeqAt.eqv_refl _ rfl
      refine ⟨_, rfl, _, rfl, toldD i, toldD i, told_dp tT, told_dp tK8, told_sh _, told_sh _, _, rfl, ite2 (fun _ => ?_) (fun c => absurd er c)⟩
      refine ⟨_, rfl, _, rfl, t, x, y, z, i, rfl, hi, s8 _ _ ht, fun pc H9 tC s9 => ?_⟩
      refine ⟨_, rfl, toldD i, toldD i, told_dp tC, told_dp (tK8.same s9), told_sh _, told_sh _, ?_⟩
      rw [er]
      exact q H9 (s8.trans s9)
    case B =>
      have cc : ¬ ((11 : Int) < (i : Int)) := fun z => c (decide_eq_true z)
      have h12 : i < 12 := by omega
      by_cases h0 : i = 0
      · subst h0
        refine ⟨_, rfl, by show 2 ≤ sizeLine; decide, fun L hL => ⟨_, rfl, rfl, .inr ⟨_, rfl, .inl ⟨L, _, _, _, rfl, rfl, SqL.of upd_same, rfl, _, rfl, .inl ⟨t, _, rfl, SqL.of ((same_new hL _) _ _ (s1 _ _ ht)), fun p3 h3 => ?_⟩⟩⟩⟩⟩
        have s2 : Same H1 (upd (upd H1 L (.lst [.int 1, .int 3])) p3 (.lst (cutV [x, y, z] none (some 3)))) := (same_new hL _).trans (same_new h3 _)
        have e3 : upd (upd H1 L (.lst [.int 1, .int 3])) p3 (.lst (cutV [x, y, z] none (some 3))) p3 = some (.lst (held 0 x y z)) := upd_same
        generalize upd (upd H1 L (.lst [.int 1, .int 3])) p3 (.lst (cutV [x, y, z] none (some 3))) = H2 at s2 e3
        have xc2 := xc.same s2
        have sH2 := s1.trans s2
        refine ⟨_, rfl, _, .list (heldD 0 dx dy dz), rfl, hHeld H2 s2 p2 (s2 _ _ e2), rH.sh, rH.dp, rH.ln, _, rfl, _, .list (heldD 0 dx dy dz), rfl, hHeld H2 s2 p3 e3, rH.sh, rH.dp, rH.ln, rfl, _, rfl, ite2 (fun c => absurd (c.symm.trans (strEq rfl)) (by decide)) (fun _ => ?_)⟩
        refine ⟨_, rfl, _, .list [dx, dy, dz], rfl, dT H2 sH2, rT.sh, rT.dp, rT.ln, _, rfl, rfl, _, rfl, ite2 (fun c => absurd (c.symm.trans (strEq rfl)) (by decide)) (fun _ => ?_)⟩
        refine ⟨19, rfl, by decide, by decide, fun L8 hL8 => ?_⟩
        refine lc_it walk_range (fun j H' => Same H2 H' ∧ H' L8 = some (.lst ((List.range j).map fun m => V.bl (decide (m = 0))))) ⟨same_new hL8 _, upd_same⟩ (fun _ _ _ _ => trivial) ?_ ?_
        · rintro j v H4 H5 hj ⟨s4, e4⟩ ⟨rfl, rfl⟩
          have hj' : j < 19 := hj
          refine ⟨rfl, _, rfl, _, rfl, rfl, _, e4, ?_, same_mut s4 hL8, ?_⟩
          · rw [List.length_map, List.length_range, sizeLine_eq]
            omega
          · rw [upd_same, bls_step]
        rintro H4 ⟨s4, e4⟩
        refine ⟨by show 1 ≤ sizeLine; decide, fun L9 h9 => .inl (.inr ⟨L9, 7, _, rfl, rfl, upd_same, by decide, by decide, by show 1 * 7 ≤ sizeLine; decide, fun p10 h10 => ?_⟩)⟩
        refine ⟨by show 3 ≤ sizeLine; decide, fun pk hk => ?_⟩
        have w9 := same_new h9 (.lst [.bl false])
        have w10 := same_new h10 (.lst (List.replicate (Int.toNat 7) [V.bl false]).flatten)
        have wk := same_new hk (.lst [.ref L8, .ref p10, .bl true])
        have tK : Told K 0 _ pk := ⟨L8, p10, upd_same, wk _ _ (w10 _ _ (w9 _ _ e4)), wk _ _ upd_same⟩
        have s5 := ((sH2.trans s4).trans (w9.trans w10)).trans wk
        have xc5 := (((xc2.same s4).same w9).same w10).same wk
        generalize upd (upd (upd H4 L9 (.lst [.bl false])) p10 (.lst (List.replicate (Int.toNat 7) [V.bl false]).flatten)) pk (.lst [.ref L8, .ref p10, .bl true]) = H5 at tK s5 xc5
        refine ⟨_, rfl, a, 0, rfl, hi, xc5, fun q1 H6 g1 f1 s6 => ?_⟩
        refine ⟨_, rfl, a, 0, rfl, hi, xc5.same s6, fun q2 H7 g2 f2 s7 => ?_⟩
        obtain ⟨d7, hd7, hf7⟩ := ((xc5.same s6).same s7).ex
        refine ⟨_, rfl, a, _, d7, _, .ref (He.ga K "FailsError"), true, rfl, Kt.ecl 0 hi, hd7, hf7, fun u z => z, Kt.kitF 0 hi, by show 3 ≤ sizeLine; decide, fun pt hpt => ?_⟩
        have wt := same_new hpt (.lst [.ref q1, .ref q2, .bl true])
        have tT : Told K 0 _ pt := ⟨q1, q2, upd_same, wt _ _ (s7 _ _ f1), wt _ _ f2⟩
        have tK8 := ((tK.same s6).same s7).same wt
        have s8 := ((s5.trans s6).trans s7).trans wt
        generalize upd H7 pt (.lst [.ref q1, .ref q2, .bl true]) = H8 at tT tK8 s8
        have er : (toldD 0).eqv (toldD 0) = true := SeqAt.eqv_refl _ rfl
        refine ⟨_, rfl, _, rfl, toldD 0, toldD 0, told_dp tT, told_dp tK8, told_sh _, told_sh _, _, rfl, ite2 (fun _ => ?_) (fun c => absurd er c)⟩
        refine ⟨_, rfl, _, rfl, t, x, y, z, 0, rfl, hi, s8 _ _ ht, fun pc H9 tC s9 => ?_⟩
        refine ⟨_, rfl, toldD 0, toldD 0, told_dp tC, told_dp (tK8.same s9), told_sh _, told_sh _, ?_⟩
        rw [er]
        exact q H9 (s8.trans s9)
      · have en : decide (V.int (i : Int) = V.int 0) = false := decide_eq_false fun e => h0 (by cases i with | zero => rfl | succ n => cases e)
        refine ⟨_, rfl, by show 2 ≤ sizeLine; decide, fun L hL => ⟨_, rfl, rfl, .inr ⟨_, rfl, .inl ⟨L, _, _, .int 1, rfl, rfl, SqL.of upd_same, by rw [en]; rfl, _, rfl, .inl ⟨t, _, rfl, SqL.of ((same_new hL _) _ _ (s1 _ _ ht)), fun p3 h3 => ?_⟩⟩⟩⟩⟩
        have s2 : Same H1 (upd (upd H1 L (.lst [.int 1, .int 3])) p3 (.lst (cutV [x, y, z] none (some 1)))) := (same_new hL _).trans (same_new h3 _)
        have e3 : upd (upd H1 L (.lst [.int 1, .int 3])) p3 (.lst (cutV [x, y, z] none (some 1))) p3 = some (.lst (held i x y z)) := by
          rw [upd_same]
          unfold held
          rw [if_neg h0, if_pos h12]
          rfl
        generalize upd (upd H1 L (.lst [.int 1, .int 3])) p3 (.lst (cutV [x, y, z] none (some 1))) = H2 at s2 e3
        have xc2 := xc.same s2
        have sH2 := s1.trans s2
        refine ⟨_, rfl, _, .list (heldD i dx dy dz), rfl, hHeld H2 s2 p2 (s2 _ _ e2), rH.sh, rH.dp, rH.ln, _, rfl, _, .list (heldD i dx dy dz), rfl, hHeld H2 s2 p3 e3, rH.sh, rH.dp, rH.ln, rfl, _, rfl, ite2 (fun c => absurd (c.symm.trans (strEq rfl)) (by decide)) (fun _ => ?_)⟩
        refine ⟨_, rfl, _, .list [dx, dy, dz], rfl, dT H2 sH2, rT.sh, rT.dp, rT.ln, _, rfl, rfl, _, rfl, ite2 (fun c => absurd (c.symm.trans (strEq rfl)) (by decide)) (fun _ => ?_)⟩
        refine ⟨19, rfl, by decide, by decide, fun L8 hL8 => ?_⟩
        refine lc_it walk_range (fun j H' => Same H2 H' ∧ H' L8 = some (.lst ((List.range j).map fun m => V.bl (decide (m = i))))) ⟨same_new hL8 _, upd_same⟩ (fun _ _ _ _ => trivial) ?_ ?_
        · rintro j v H4 H5 hj ⟨s4, e4⟩ ⟨rfl, rfl⟩
          have hj' : j < 19 := hj
          refine ⟨rfl, _, rfl, _, rfl, rfl, _, e4, ?_, same_mut s4 hL8, ?_⟩
          · rw [List.length_map, List.length_range, sizeLine_eq]
            omega
          · rw [upd_same, bls_step]
        rintro H4 ⟨s4, e4⟩
        refine ⟨by show 1 ≤ sizeLine; decide, fun L9 h9 => .inl (.inr ⟨L9, 7, _, rfl, rfl, upd_same, by decide, by decide, by show 1 * 7 ≤ sizeLine; decide, fun p10 h10 => ?_⟩)⟩
        refine ⟨by show 3 ≤ sizeLine; decide, fun pk hk => ?_⟩
        have w9 := same_new h9 (.lst [.bl false])
        have w10 := same_new h10 (.lst (List.replicate (Int.toNat 7) [V.bl false]).flatten)
        have wk := same_new hk (.lst [.ref L8, .ref p10, .bl true])
        have tK : Told K i _ pk := ⟨L8, p10, upd_same, wk _ _ (w10 _ _ (w9 _ _ e4)), wk _ _ upd_same⟩
        have s5 := ((sH2.trans s4).trans (w9.trans w10)).trans wk
        have xc5 := (((xc2.same s4).same w9).same w10).same wk
        generalize upd (upd (upd H4 L9 (.lst [.bl false])) p10 (.lst (List.replicate (Int.toNat 7) [V.bl false]).flatten)) pk (.lst [.ref L8, .ref p10, .bl true]) = H5 at tK s5 xc5
        refine ⟨_, rfl, a, i, rfl, hi, xc5, fun q1 H6 g1 f1 s6 => ?_⟩
        refine ⟨_, rfl, a, i, rfl, hi, xc5.same s6, fun q2 H7 g2 f2 s7 => ?_⟩
        obtain ⟨d7, hd7, hf7⟩ := ((xc5.same s6).same s7).ex
        refine ⟨_, rfl, a, _, d7, _, .ref (He.ga K "FailsError"), true, rfl, Kt.ecl i hi, hd7, hf7, fun u z => z, Kt.kitF i hi, by show 3 ≤ sizeLine; decide, fun pt hpt => ?_⟩
        have wt := same_new hpt (.lst [.ref q1, .ref q2, .bl true])
        have tT : Told K i _ pt := ⟨q1, q2, upd_same, wt _ _ (s7 _ _ f1), wt _ _ f2⟩
        have tK8 := ((tK.same s6).same s7).same wt
        have s8 := ((s5.trans s6).trans s7).trans wt
        generalize upd H7 pt (.lst [.ref q1, .ref q2, .bl true]) = H8 at tT tK8 s8
        have er : (toldD i).eqv (toldD i) = true := SeqAt.eqv_refl _ rfl
        refine ⟨_, rfl, _, rfl, toldD i, toldD i, told_dp tT, told_dp tK8, told_sh _, told_sh _, _, rfl, ite2 (fun _ => ?_) (fun c => absurd er c)⟩
        refine ⟨_, rfl, _, rfl, t, x, y, z, i, rfl, hi, s8 _ _ ht, fun pc H9 tC s9 => ?_⟩
        refine ⟨_, rfl, toldD i, toldD i, told_dp tC, told_dp (tK8.same s9), told_sh _, told_sh _, ?_⟩
        rw [er]
        exact q H9 (s8.trans s9)
end
end K01
end

/-! K01l -/
section
open PySem PySem.Spec PyProof.Rows L2 FA
--imports K01k
namespace FA
open PySem PySem.Spec PyProof.Rows L2
/-- y = [.. for x in ..], its name set by the comprehension's end -/
theorem ps_setLc1 {X : Cx} (i m : Nat) {y x : Str} {py p : Pos} {elt iter : Expr} {ifs : List Expr} {scope : Scope} {pos spos : Pos} {wi : TI} {tt : TT} {te : TE}
    (hc : X.calm = true) (hN : X.N.Nodup) (hy : X.N[i]? = some y) (hyl : X.env.scope.names.lookup y = some .local)
    (hsw : swapsWith (.ListComp elt [⟨.Name x p, iter, ifs, 0⟩] scope pos) (some (.Name y py)) spos.line X.env = pure true) (hi : PI X (.Name x p) iter wi)
    (ok : blkC X.N X.env.scope scope [(x, m)] = true)
    (hg : ∀ (s : Shared) (H : Hp) (C : Addr) (cl : List (Str × Addr)) (fp : List Addr), PG (X.blk s H scope (compEnvC scope cl C X.env) fp) (.Name x p) (gName m))
    (ht : ∀ (s : Shared) (H : Hp) (C : Addr) (cl : List (Str × Addr)) (fp : List Addr), PTs (X.blk s H scope (compEnvC scope cl C X.env) fp) ifs tt)
    (he : ∀ (s : Shared) (H : Hp) (C : Addr) (cl : List (Str × Addr)) (fp : List Addr), PE (X.blk s H scope (compEnvC scope cl C X.env) fp) elt te)
    (hs : ∀ z, foldedSetIterable iter X.env z = pure z := by intro _; rfl) :
    PS X (.Assign [.Name y py] (.ListComp elt [⟨.Name x p, iter, ifs, 0⟩] scope pos) spos) (tAsg (tLc wi (gName m) tt te [m]) (gName i)) :=
  ps_setLc (own := [(x, m)]) hc hN hy hyl hsw hi (blkOk_by ok) hg ht he hs
end FA
namespace K01
section
variable {P : Program} {w : World} {K : PySem.W.Frag} {mg : Str → Option Value} {base : Heap} {f : Addr} {fd : FuncData}
def spLaw (K : PySem.W.Frag) : Sp := fun vs H Q _ => ∃ (a : Addr) (ns : List Int), vs = [.ref a] ∧ SqL K H a (ns.map V.int) ∧ ns.length ≤ 63 ∧ ∀ H', Q (.bl true) H'
theorem tt3 : TT 3 = 120 := rfl
theorem ww3 : WW 3 = 12000 := rfl
/-- three things -/
structure Three (H H' : Hp) (d c : Addr) (n : Nat) (L : Addr) : Prop where
  ex : ∃ x y z dx dy dz, H' L = some (.lst [x, y, z]) ∧ Dat H' dx x ∧ Dat H' dy y ∧ Dat H' dz z ∧ Okd 4 12000 dx ∧ Okd 4 12000 dy ∧ Okd 4 12000 dz
  deck : Deck H' d c n
  same : Same (hid d c H) (hid d c H')
  ne : L ≠ d ∧ L ≠ c
theorem three_of {H H4 : Hp} {d c L : Addr} {n m : Nat} {ys : List V} {ds : List PyData} (e1 : H4 L = some (.lst ys)) (e2 : ys.length = 3) (e3 : ds.length = 3) (e4 : DatAll H4 ds ys) (e5 : ∀ x ∈ ds, Okd 4 12000 x)
    (D : Deck H4 d c n) (s : Same (hid d c H) (hid d c H4)) (ne : L ≠ d ∧ L ≠ c) (h : n ≤ m) : Three H H4 d c m L := by
  match ys, ds, e2, e3 with
  | [x, y, z], [dx, dy, dz], _, _ =>
    simp only [DatAll] at e4
    obtain ⟨_, _, q1, g1, _, _, q2, g2, _, _, q3, g3, _⟩ := e4
    cases q1
    cases q2
    cases q3
    exact ⟨⟨x, y, z, dx, dy, dz, e1, g1, g2, g3, e5 _ (by simp), e5 _ (by simp), e5 _ (by simp)⟩, D.mono h, s, ne⟩
abbrev tT3 : TE := tLc (iRng1 (tCons (tC (V.int 3)) tNil)) (gName 5) tYes (tCall (spThing 3) [] E0 (tCons (tVar 1) (tCons (tC (V.int 3)) tNil))) [5]
theorem three_lc {H : Hp} {d c : Addr} {n : Nat} {v0 s2 s3 s4 s5 : Option V} {Q : VK} (D : Deck H d c n) (hn : n + 400 ≤ 1000000) (k : ∀ L H', Three H H' d c (n + 360) L → Q (.ref L) H') :
    tT3 [v0, some (.ref d), s2, s3, s4, s5] H Q := by
  refine ⟨3, rfl, by decide, by decide, fun L hL => ?_⟩
  obtain ⟨Ld, Lc⟩ := D.ne hL
  refine lc_it walk_range (fun i H' => ∃ (ys : List V) (ds : List PyData), H' L = some (.lst ys) ∧ ys.length = i ∧ ds.length = i ∧ DatAll (frs (upd H L (.lst [])) H') ds ys ∧ (∀ x ∈ ds, Okd 4 12000 x) ∧
      Deck H' d c (n + i * 120) ∧ Same (hid d c H) (hid d c H'))
    ⟨[], [], upd_same, rfl, rfl, by simp only [DatAll], fun _ hy => (nomatch hy), by simpa using D.upd Ld Lc, hid_same (same_new hL _)⟩ (fun _ _ _ _ => trivial) ?_ ?_
  · rintro i x H4 H5 hi ⟨ys, ds, e1, e2, e3, e4, e5, D5, s5⟩ ⟨rfl, rfl⟩
    have hi3 : i < 3 := hi
    have es : (i + 1) * 120 = i * 120 + 120 := by rw [Nat.add_mul, Nat.one_mul]
    refine ⟨rfl, _, rfl, d, c, n + i * 120, rfl, D5, by rw [tt3]; omega, fun v y H6 hy oy D6 s6 => ?_⟩
    have hL5 : H5 L ≠ none := by rw [e1]; simp
    have dm : Dm (upd H L (.lst [])) H5 := by
      intro b hb
      have bL : b ≠ L := fun e => hL5 (e ▸ hb)
      rw [upd_ne bL]
      exact dm_of D5 s5 b hb
    refine ⟨ys, ?_, ?_, ys ++ [v], ds ++ [y], upd_same, by rw [List.length_append, e2]; rfl, by rw [List.length_append, e3]; rfl, ?_, ?_, ?_, hid_mut (s5.trans s6) hL Ld Lc⟩
    · rw [← hid_ne Ld Lc (H := H6)]
      exact s6 _ _ (by rw [hid_ne Ld Lc]; exact e1)
    · rw [e2]
      exact Nat.lt_trans hi3 (by decide)
    · rw [frs_old upd_same]
      exact datAll_snoc (datAll_same (frs_on (D.upd Ld Lc) s6) _ _ e4) (dat_same (frs_back dm) _ _ hy)
    · intro x hx
      rcases List.mem_append.mp hx with hx | hx
      · exact e5 x hx
      · have : x = y := by simpa using hx
        subst this
        exact oy
    · rw [es, ← Nat.add_assoc]
      exact D6.upd Ld Lc
  · rintro H4 ⟨ys, ds, e1, e2, e3, e4, e5, D4, s4⟩
    exact k L H4 (three_of e1 e2 e3 (datAll_same frs_sub _ _ e4) e5 D4 s4 ⟨Ld, Lc⟩ (Nat.le_refl _))
theorem three_arg {H : Hp} {d c : Addr} {n : Nat} {v0 s2 s3 s4 s5 : Option V} {Q : List V → Hp → Prop} (D : Deck H d c n) (hn : n + 400 ≤ 1000000) (k : ∀ L H', Three H H' d c (n + 360) L → Q [.ref L] H') :
    tCons tT3 tNil [v0, some (.ref d), s2, s3, s4, s5] H Q := three_lc (Q := fun x H1 => tNil [v0, some (.ref d), s2, s3, s4, s5] H1 fun xs H2 => Q (x :: xs) H2) D hn fun L H' T => k L H' T
theorem three_asg {H : Hp} {d c : Addr} {n : Nat} {v0 s2 s3 s4 s5 : Option V} {De : Ends} {rest : TS} (D : Deck H d c n) (hn : n + 400 ≤ 1000000)
    (k : ∀ L H', Three H H' d c (n + 360) L → rest De [v0, some (.ref d), s2, s3, some (.ref L), s5] H') : tSeq (tAsg tT3 (gName 4)) rest De [v0, some (.ref d), s2, s3, s4, s5] H :=
  three_lc (Q := fun x H1 => rest De [v0, some (.ref d), s2, s3, some x, s5] H1) D hn fun L H' T => k L H' T
def by14 (x y z : PyData) : PyData := .list [x, y, z, x, x, x, x, x, x, x, x, x, x, x]
theorem by14_ok {x y z : PyData} (ox : Okd 4 12000 x) (oy : Okd 4 12000 y) (oz : Okd 4 12000 z) : Rp (by14 x y z) := by
  refine (okd_list (D := 4) (W := 168014) ((oks_all (D := 4) (W := 12000) (xs := [x, y, z, x, x, x, x, x, x, x, x, x, x, x]) fun u hu => ?_).mono (Nat.le_refl _) (by show 12001 * 14 ≤ 168014; decide))).rp (by decide) (by decide)
  simp only [List.mem_cons, List.not_mem_nil, or_false] at hu
  rcases hu with rfl | rfl | rfl | rfl | rfl | rfl | rfl | rfl | rfl | rfl | rfl | rfl | rfl | rfl <;> assumption
theorem by14_dat {H : Hp} {x y z : V} {dx dy dz : PyData} {p : Addr} {xs : List V} (e : H p = some (.lst xs)) (ex : xs = [x, y, z] ++ List.replicate 11 x) (gx : Dat H dx x) (gy : Dat H dy y) (gz : Dat H dz z) : Dat H (by14 dx dy dz) (.ref p) := by
  subst ex
  unfold by14
  simp only [Dat, DatAll]
  exact ⟨p, _, rfl, e, _, _, rfl, gx, _, _, rfl, gy, _, _, rfl, gz, _, _, rfl, gx, _, _, rfl, gx, _, _, rfl, gx, _, _, rfl, gx, _, _, rfl, gx, _, _, rfl, gx, _, _, rfl, gx, _, _, rfl, gx, _, _, rfl, gx, _, _, rfl, gx, _, _, rfl, gx, rfl⟩
theorem sc_law : FnScope ["_law_script", "_law_deck_here", "_law_turn", "_law_which", "_law_things", "_law_k"] ["_law_script"] (defScope (top 34)) := ⟨rfl, rfl, rfl, by decide +kernel, rfl, by decide +kernel, by decide +kernel⟩
theorem ok_law (F : FnP K "law" 34 f fd) (hS : ∃ o, base.get? sysModules = some o) (B : Blt mg)
    (c__law_deck : Cal P w K mg base 1 "_law_deck" ["_law_script"] (spDeck K))
    (c__law_thing : Cal P w K mg base 6 "_law_thing" ["_law_deck_here", "_law_deep"] (spThing 3))
    (c__law_right : Cal P w K mg base 6 "_law_right" ["_law_which", "_law_things"] (spRight K))
    (c__law_by_name : Cal P w K mg base 3 "_law_by_name" ["_law_things"] (spBy K)) :
    FnG P w K mg base CX0 7 f fd ["_law_script"] (spLaw K) := by
  refine okD F sc_law hS (fun vs H Q E h => ?_) (fun cdv A outer s H vs Q E R h => ?_)
  · obtain ⟨a, ns, rfl, _⟩ := h
    rfl
  obtain ⟨a, ns, rfl, hS, hl, q⟩ := h
  obtain ⟨m_isinstance, m_len, m_all, m_abs, m_repr, m_str, m_int, m_bool, m_list, m_tuple, m_range⟩ := B
  have nd := sc_law.nd
  refine ⟨_, (pss_cons (ps_set (i := 1) nd rfl (Or.inr rfl) (cc c__law_deck R (pa_cons (pv 0) pa_nil))) (pss_cons (ps_for PassesOwn.never rfl (pi_range1 rfl m_range (pa_cons pe_int pa_nil)) (pg_name (i := 2) nd rfl (Or.inl rfl)) (pss_cons (ps_for PassesOwn.never rfl (pi_range1 rfl m_range (pa_cons pe_int pa_nil)) (pg_name (i := 3) nd rfl (Or.inl rfl)) (pss_one (ps_if (pt_not (pt_val (cc c__law_right R (pa_cons (pv 3) (pa_cons (pe_lc1 5 rfl nd (pi_range1 rfl m_range (pa_cons pe_int pa_nil)) (by kernel_rfl) (fun _ _ _ _ _ => pg_name (i := 5) nd rfl (Or.inl rfl)) (fun _ _ _ _ _ => pts_nil) (fun _ _ _ _ _ => (cc c__law_thing (R.blk _ _ _ _ _) (pa_cons (pv 1) (pa_cons pe_int pa_nil))))) pa_nil))))) (pss_one (ps_ret pe_bl)) pss_nil))) (pss_cons (ps_setLc1 4 5 rfl nd rfl rfl (by rfl) (pi_range1 rfl m_range (pa_cons pe_int pa_nil)) (by kernel_rfl) (fun _ _ _ _ _ => pg_name (i := 5) nd rfl (Or.inl rfl)) (fun _ _ _ _ _ => pts_nil) (fun _ _ _ _ _ => (cc c__law_thing (R.blk _ _ _ _ _) (pa_cons (pv 1) (pa_cons pe_int pa_nil))))) (pss_one (ps_if (pt_cmpR op_ne (crepr R m_repr (pa_cons (cc c__law_by_name R (pa_cons (pv 4) pa_nil)) pa_nil)) (crepr R m_repr (pa_cons (pe_op opAdd (pv 4) (pe_op opMul (pe_lst (pa_cons (pe_ix ixAny (pv 4) pe_int (fun _ _ => rfl)) pa_nil)) pe_int)) pa_nil)) (nomark _)) (pss_one (ps_ret pe_bl)) pss_nil))))) (pss_one (ps_ret pe_bl)))), ?r⟩
  case r =>
    refine ⟨_, rfl, a, ns, rfl, hS, hl, fun d c H1 hd hc D1 s1 => ?_⟩
    refine ⟨3, rfl, by decide, by decide, for_range (n := 3) (fun i σ H' => ∃ t1 t2 t3, σ = [some (.ref a), some (.ref d), t1, t2, t3, none] ∧ Deck H' d c (i * 7200)) ⟨none, none, none, rfl, by simpa using D1⟩ ?_ ?_⟩
    · rintro i σ H2 hi ⟨t1, t2, t3, rfl, D2⟩
      have hi6 : i * 7200 ≤ 2 * 7200 := Nat.mul_le_mul_right _ (by omega)
      have hi7 : (i + 1) * 7200 = i * 7200 + 7200 := by rw [Nat.add_mul, Nat.one_mul]
      refine ⟨19, rfl, by decide, by decide, for_range (n := 19) (fun j σ H' => ∃ t2 t3, σ = [some (.ref a), some (.ref d), some (.int (0 + (i : Int))), t2, t3, none] ∧ Deck H' d c (i * 7200 + j * 360)) ⟨_, _, rfl, by simpa using D2⟩ ?_ ?_⟩
      · rintro j σ H3 hj ⟨t2, t3, rfl, D3⟩
        have hj6 : j * 360 ≤ 18 * 360 := Nat.mul_le_mul_right _ (by omega)
        have hj7 : (j + 1) * 360 = j * 360 + 360 := by rw [Nat.add_mul, Nat.one_mul]
        refine ⟨_, rfl, ?_⟩
        refine three_arg D3 (by omega) fun L H4 T => ?_
        obtain ⟨⟨x, y, z, dx, dy, dz, eL, gx, gy, gz, ox, oy, oz⟩, D4, s4, Ld, Lc⟩ := T
        refine ⟨L, x, y, z, dx, dy, dz, j, by show [V.int (0 + (j : Int)), V.ref L] = _; rw [Int.zero_add], hj, eL, gx, gy, gz, ox, oy, oz, fun H5 s5 => ⟨_, rfl, ?_⟩⟩
        exact ⟨_, _, rfl, by rw [hj7, ← Nat.add_assoc]; exact D4.same s5⟩
      · rintro σ H3 ⟨t2, t3, rfl, D3⟩
        refine three_asg D3 (by omega) fun L H4 T => ?_
        obtain ⟨⟨x, y, z, dx, dy, dz, eL, gx, gy, gz, ox, oy, oz⟩, D4, s4, Ld, Lc⟩ := T
        have rB := by14_ok ox oy oz
        refine ⟨_, rfl, L, x, y, z, rfl, eL, fun p H5 hp ep s5 => ?_⟩
        have w5 : ∀ H6, Same H5 H6 → Same H4 H6 := fun H6 s => s5.trans s
        refine ⟨_, by14 dx dy dz, rfl, by14_dat ep rfl (dat_same s5 _ _ gx) (dat_same s5 _ _ gy) (dat_same s5 _ _ gz), rB.sh, rB.dp, rB.ln, ?_⟩
        refine ⟨_, rfl, _, rfl, .inl ⟨L, _, _, _, rfl, rfl, SqL.of (s5 _ _ eL), rfl, by show 1 ≤ sizeLine; decide, fun L2 h2 => .inl (.inr ⟨L2, 11, _, rfl, rfl, upd_same, by decide, by decide, by show 1 * 11 ≤ sizeLine; decide, fun p3 h3 => ?_⟩)⟩⟩
        have w2 := same_new h2 (.lst [x])
        have w3 := same_new h3 (.lst (List.replicate (Int.toNat 11) [x]).flatten)
        have w23 := w2.trans w3
        refine .inr ⟨L, p3, _, _, rfl, rfl, w23 _ _ (s5 _ _ eL), upd_same, by show 3 + 11 ≤ sizeLine; decide, fun p4 h4 => ?_⟩
        have w4 := same_new h4 (.lst ([x, y, z] ++ (List.replicate (Int.toNat 11) [x]).flatten))
        have sE := (s5.trans w23).trans w4
        refine ⟨_, by14 dx dy dz, rfl, by14_dat upd_same rfl (dat_same sE _ _ gx) (dat_same sE _ _ gy) (dat_same sE _ _ gz), rB.sh, rB.dp, rB.ln, rfl, _, rfl, ite2 (fun c => absurd (c.symm.trans (strEq rfl)) (by decide)) (fun _ => ?_)⟩
        exact ⟨_, _, _, rfl, by rw [hi7]; exact (D4.same sE).mono (by omega)⟩
    · rintro σ H2 ⟨t1, t2, t3, rfl, D2⟩
      exact q _
end
end K01
end

/-! K01m -/
section
namespace FA
open PySem PySem.Spec PyProof.Rows L2
/-- the head's facts, the table of modules, and one test more -/
def hookB (n : Nat) (fa : List He.Fa) (fn : List He.DefD) (B : PySem.W.Frag → Bool) : PySem.W.Hook where
  α := He.AlD × Bool × Bool
  obs := fun s => (He.obsDG n fa fn s.heap.get?, sysB s.heap.get?, B (He.frG s.heap.get? (He.asD s.heap.get? n)))
  val := fun _ => (He.valD fn, true, true)
  says := fun _ h => (∃ K, K.In h ∧ He.SaysD fa fn K ∧ B K = true) ∧ ∃ o es m, h.get? sysModules = some o ∧ o.data = Data.dict es m
  of := fun _ s e => ⟨⟨_, He.frG_in, congrArg Prod.fst e, congrArg (fun p => p.2.2) e⟩, sysB_ok (congrArg (fun p => p.2.1) e)⟩
  keeps := fun _ h h' z k => ⟨let ⟨K, i, s, b⟩ := z.1; ⟨K, i.keeps k, s, b⟩, let ⟨o, es, m, e, d⟩ := z.2; ⟨o, es, m, k _ _ e, d⟩⟩
end FA
namespace K01
open PySem PySem.Spec PyProof.Rows L2 FA
theorem rel_same1 {zs : List V} {ws : List Value} (h : Vals zs ws) : Vals (same1 zs) (same1 ws) := h
theorem rel_rot1 {zs : List V} {ws : List Value} (h : Vals zs ws) : Vals (rot1 zs) (rot1 ws) := by
  cases h with
  | nil => exact .nil
  | cons r1 h =>
    cases h with
    | nil => exact .cons r1 .nil
    | cons r2 h =>
      cases h with
      | nil => exact .cons r1 (.cons r2 .nil)
      | cons r3 h =>
        cases h with
        | nil => exact .cons r2 (.cons r3 (.cons r1 .nil))
        | cons r4 h => exact .cons r1 (.cons r2 (.cons r3 (.cons r4 h)))
def iA (K : PySem.W.Frag) (i : Nat) : Addr := He.fAd K (cN.getD i "", some "__init__")
def oneB (K : PySem.W.Frag) (i : Nat) : Bool :=
  eclB K (cA K i) && (He.eqO (PySem.W.findIn K (.ref (cA K i)) "__init__") (some (some (.ref (iA K i)))) && (decide (PySem.W.typeIn K (.ref (iA K i)) = some (.type "function")) &&
  ((List.range 19).all (fun j => decide (PySem.W.kitOne K (.ref (cA K i)) (.ref (cA K j)) = some (decide (j = i)))) && (oT.all (fun T => decide (PySem.W.kitOne K (.ref (cA K i)) (.type T) = some false)) &&
  (decide (PySem.W.kitOne K (.ref (cA K i)) (.type "Exception") = some true) && (decide (PySem.W.kitOne K (.ref (cA K i)) (.ref (He.ga K "FailsError")) = some true) &&
  (decide (PySem.W.exmOne K (.ref (cA K i)) (.ref (He.ga K "FailsError")) = some true) && fN.all (fun f => He.eqO (PySem.W.findIn K (.ref (cA K i)) f) (some none)))))))))
def kB (K : PySem.W.Frag) : Bool := (List.range 19).all (oneB K)
structure One (K : PySem.W.Frag) (i : Nat) : Prop where
  ecl : Ecl K (cA K i)
  ini : PySem.W.findIn K (.ref (cA K i)) "__init__" = some (some (.ref (iA K i)))
  fnc : PySem.W.typeIn K (.ref (iA K i)) = some (.type "function")
  kit : ∀ j, j < 19 → PySem.W.kitOne K (.ref (cA K i)) (.ref (cA K j)) = some (decide (j = i))
  kitB : ∀ T : String, T ∈ oT → PySem.W.kitOne K (.ref (cA K i)) (.type T) = some false
  kitE : PySem.W.kitOne K (.ref (cA K i)) (.type "Exception") = some true
  kitF : PySem.W.kitOne K (.ref (cA K i)) (.ref (He.ga K "FailsError")) = some true
  exF : PySem.W.exmOne K (.ref (cA K i)) (.ref (He.ga K "FailsError")) = some true
  noA : ∀ f : Str, f ∈ fN → PySem.W.findIn K (.ref (cA K i)) f = some none
theorem one_of {K : PySem.W.Frag} {i : Nat} (h : oneB K i = true) : One K i := by
  simp only [oneB, Bool.and_eq_true, decide_eq_true_eq, List.all_eq_true, List.mem_range] at h
  obtain ⟨a, b, c, d, e, f, g, k, l⟩ := h
  exact ⟨eclB_ok a, He.eqO_ok b, c, d, e, f, g, k, fun f hf => He.eqO_ok (l f hf)⟩
theorem ones {K : PySem.W.Frag} (h : kB K = true) (i : Nat) (hi : i < 19) : One K i := one_of (List.all_eq_true.mp h i (List.mem_range.mpr hi))
def dd__law_deck : He.DefD := ⟨("_law_deck", none), "_law_deck", "_law_deck", defArgs (top 22), defBody (top 22), defScope (top 22), [], []⟩
def dd__law_draw : He.DefD := ⟨("_law_draw", none), "_law_draw", "_law_draw", defArgs (top 23), defBody (top 23), defScope (top 23), [], []⟩
def dd__law_pick : He.DefD := ⟨("_law_pick", none), "_law_pick", "_law_pick", defArgs (top 24), defBody (top 24), defScope (top 24), [], []⟩
def dd__law_thing : He.DefD := ⟨("_law_thing", none), "_law_thing", "_law_thing", defArgs (top 25), defBody (top 25), defScope (top 25), [], []⟩
def dd__law_own_kinds : He.DefD := ⟨("_law_own_kinds", none), "_law_own_kinds", "_law_own_kinds", defArgs (top 26), defBody (top 26), defScope (top 26), [], []⟩
def dd__law_other_kinds : He.DefD := ⟨("_law_other_kinds", none), "_law_other_kinds", "_law_other_kinds", defArgs (top 27), defBody (top 27), defScope (top 27), [], []⟩
def dd__law_made : He.DefD := ⟨("_law_made", none), "_law_made", "_law_made", defArgs (top 28), defBody (top 28), defScope (top 28), [], []⟩
def dd__law_by_name : He.DefD := ⟨("_law_by_name", none), "_law_by_name", "_law_by_name", defArgs (top 29), defBody (top 29), defScope (top 29), [], []⟩
def dd__law_first_raised : He.DefD := ⟨("_law_first_raised", none), "_law_first_raised", "_law_first_raised", defArgs (top 30), defBody (top 30), defScope (top 30), [], []⟩
def dd__law_raised : He.DefD := ⟨("_law_raised", none), "_law_raised", "_law_raised", defArgs (top 31), defBody (top 31), defScope (top 31), [], []⟩
def dd__law_caught : He.DefD := ⟨("_law_caught", none), "_law_caught", "_law_caught", defArgs (top 32), defBody (top 32), defScope (top 32), [], []⟩
def dd__law_right : He.DefD := ⟨("_law_right", none), "_law_right", "_law_right", defArgs (top 33), defBody (top 33), defScope (top 33), [], []⟩
def dd_law : He.DefD := ⟨("law", none), "law", "law", defArgs (top 34), defBody (top 34), defScope (top 34), [], []⟩
def di_Failed : He.DefD := ⟨("Failed", some "__init__"), "__init__", "Failed.__init__", defArgs (inClass (top 2) 0), defBody (inClass (top 2) 0), defScope (inClass (top 2) 0), [], []⟩
def di_NameTaken : He.DefD := ⟨("NameTaken", some "__init__"), "__init__", "NameTaken.__init__", defArgs (inClass (top 3) 0), defBody (inClass (top 3) 0), defScope (inClass (top 3) 0), [], []⟩
def di_BadTable : He.DefD := ⟨("BadTable", some "__init__"), "__init__", "BadTable.__init__", defArgs (inClass (top 4) 0), defBody (inClass (top 4) 0), defScope (inClass (top 4) 0), [], []⟩
def di_NoTable : He.DefD := ⟨("NoTable", some "__init__"), "__init__", "NoTable.__init__", defArgs (inClass (top 5) 0), defBody (inClass (top 5) 0), defScope (inClass (top 5) 0), [], []⟩
def di_NoColumn : He.DefD := ⟨("NoColumn", some "__init__"), "__init__", "NoColumn.__init__", defArgs (inClass (top 6) 0), defBody (inClass (top 6) 0), defScope (inClass (top 6) 0), [], []⟩
def di_BadRow : He.DefD := ⟨("BadRow", some "__init__"), "__init__", "BadRow.__init__", defArgs (inClass (top 7) 0), defBody (inClass (top 7) 0), defScope (inClass (top 7) 0), [], []⟩
def di_KeyTaken : He.DefD := ⟨("KeyTaken", some "__init__"), "__init__", "KeyTaken.__init__", defArgs (inClass (top 8) 0), defBody (inClass (top 8) 0), defScope (inClass (top 8) 0), [], []⟩
def di_NoRow : He.DefD := ⟨("NoRow", some "__init__"), "__init__", "NoRow.__init__", defArgs (inClass (top 9) 0), defBody (inClass (top 9) 0), defScope (inClass (top 9) 0), [], []⟩
def di_TooGreat : He.DefD := ⟨("TooGreat", some "__init__"), "__init__", "TooGreat.__init__", defArgs (inClass (top 12) 0), defBody (inClass (top 12) 0), defScope (inClass (top 12) 0), [], []⟩
def di_Outdated : He.DefD := ⟨("Outdated", some "__init__"), "__init__", "Outdated.__init__", defArgs (inClass (top 14) 0), defBody (inClass (top 14) 0), defScope (inClass (top 14) 0), [], []⟩
def di_NoGoal : He.DefD := ⟨("NoGoal", some "__init__"), "__init__", "NoGoal.__init__", defArgs (inClass (top 15) 0), defBody (inClass (top 15) 0), defScope (inClass (top 15) 0), [], []⟩
def di_NoCourse : He.DefD := ⟨("NoCourse", some "__init__"), "__init__", "NoCourse.__init__", defArgs (inClass (top 16) 0), defBody (inClass (top 16) 0), defScope (inClass (top 16) 0), [], []⟩
def di_NoQuestion : He.DefD := ⟨("NoQuestion", some "__init__"), "__init__", "NoQuestion.__init__", defArgs (inClass (top 10) 0), defBody (inClass (top 10) 0), defScope (inClass (top 10) 0), [], []⟩
def di_NotPlain : He.DefD := ⟨("NotPlain", some "__init__"), "__init__", "NotPlain.__init__", defArgs (inClass (top 11) 0), defBody (inClass (top 11) 0), defScope (inClass (top 11) 0), [], []⟩
def di_NoPlan : He.DefD := ⟨("NoPlan", some "__init__"), "__init__", "NoPlan.__init__", defArgs (inClass (top 13) 0), defBody (inClass (top 13) 0), defScope (inClass (top 13) 0), [], []⟩
def di_InvalidText : He.DefD := ⟨("InvalidText", some "__init__"), "__init__", "InvalidText.__init__", defArgs (inClass (top 17) 0), defBody (inClass (top 17) 0), defScope (inClass (top 17) 0), [], []⟩
def di_InvalidCommand : He.DefD := ⟨("InvalidCommand", some "__init__"), "__init__", "InvalidCommand.__init__", defArgs (inClass (top 18) 0), defBody (inClass (top 18) 0), defScope (inClass (top 18) 0), [], []⟩
def di_NothingAsked : He.DefD := ⟨("NothingAsked", some "__init__"), "__init__", "NothingAsked.__init__", defArgs (inClass (top 19) 0), defBody (inClass (top 19) 0), defScope (inClass (top 19) 0), [], []⟩
def di_NoRun : He.DefD := ⟨("NoRun", some "__init__"), "__init__", "NoRun.__init__", defArgs (inClass (top 20) 0), defBody (inClass (top 20) 0), defScope (inClass (top 20) 0), [], []⟩
def fn : List He.DefD := [dd__law_deck, dd__law_draw, dd__law_pick, dd__law_thing, dd__law_own_kinds, dd__law_other_kinds, dd__law_made, dd__law_by_name, dd__law_first_raised, dd__law_raised, dd__law_caught, dd__law_right, dd_law, di_Failed, di_NameTaken, di_BadTable, di_NoTable, di_NoColumn, di_BadRow, di_KeyTaken, di_NoRow, di_TooGreat, di_Outdated, di_NoGoal, di_NoCourse, di_NoQuestion, di_NotPlain, di_NoPlan, di_InvalidText, di_InvalidCommand, di_NothingAsked, di_NoRun]
def fa : List He.Fa := [.glo "_law_deck", .glo "_law_draw", .glo "_law_pick", .glo "_law_thing", .glo "_law_own_kinds", .glo "_law_other_kinds", .glo "_law_made", .glo "_law_by_name", .glo "_law_first_raised", .glo "_law_raised", .glo "_law_caught", .glo "_law_right", .glo "law", .glo "Failed", .glo "NameTaken", .glo "BadTable", .glo "NoTable", .glo "NoColumn", .glo "BadRow", .glo "KeyTaken", .glo "NoRow", .glo "TooGreat", .glo "Outdated", .glo "NoGoal", .glo "NoCourse", .glo "NoQuestion", .glo "NotPlain", .glo "NoPlan", .glo "InvalidText", .glo "InvalidCommand", .glo "NothingAsked", .glo "NoRun", .glo "FailsError", .free "isinstance", .free "len", .free "all", .free "abs", .free "repr", .free "str", .free "int", .free "bool", .free "list", .free "tuple", .free "range", .free "ValueError", .free "LookupError", .free "ArithmeticError", .free "TypeError", .free "RuntimeError", .free "AttributeError", .free "NotImplementedError", .free "Exception"]
abbrev R : PySem.W.OpenRow := PySem.W.OpenLaw.row PySem.Challenge.rw_failsalike_k01_errors
abbrev hk : PySem.W.Hook := hookB 4 fa fn kB
def ob (s : PySem.W.SharedT) : He.AlD × Bool × Bool := (He.obsDG 4 fa fn (HandSHeadRun.getT s), sysB (HandSHeadRun.getT s), kB (He.frG (HandSHeadRun.getT s) (He.asD (HandSHeadRun.getT s) 4)))
theorem ob_eq (s : PySem.W.SharedT) : ob s = hk.obs s.abs := by
  have e : HandSHeadRun.getT s = s.abs.heap.get? := funext (HandSHeadRun.getT_eq s)
  show (He.obsDG 4 fa fn (HandSHeadRun.getT s), sysB (HandSHeadRun.getT s), kB (He.frG (HandSHeadRun.getT s) (He.asD (HandSHeadRun.getT s) 4))) = (He.obsDG 4 fa fn s.abs.heap.get?, sysB s.abs.heap.get?, kB (He.frG s.abs.heap.get? (He.asD s.abs.heap.get? 4)))
  exact congrArg (fun g => (He.obsDG 4 fa fn g, sysB g, kB (He.frG g (He.asD g 4)))) e
def loose : List Str := ["_law_deck", "_law_draw", "_law_pick", "_law_thing", "_law_own_kinds", "_law_other_kinds", "_law_made", "_law_by_name", "_law_first_raised", "_law_raised", "_law_caught", "_law_right", "Failed", "NameTaken", "BadTable", "NoTable", "NoColumn", "BadRow", "KeyTaken", "NoRow", "TooGreat", "Outdated", "NoGoal", "NoCourse", "NoQuestion", "NotPlain", "NoPlan", "InvalidText", "InvalidCommand", "NothingAsked", "NoRun", "FailsError"]
theorem run (w : World) : HandSHeadRun.RunEq R (PySem.W.view R.prog [34]) hk ob 6000 loose w := by
  intro os
  kernel_rfl

theorem facts {P : Program} {w : World} {K : PySem.W.Frag} {h : Heap} {mg : Str → Option Value} {f : Addr} (X : K.In h) (G : h.Ns mainGlobals mg) (hfa : mg ("law" : Str) = some (.ref f)) (c : He.SaysD fa fn K) (hk : kB K = true) :
    ∃ fd : FuncData, (∀ (s : Shared) (v : Value), BindsTo s fd ⟨[v], []⟩ [("_law_script", v)]) ∧ ∀ base : Heap, K.In base → base.Ns mainGlobals mg → (∃ o, base.get? sysModules = some o) → FnG P w K mg base CX0 7 f fd ["_law_script"] (spLaw K) := by
  obtain ⟨q__law_deck, F__law_deck⟩ := c.def_ 0 (d := dd__law_deck) rfl
  have g__law_deck := He.glo_ok X G (c.fact 0 (f := .glo "_law_deck") rfl)
  have b__law_deck : Binds K q__law_deck ["_law_script"] [] := FunD.bindsN F__law_deck fun _ _ _ _ _ _ us hl => match us, hl with | [_], _ => rfl
  obtain ⟨q__law_draw, F__law_draw⟩ := c.def_ 1 (d := dd__law_draw) rfl
  have g__law_draw := He.glo_ok X G (c.fact 1 (f := .glo "_law_draw") rfl)
  have b__law_draw : Binds K q__law_draw ["_law_deck_here", "_law_many"] [] := FunD.bindsN F__law_draw fun _ _ _ _ _ _ us hl => match us, hl with | [_, _], _ => rfl
  obtain ⟨q__law_pick, F__law_pick⟩ := c.def_ 2 (d := dd__law_pick) rfl
  have g__law_pick := He.glo_ok X G (c.fact 2 (f := .glo "_law_pick") rfl)
  have b__law_pick : Binds K q__law_pick ["_law_deck_here", "_law_some"] [] := FunD.bindsN F__law_pick fun _ _ _ _ _ _ us hl => match us, hl with | [_, _], _ => rfl
  obtain ⟨q__law_thing, F__law_thing⟩ := c.def_ 3 (d := dd__law_thing) rfl
  have g__law_thing := He.glo_ok X G (c.fact 3 (f := .glo "_law_thing") rfl)
  have b__law_thing : Binds K q__law_thing ["_law_deck_here", "_law_deep"] [] := FunD.bindsN F__law_thing fun _ _ _ _ _ _ us hl => match us, hl with | [_, _], _ => rfl
  obtain ⟨q__law_own_kinds, F__law_own_kinds⟩ := c.def_ 4 (d := dd__law_own_kinds) rfl
  have g__law_own_kinds := He.glo_ok X G (c.fact 4 (f := .glo "_law_own_kinds") rfl)
  have b__law_own_kinds : Binds K q__law_own_kinds ["_law_e"] [] := FunD.bindsN F__law_own_kinds fun _ _ _ _ _ _ us hl => match us, hl with | [_], _ => rfl
  obtain ⟨q__law_other_kinds, F__law_other_kinds⟩ := c.def_ 5 (d := dd__law_other_kinds) rfl
  have g__law_other_kinds := He.glo_ok X G (c.fact 5 (f := .glo "_law_other_kinds") rfl)
  have b__law_other_kinds : Binds K q__law_other_kinds ["_law_e"] [] := FunD.bindsN F__law_other_kinds fun _ _ _ _ _ _ us hl => match us, hl with | [_], _ => rfl
  obtain ⟨q__law_made, F__law_made⟩ := c.def_ 6 (d := dd__law_made) rfl
  have g__law_made := He.glo_ok X G (c.fact 6 (f := .glo "_law_made") rfl)
  have b__law_made : Binds K q__law_made ["_law_which", "_law_things"] [] := FunD.bindsN F__law_made fun _ _ _ _ _ _ us hl => match us, hl with | [_, _], _ => rfl
  obtain ⟨q__law_by_name, F__law_by_name⟩ := c.def_ 7 (d := dd__law_by_name) rfl
  have g__law_by_name := He.glo_ok X G (c.fact 7 (f := .glo "_law_by_name") rfl)
  have b__law_by_name : Binds K q__law_by_name ["_law_things"] [] := FunD.bindsN F__law_by_name fun _ _ _ _ _ _ us hl => match us, hl with | [_], _ => rfl
  obtain ⟨q__law_first_raised, F__law_first_raised⟩ := c.def_ 8 (d := dd__law_first_raised) rfl
  have g__law_first_raised := He.glo_ok X G (c.fact 8 (f := .glo "_law_first_raised") rfl)
  have b__law_first_raised : Binds K q__law_first_raised ["_law_which", "_law_things"] [] := FunD.bindsN F__law_first_raised fun _ _ _ _ _ _ us hl => match us, hl with | [_, _], _ => rfl
  obtain ⟨q__law_raised, F__law_raised⟩ := c.def_ 9 (d := dd__law_raised) rfl
  have g__law_raised := He.glo_ok X G (c.fact 9 (f := .glo "_law_raised") rfl)
  have b__law_raised : Binds K q__law_raised ["_law_which", "_law_things"] [] := FunD.bindsN F__law_raised fun _ _ _ _ _ _ us hl => match us, hl with | [_, _], _ => rfl
  obtain ⟨q__law_caught, F__law_caught⟩ := c.def_ 10 (d := dd__law_caught) rfl
  have g__law_caught := He.glo_ok X G (c.fact 10 (f := .glo "_law_caught") rfl)
  have b__law_caught : Binds K q__law_caught ["_law_which", "_law_things"] [] := FunD.bindsN F__law_caught fun _ _ _ _ _ _ us hl => match us, hl with | [_, _], _ => rfl
  obtain ⟨q__law_right, F__law_right⟩ := c.def_ 11 (d := dd__law_right) rfl
  have g__law_right := He.glo_ok X G (c.fact 11 (f := .glo "_law_right") rfl)
  have b__law_right : Binds K q__law_right ["_law_which", "_law_things"] [] := FunD.bindsN F__law_right fun _ _ _ _ _ _ us hl => match us, hl with | [_, _], _ => rfl
  obtain ⟨q_law, F_law⟩ := c.def_ 12 (d := dd_law) rfl
  obtain ⟨q_Failed, F_Failed⟩ := c.def_ 13 (d := di_Failed) rfl
  have g_Failed : mg "Failed" = some (.ref (cA K 0)) := He.glo_ok X G (c.fact 13 (f := .glo "Failed") rfl)
  have b_Failed : Binds K q_Failed ["self", "word", "place", "numbers"] [] := FunD.bindsN F_Failed fun _ _ _ _ _ _ us hl => match us, hl with | [_, _, _, _], _ => rfl
  have w_Failed : KwTo1 K q_Failed ["self", "word", "place", "numbers"] ["numbers", "word", "place"] rot1 := kwTo1 F_Failed (fun _ _ _ _ _ _ _ us hl => match us, hl with | [_, _, _], _ => rfl) rel_rot1
  obtain ⟨q_NameTaken, F_NameTaken⟩ := c.def_ 14 (d := di_NameTaken) rfl
  have g_NameTaken : mg "NameTaken" = some (.ref (cA K 1)) := He.glo_ok X G (c.fact 14 (f := .glo "NameTaken") rfl)
  have b_NameTaken : Binds K q_NameTaken ["self", "name"] [] := FunD.bindsN F_NameTaken fun _ _ _ _ _ _ us hl => match us, hl with | [_, _], _ => rfl
  have w_NameTaken : KwTo1 K q_NameTaken ["self", "name"] ["name"] same1 := kwTo1 F_NameTaken (fun _ _ _ _ _ _ _ us hl => match us, hl with | [_], _ => rfl) rel_same1
  obtain ⟨q_BadTable, F_BadTable⟩ := c.def_ 15 (d := di_BadTable) rfl
  have g_BadTable : mg "BadTable" = some (.ref (cA K 2)) := He.glo_ok X G (c.fact 15 (f := .glo "BadTable") rfl)
  have b_BadTable : Binds K q_BadTable ["self", "part"] [] := FunD.bindsN F_BadTable fun _ _ _ _ _ _ us hl => match us, hl with | [_, _], _ => rfl
  have w_BadTable : KwTo1 K q_BadTable ["self", "part"] ["part"] same1 := kwTo1 F_BadTable (fun _ _ _ _ _ _ _ us hl => match us, hl with | [_], _ => rfl) rel_same1
  obtain ⟨q_NoTable, F_NoTable⟩ := c.def_ 16 (d := di_NoTable) rfl
  have g_NoTable : mg "NoTable" = some (.ref (cA K 3)) := He.glo_ok X G (c.fact 16 (f := .glo "NoTable") rfl)
  have b_NoTable : Binds K q_NoTable ["self", "name"] [] := FunD.bindsN F_NoTable fun _ _ _ _ _ _ us hl => match us, hl with | [_, _], _ => rfl
  have w_NoTable : KwTo1 K q_NoTable ["self", "name"] ["name"] same1 := kwTo1 F_NoTable (fun _ _ _ _ _ _ _ us hl => match us, hl with | [_], _ => rfl) rel_same1
  obtain ⟨q_NoColumn, F_NoColumn⟩ := c.def_ 17 (d := di_NoColumn) rfl
  have g_NoColumn : mg "NoColumn" = some (.ref (cA K 4)) := He.glo_ok X G (c.fact 17 (f := .glo "NoColumn") rfl)
  have b_NoColumn : Binds K q_NoColumn ["self", "name"] [] := FunD.bindsN F_NoColumn fun _ _ _ _ _ _ us hl => match us, hl with | [_, _], _ => rfl
  have w_NoColumn : KwTo1 K q_NoColumn ["self", "name"] ["name"] same1 := kwTo1 F_NoColumn (fun _ _ _ _ _ _ _ us hl => match us, hl with | [_], _ => rfl) rel_same1
  obtain ⟨q_BadRow, F_BadRow⟩ := c.def_ 18 (d := di_BadRow) rfl
  have g_BadRow : mg "BadRow" = some (.ref (cA K 5)) := He.glo_ok X G (c.fact 18 (f := .glo "BadRow") rfl)
  have b_BadRow : Binds K q_BadRow ["self", "column"] [] := FunD.bindsN F_BadRow fun _ _ _ _ _ _ us hl => match us, hl with | [_, _], _ => rfl
  have w_BadRow : KwTo1 K q_BadRow ["self", "column"] ["column"] same1 := kwTo1 F_BadRow (fun _ _ _ _ _ _ _ us hl => match us, hl with | [_], _ => rfl) rel_same1
  obtain ⟨q_KeyTaken, F_KeyTaken⟩ := c.def_ 19 (d := di_KeyTaken) rfl
  have g_KeyTaken : mg "KeyTaken" = some (.ref (cA K 6)) := He.glo_ok X G (c.fact 19 (f := .glo "KeyTaken") rfl)
  have b_KeyTaken : Binds K q_KeyTaken ["self", "column"] [] := FunD.bindsN F_KeyTaken fun _ _ _ _ _ _ us hl => match us, hl with | [_, _], _ => rfl
  have w_KeyTaken : KwTo1 K q_KeyTaken ["self", "column"] ["column"] same1 := kwTo1 F_KeyTaken (fun _ _ _ _ _ _ _ us hl => match us, hl with | [_], _ => rfl) rel_same1
  obtain ⟨q_NoRow, F_NoRow⟩ := c.def_ 20 (d := di_NoRow) rfl
  have g_NoRow : mg "NoRow" = some (.ref (cA K 7)) := He.glo_ok X G (c.fact 20 (f := .glo "NoRow") rfl)
  have b_NoRow : Binds K q_NoRow ["self", "number"] [] := FunD.bindsN F_NoRow fun _ _ _ _ _ _ us hl => match us, hl with | [_, _], _ => rfl
  have w_NoRow : KwTo1 K q_NoRow ["self", "number"] ["number"] same1 := kwTo1 F_NoRow (fun _ _ _ _ _ _ _ us hl => match us, hl with | [_], _ => rfl) rel_same1
  obtain ⟨q_TooGreat, F_TooGreat⟩ := c.def_ 21 (d := di_TooGreat) rfl
  have g_TooGreat : mg "TooGreat" = some (.ref (cA K 8)) := He.glo_ok X G (c.fact 21 (f := .glo "TooGreat") rfl)
  have b_TooGreat : Binds K q_TooGreat ["self", "limit"] [] := FunD.bindsN F_TooGreat fun _ _ _ _ _ _ us hl => match us, hl with | [_, _], _ => rfl
  have w_TooGreat : KwTo1 K q_TooGreat ["self", "limit"] ["limit"] same1 := kwTo1 F_TooGreat (fun _ _ _ _ _ _ _ us hl => match us, hl with | [_], _ => rfl) rel_same1
  obtain ⟨q_Outdated, F_Outdated⟩ := c.def_ 22 (d := di_Outdated) rfl
  have g_Outdated : mg "Outdated" = some (.ref (cA K 9)) := He.glo_ok X G (c.fact 22 (f := .glo "Outdated") rfl)
  have b_Outdated : Binds K q_Outdated ["self", "fact"] [] := FunD.bindsN F_Outdated fun _ _ _ _ _ _ us hl => match us, hl with | [_, _], _ => rfl
  have w_Outdated : KwTo1 K q_Outdated ["self", "fact"] ["fact"] same1 := kwTo1 F_Outdated (fun _ _ _ _ _ _ _ us hl => match us, hl with | [_], _ => rfl) rel_same1
  obtain ⟨q_NoGoal, F_NoGoal⟩ := c.def_ 23 (d := di_NoGoal) rfl
  have g_NoGoal : mg "NoGoal" = some (.ref (cA K 10)) := He.glo_ok X G (c.fact 23 (f := .glo "NoGoal") rfl)
  have b_NoGoal : Binds K q_NoGoal ["self", "number"] [] := FunD.bindsN F_NoGoal fun _ _ _ _ _ _ us hl => match us, hl with | [_, _], _ => rfl
  have w_NoGoal : KwTo1 K q_NoGoal ["self", "number"] ["number"] same1 := kwTo1 F_NoGoal (fun _ _ _ _ _ _ _ us hl => match us, hl with | [_], _ => rfl) rel_same1
  obtain ⟨q_NoCourse, F_NoCourse⟩ := c.def_ 24 (d := di_NoCourse) rfl
  have g_NoCourse : mg "NoCourse" = some (.ref (cA K 11)) := He.glo_ok X G (c.fact 24 (f := .glo "NoCourse") rfl)
  have b_NoCourse : Binds K q_NoCourse ["self", "number"] [] := FunD.bindsN F_NoCourse fun _ _ _ _ _ _ us hl => match us, hl with | [_, _], _ => rfl
  have w_NoCourse : KwTo1 K q_NoCourse ["self", "number"] ["number"] same1 := kwTo1 F_NoCourse (fun _ _ _ _ _ _ _ us hl => match us, hl with | [_], _ => rfl) rel_same1
  obtain ⟨q_NoQuestion, F_NoQuestion⟩ := c.def_ 25 (d := di_NoQuestion) rfl
  have g_NoQuestion : mg "NoQuestion" = some (.ref (cA K 12)) := He.glo_ok X G (c.fact 25 (f := .glo "NoQuestion") rfl)
  have b_NoQuestion : Binds K q_NoQuestion ["self"] [] := FunD.bindsN F_NoQuestion fun _ _ _ _ _ _ us hl => match us, hl with | [_], _ => rfl
  obtain ⟨q_NotPlain, F_NotPlain⟩ := c.def_ 26 (d := di_NotPlain) rfl
  have g_NotPlain : mg "NotPlain" = some (.ref (cA K 13)) := He.glo_ok X G (c.fact 26 (f := .glo "NotPlain") rfl)
  have b_NotPlain : Binds K q_NotPlain ["self"] [] := FunD.bindsN F_NotPlain fun _ _ _ _ _ _ us hl => match us, hl with | [_], _ => rfl
  obtain ⟨q_NoPlan, F_NoPlan⟩ := c.def_ 27 (d := di_NoPlan) rfl
  have g_NoPlan : mg "NoPlan" = some (.ref (cA K 14)) := He.glo_ok X G (c.fact 27 (f := .glo "NoPlan") rfl)
  have b_NoPlan : Binds K q_NoPlan ["self"] [] := FunD.bindsN F_NoPlan fun _ _ _ _ _ _ us hl => match us, hl with | [_], _ => rfl
  obtain ⟨q_InvalidText, F_InvalidText⟩ := c.def_ 28 (d := di_InvalidText) rfl
  have g_InvalidText : mg "InvalidText" = some (.ref (cA K 15)) := He.glo_ok X G (c.fact 28 (f := .glo "InvalidText") rfl)
  have b_InvalidText : Binds K q_InvalidText ["self"] [] := FunD.bindsN F_InvalidText fun _ _ _ _ _ _ us hl => match us, hl with | [_], _ => rfl
  obtain ⟨q_InvalidCommand, F_InvalidCommand⟩ := c.def_ 29 (d := di_InvalidCommand) rfl
  have g_InvalidCommand : mg "InvalidCommand" = some (.ref (cA K 16)) := He.glo_ok X G (c.fact 29 (f := .glo "InvalidCommand") rfl)
  have b_InvalidCommand : Binds K q_InvalidCommand ["self"] [] := FunD.bindsN F_InvalidCommand fun _ _ _ _ _ _ us hl => match us, hl with | [_], _ => rfl
  obtain ⟨q_NothingAsked, F_NothingAsked⟩ := c.def_ 30 (d := di_NothingAsked) rfl
  have g_NothingAsked : mg "NothingAsked" = some (.ref (cA K 17)) := He.glo_ok X G (c.fact 30 (f := .glo "NothingAsked") rfl)
  have b_NothingAsked : Binds K q_NothingAsked ["self"] [] := FunD.bindsN F_NothingAsked fun _ _ _ _ _ _ us hl => match us, hl with | [_], _ => rfl
  obtain ⟨q_NoRun, F_NoRun⟩ := c.def_ 31 (d := di_NoRun) rfl
  have g_NoRun : mg "NoRun" = some (.ref (cA K 18)) := He.glo_ok X G (c.fact 31 (f := .glo "NoRun") rfl)
  have b_NoRun : Binds K q_NoRun ["self"] [] := FunD.bindsN F_NoRun fun _ _ _ _ _ _ us hl => match us, hl with | [_], _ => rfl
  have e := hfa.symm.trans (He.glo_ok X G (c.fact 12 (f := .glo "law") rfl))
  cases e
  have gF := He.glo_ok X G (c.fact 32 (f := .glo "FailsError") rfl)
  have B : Blt mg := ⟨He.free_ok X G (c.fact 33 (f := .free "isinstance") rfl), He.free_ok X G (c.fact 34 (f := .free "len") rfl), He.free_ok X G (c.fact 35 (f := .free "all") rfl), He.free_ok X G (c.fact 36 (f := .free "abs") rfl), He.free_ok X G (c.fact 37 (f := .free "repr") rfl), He.free_ok X G (c.fact 38 (f := .free "str") rfl), He.free_ok X G (c.fact 39 (f := .free "int") rfl), He.free_ok X G (c.fact 40 (f := .free "bool") rfl), He.free_ok X G (c.fact 41 (f := .free "list") rfl), He.free_ok X G (c.fact 42 (f := .free "tuple") rfl), He.free_ok X G (c.fact 43 (f := .free "range") rfl)⟩
  have m_ValueError : mg "ValueError" = none := He.free_ok X G (c.fact 44 (f := .free "ValueError") rfl)
  have m_LookupError : mg "LookupError" = none := He.free_ok X G (c.fact 45 (f := .free "LookupError") rfl)
  have m_ArithmeticError : mg "ArithmeticError" = none := He.free_ok X G (c.fact 46 (f := .free "ArithmeticError") rfl)
  have m_TypeError : mg "TypeError" = none := He.free_ok X G (c.fact 47 (f := .free "TypeError") rfl)
  have m_RuntimeError : mg "RuntimeError" = none := He.free_ok X G (c.fact 48 (f := .free "RuntimeError") rfl)
  have m_AttributeError : mg "AttributeError" = none := He.free_ok X G (c.fact 49 (f := .free "AttributeError") rfl)
  have m_NotImplementedError : mg "NotImplementedError" = none := He.free_ok X G (c.fact 50 (f := .free "NotImplementedError") rfl)
  have m_Exception : mg "Exception" = none := He.free_ok X G (c.fact 51 (f := .free "Exception") rfl)
  have On := ones hk
  have glo : ∀ i, i < 19 → mg (cN.getD i "") = some (.ref (cA K i)) := fun i hi => match i, hi with
    | 0, _ => g_Failed
    | 1, _ => g_NameTaken
    | 2, _ => g_BadTable
    | 3, _ => g_NoTable
    | 4, _ => g_NoColumn
    | 5, _ => g_BadRow
    | 6, _ => g_KeyTaken
    | 7, _ => g_NoRow
    | 8, _ => g_TooGreat
    | 9, _ => g_Outdated
    | 10, _ => g_NoGoal
    | 11, _ => g_NoCourse
    | 12, _ => g_NoQuestion
    | 13, _ => g_NotPlain
    | 14, _ => g_NoPlan
    | 15, _ => g_InvalidText
    | 16, _ => g_InvalidCommand
    | 17, _ => g_NothingAsked
    | 18, _ => g_NoRun
    | n + 19, h => absurd h (by omega)
  have noB : ∀ T : Str, T ∈ (["ValueError", "LookupError", "ArithmeticError", "TypeError", "RuntimeError", "AttributeError", "NotImplementedError", "Exception"] : List Str) → mg T = none := fun T hT => by
    simp only [List.mem_cons, List.not_mem_nil, or_false] at hT
    rcases hT with rfl | rfl | rfl | rfl | rfl | rfl | rfl | rfl <;> assumption
  have Kt : Kit K mg := ⟨fun i h => (On i h).ecl, glo, fun i j hi hj => (On i hi).kit j hj, fun i T hi hT => (On i hi).kitB T hT, fun i h => (On i h).kitE, fun i h => (On i h).kitF, fun i h => (On i h).exF, gF, fun i f hi hf => (On i hi).noA f hf, noB⟩
  have b := FunD.bindsA (ps := ["_law_script"]) F_law fun _ _ _ _ _ _ us hl => match us, hl with | [_], _ => rfl
  refine ⟨_, fun s v => b s [v] rfl, fun base _ _ hS => ?_⟩
  have G_Failed := ini_Failed (P := P) (w := w) (mg := mg) (base := base) F_Failed hS (On 0 (by decide)).ecl ((On 0 (by decide)).noA "word" (by decide)) ((On 0 (by decide)).noA "place" (by decide)) ((On 0 (by decide)).noA "numbers" (by decide))
  have k_Failed : Mkr P w K mg base "Failed" (cA K 0) 1 ["self", "word", "place", "numbers"] (spIni (cA K 0) 3 three) := ⟨⟨iA K 0, q_Failed, (On 0 (by decide)).ecl, (On 0 (by decide)).ini, (On 0 (by decide)).fnc, G_Failed, b_Failed, g_Failed⟩⟩
  have kk_Failed : MkrK P w K mg base "Failed" (cA K 0) 1 ["self", "word", "place", "numbers"] ["numbers", "word", "place"] rot1 (spIni (cA K 0) 3 three) := ⟨⟨iA K 0, q_Failed, (On 0 (by decide)).ecl, (On 0 (by decide)).ini, (On 0 (by decide)).fnc, G_Failed, w_Failed, g_Failed⟩⟩
  have G_NameTaken := ini_NameTaken (P := P) (w := w) (mg := mg) (base := base) F_NameTaken hS (On 1 (by decide)).ecl ((On 1 (by decide)).noA "name" (by decide))
  have k_NameTaken : Mkr P w K mg base "NameTaken" (cA K 1) 1 ["self", "name"] (spIni (cA K 1) 1 (one "name")) := ⟨⟨iA K 1, q_NameTaken, (On 1 (by decide)).ecl, (On 1 (by decide)).ini, (On 1 (by decide)).fnc, G_NameTaken, b_NameTaken, g_NameTaken⟩⟩
  have kk_NameTaken : MkrK P w K mg base "NameTaken" (cA K 1) 1 ["self", "name"] ["name"] same1 (spIni (cA K 1) 1 (one "name")) := ⟨⟨iA K 1, q_NameTaken, (On 1 (by decide)).ecl, (On 1 (by decide)).ini, (On 1 (by decide)).fnc, G_NameTaken, w_NameTaken, g_NameTaken⟩⟩
  have G_BadTable := ini_BadTable (P := P) (w := w) (mg := mg) (base := base) F_BadTable hS (On 2 (by decide)).ecl ((On 2 (by decide)).noA "part" (by decide))
  have k_BadTable : Mkr P w K mg base "BadTable" (cA K 2) 1 ["self", "part"] (spIni (cA K 2) 1 (one "part")) := ⟨⟨iA K 2, q_BadTable, (On 2 (by decide)).ecl, (On 2 (by decide)).ini, (On 2 (by decide)).fnc, G_BadTable, b_BadTable, g_BadTable⟩⟩
  have kk_BadTable : MkrK P w K mg base "BadTable" (cA K 2) 1 ["self", "part"] ["part"] same1 (spIni (cA K 2) 1 (one "part")) := ⟨⟨iA K 2, q_BadTable, (On 2 (by decide)).ecl, (On 2 (by decide)).ini, (On 2 (by decide)).fnc, G_BadTable, w_BadTable, g_BadTable⟩⟩
  have G_NoTable := ini_NoTable (P := P) (w := w) (mg := mg) (base := base) F_NoTable hS (On 3 (by decide)).ecl ((On 3 (by decide)).noA "name" (by decide))
  have k_NoTable : Mkr P w K mg base "NoTable" (cA K 3) 1 ["self", "name"] (spIni (cA K 3) 1 (one "name")) := ⟨⟨iA K 3, q_NoTable, (On 3 (by decide)).ecl, (On 3 (by decide)).ini, (On 3 (by decide)).fnc, G_NoTable, b_NoTable, g_NoTable⟩⟩
  have kk_NoTable : MkrK P w K mg base "NoTable" (cA K 3) 1 ["self", "name"] ["name"] same1 (spIni (cA K 3) 1 (one "name")) := ⟨⟨iA K 3, q_NoTable, (On 3 (by decide)).ecl, (On 3 (by decide)).ini, (On 3 (by decide)).fnc, G_NoTable, w_NoTable, g_NoTable⟩⟩
  have G_NoColumn := ini_NoColumn (P := P) (w := w) (mg := mg) (base := base) F_NoColumn hS (On 4 (by decide)).ecl ((On 4 (by decide)).noA "name" (by decide))
  have k_NoColumn : Mkr P w K mg base "NoColumn" (cA K 4) 1 ["self", "name"] (spIni (cA K 4) 1 (one "name")) := ⟨⟨iA K 4, q_NoColumn, (On 4 (by decide)).ecl, (On 4 (by decide)).ini, (On 4 (by decide)).fnc, G_NoColumn, b_NoColumn, g_NoColumn⟩⟩
  have kk_NoColumn : MkrK P w K mg base "NoColumn" (cA K 4) 1 ["self", "name"] ["name"] same1 (spIni (cA K 4) 1 (one "name")) := ⟨⟨iA K 4, q_NoColumn, (On 4 (by decide)).ecl, (On 4 (by decide)).ini, (On 4 (by decide)).fnc, G_NoColumn, w_NoColumn, g_NoColumn⟩⟩
  have G_BadRow := ini_BadRow (P := P) (w := w) (mg := mg) (base := base) F_BadRow hS (On 5 (by decide)).ecl ((On 5 (by decide)).noA "column" (by decide))
  have k_BadRow : Mkr P w K mg base "BadRow" (cA K 5) 1 ["self", "column"] (spIni (cA K 5) 1 (one "column")) := ⟨⟨iA K 5, q_BadRow, (On 5 (by decide)).ecl, (On 5 (by decide)).ini, (On 5 (by decide)).fnc, G_BadRow, b_BadRow, g_BadRow⟩⟩
  have kk_BadRow : MkrK P w K mg base "BadRow" (cA K 5) 1 ["self", "column"] ["column"] same1 (spIni (cA K 5) 1 (one "column")) := ⟨⟨iA K 5, q_BadRow, (On 5 (by decide)).ecl, (On 5 (by decide)).ini, (On 5 (by decide)).fnc, G_BadRow, w_BadRow, g_BadRow⟩⟩
  have G_KeyTaken := ini_KeyTaken (P := P) (w := w) (mg := mg) (base := base) F_KeyTaken hS (On 6 (by decide)).ecl ((On 6 (by decide)).noA "column" (by decide))
  have k_KeyTaken : Mkr P w K mg base "KeyTaken" (cA K 6) 1 ["self", "column"] (spIni (cA K 6) 1 (one "column")) := ⟨⟨iA K 6, q_KeyTaken, (On 6 (by decide)).ecl, (On 6 (by decide)).ini, (On 6 (by decide)).fnc, G_KeyTaken, b_KeyTaken, g_KeyTaken⟩⟩
  have kk_KeyTaken : MkrK P w K mg base "KeyTaken" (cA K 6) 1 ["self", "column"] ["column"] same1 (spIni (cA K 6) 1 (one "column")) := ⟨⟨iA K 6, q_KeyTaken, (On 6 (by decide)).ecl, (On 6 (by decide)).ini, (On 6 (by decide)).fnc, G_KeyTaken, w_KeyTaken, g_KeyTaken⟩⟩
  have G_NoRow := ini_NoRow (P := P) (w := w) (mg := mg) (base := base) F_NoRow hS (On 7 (by decide)).ecl ((On 7 (by decide)).noA "number" (by decide))
  have k_NoRow : Mkr P w K mg base "NoRow" (cA K 7) 1 ["self", "number"] (spIni (cA K 7) 1 (one "number")) := ⟨⟨iA K 7, q_NoRow, (On 7 (by decide)).ecl, (On 7 (by decide)).ini, (On 7 (by decide)).fnc, G_NoRow, b_NoRow, g_NoRow⟩⟩
  have kk_NoRow : MkrK P w K mg base "NoRow" (cA K 7) 1 ["self", "number"] ["number"] same1 (spIni (cA K 7) 1 (one "number")) := ⟨⟨iA K 7, q_NoRow, (On 7 (by decide)).ecl, (On 7 (by decide)).ini, (On 7 (by decide)).fnc, G_NoRow, w_NoRow, g_NoRow⟩⟩
  have G_TooGreat := ini_TooGreat (P := P) (w := w) (mg := mg) (base := base) F_TooGreat hS (On 8 (by decide)).ecl ((On 8 (by decide)).noA "limit" (by decide))
  have k_TooGreat : Mkr P w K mg base "TooGreat" (cA K 8) 1 ["self", "limit"] (spIni (cA K 8) 1 (one "limit")) := ⟨⟨iA K 8, q_TooGreat, (On 8 (by decide)).ecl, (On 8 (by decide)).ini, (On 8 (by decide)).fnc, G_TooGreat, b_TooGreat, g_TooGreat⟩⟩
  have kk_TooGreat : MkrK P w K mg base "TooGreat" (cA K 8) 1 ["self", "limit"] ["limit"] same1 (spIni (cA K 8) 1 (one "limit")) := ⟨⟨iA K 8, q_TooGreat, (On 8 (by decide)).ecl, (On 8 (by decide)).ini, (On 8 (by decide)).fnc, G_TooGreat, w_TooGreat, g_TooGreat⟩⟩
  have G_Outdated := ini_Outdated (P := P) (w := w) (mg := mg) (base := base) F_Outdated hS (On 9 (by decide)).ecl ((On 9 (by decide)).noA "fact" (by decide))
  have k_Outdated : Mkr P w K mg base "Outdated" (cA K 9) 1 ["self", "fact"] (spIni (cA K 9) 1 (one "fact")) := ⟨⟨iA K 9, q_Outdated, (On 9 (by decide)).ecl, (On 9 (by decide)).ini, (On 9 (by decide)).fnc, G_Outdated, b_Outdated, g_Outdated⟩⟩
  have kk_Outdated : MkrK P w K mg base "Outdated" (cA K 9) 1 ["self", "fact"] ["fact"] same1 (spIni (cA K 9) 1 (one "fact")) := ⟨⟨iA K 9, q_Outdated, (On 9 (by decide)).ecl, (On 9 (by decide)).ini, (On 9 (by decide)).fnc, G_Outdated, w_Outdated, g_Outdated⟩⟩
  have G_NoGoal := ini_NoGoal (P := P) (w := w) (mg := mg) (base := base) F_NoGoal hS (On 10 (by decide)).ecl ((On 10 (by decide)).noA "number" (by decide))
  have k_NoGoal : Mkr P w K mg base "NoGoal" (cA K 10) 1 ["self", "number"] (spIni (cA K 10) 1 (one "number")) := ⟨⟨iA K 10, q_NoGoal, (On 10 (by decide)).ecl, (On 10 (by decide)).ini, (On 10 (by decide)).fnc, G_NoGoal, b_NoGoal, g_NoGoal⟩⟩
  have kk_NoGoal : MkrK P w K mg base "NoGoal" (cA K 10) 1 ["self", "number"] ["number"] same1 (spIni (cA K 10) 1 (one "number")) := ⟨⟨iA K 10, q_NoGoal, (On 10 (by decide)).ecl, (On 10 (by decide)).ini, (On 10 (by decide)).fnc, G_NoGoal, w_NoGoal, g_NoGoal⟩⟩
  have G_NoCourse := ini_NoCourse (P := P) (w := w) (mg := mg) (base := base) F_NoCourse hS (On 11 (by decide)).ecl ((On 11 (by decide)).noA "number" (by decide))
  have k_NoCourse : Mkr P w K mg base "NoCourse" (cA K 11) 1 ["self", "number"] (spIni (cA K 11) 1 (one "number")) := ⟨⟨iA K 11, q_NoCourse, (On 11 (by decide)).ecl, (On 11 (by decide)).ini, (On 11 (by decide)).fnc, G_NoCourse, b_NoCourse, g_NoCourse⟩⟩
  have kk_NoCourse : MkrK P w K mg base "NoCourse" (cA K 11) 1 ["self", "number"] ["number"] same1 (spIni (cA K 11) 1 (one "number")) := ⟨⟨iA K 11, q_NoCourse, (On 11 (by decide)).ecl, (On 11 (by decide)).ini, (On 11 (by decide)).fnc, G_NoCourse, w_NoCourse, g_NoCourse⟩⟩
  have G_NoQuestion := ini_NoQuestion (P := P) (w := w) (mg := mg) (base := base) (C := cA K 12) F_NoQuestion hS
  have k_NoQuestion : Mkr P w K mg base "NoQuestion" (cA K 12) 1 ["self"] (spNo (cA K 12)) := ⟨⟨iA K 12, q_NoQuestion, (On 12 (by decide)).ecl, (On 12 (by decide)).ini, (On 12 (by decide)).fnc, G_NoQuestion, b_NoQuestion, g_NoQuestion⟩⟩
  have G_NotPlain := ini_NotPlain (P := P) (w := w) (mg := mg) (base := base) (C := cA K 13) F_NotPlain hS
  have k_NotPlain : Mkr P w K mg base "NotPlain" (cA K 13) 1 ["self"] (spNo (cA K 13)) := ⟨⟨iA K 13, q_NotPlain, (On 13 (by decide)).ecl, (On 13 (by decide)).ini, (On 13 (by decide)).fnc, G_NotPlain, b_NotPlain, g_NotPlain⟩⟩
  have G_NoPlan := ini_NoPlan (P := P) (w := w) (mg := mg) (base := base) (C := cA K 14) F_NoPlan hS
  have k_NoPlan : Mkr P w K mg base "NoPlan" (cA K 14) 1 ["self"] (spNo (cA K 14)) := ⟨⟨iA K 14, q_NoPlan, (On 14 (by decide)).ecl, (On 14 (by decide)).ini, (On 14 (by decide)).fnc, G_NoPlan, b_NoPlan, g_NoPlan⟩⟩
  have G_InvalidText := ini_InvalidText (P := P) (w := w) (mg := mg) (base := base) (C := cA K 15) F_InvalidText hS
  have k_InvalidText : Mkr P w K mg base "InvalidText" (cA K 15) 1 ["self"] (spNo (cA K 15)) := ⟨⟨iA K 15, q_InvalidText, (On 15 (by decide)).ecl, (On 15 (by decide)).ini, (On 15 (by decide)).fnc, G_InvalidText, b_InvalidText, g_InvalidText⟩⟩
  have G_InvalidCommand := ini_InvalidCommand (P := P) (w := w) (mg := mg) (base := base) (C := cA K 16) F_InvalidCommand hS
  have k_InvalidCommand : Mkr P w K mg base "InvalidCommand" (cA K 16) 1 ["self"] (spNo (cA K 16)) := ⟨⟨iA K 16, q_InvalidCommand, (On 16 (by decide)).ecl, (On 16 (by decide)).ini, (On 16 (by decide)).fnc, G_InvalidCommand, b_InvalidCommand, g_InvalidCommand⟩⟩
  have G_NothingAsked := ini_NothingAsked (P := P) (w := w) (mg := mg) (base := base) (C := cA K 17) F_NothingAsked hS
  have k_NothingAsked : Mkr P w K mg base "NothingAsked" (cA K 17) 1 ["self"] (spNo (cA K 17)) := ⟨⟨iA K 17, q_NothingAsked, (On 17 (by decide)).ecl, (On 17 (by decide)).ini, (On 17 (by decide)).fnc, G_NothingAsked, b_NothingAsked, g_NothingAsked⟩⟩
  have G_NoRun := ini_NoRun (P := P) (w := w) (mg := mg) (base := base) (C := cA K 18) F_NoRun hS
  have k_NoRun : Mkr P w K mg base "NoRun" (cA K 18) 1 ["self"] (spNo (cA K 18)) := ⟨⟨iA K 18, q_NoRun, (On 18 (by decide)).ecl, (On 18 (by decide)).ini, (On 18 (by decide)).fnc, G_NoRun, b_NoRun, g_NoRun⟩⟩
  have G__law_deck := ok__law_deck (P := P) (w := w) (mg := mg) (base := base) F__law_deck hS B
  have c__law_deck : Cal P w K mg base _ "_law_deck" ["_law_script"] _ := ⟨⟨_, _, G__law_deck, g__law_deck, F__law_deck.kp, b__law_deck⟩⟩
  have G__law_draw := ok__law_draw (P := P) (w := w) (mg := mg) (base := base) F__law_draw hS B
  have c__law_draw : Cal P w K mg base _ "_law_draw" ["_law_deck_here", "_law_many"] _ := ⟨⟨_, _, G__law_draw, g__law_draw, F__law_draw.kp, b__law_draw⟩⟩
  have G__law_pick := ok__law_pick (P := P) (w := w) (mg := mg) (base := base) F__law_pick hS B c__law_draw
  have c__law_pick : Cal P w K mg base _ "_law_pick" ["_law_deck_here", "_law_some"] _ := ⟨⟨_, _, G__law_pick, g__law_pick, F__law_pick.kp, b__law_pick⟩⟩
  have t0 : FnG P w K mg base CX0 2 (He.fAd K dd__law_thing.at_) q__law_thing ["_law_deck_here", "_law_deep"] (spThingP 0) := ⟨fun _ _ _ _ z => z.elim, fun _ _ _ _ _ _ _ _ _ _ _ _ _ _ z => z.elim⟩
  have t1 := ok__law_thing (P := P) (w := w) (mg := mg) (base := base) 0 F__law_thing hS B c__law_draw c__law_pick ⟨⟨_, _, t0, g__law_thing, F__law_thing.kp, b__law_thing⟩⟩
  have t2 := ok__law_thing (P := P) (w := w) (mg := mg) (base := base) 1 F__law_thing hS B c__law_draw c__law_pick ⟨⟨_, _, t1, g__law_thing, F__law_thing.kp, b__law_thing⟩⟩
  have t3 := ok__law_thing (P := P) (w := w) (mg := mg) (base := base) 2 F__law_thing hS B c__law_draw c__law_pick ⟨⟨_, _, t2, g__law_thing, F__law_thing.kp, b__law_thing⟩⟩
  have t4 := ok__law_thing (P := P) (w := w) (mg := mg) (base := base) 3 F__law_thing hS B c__law_draw c__law_pick ⟨⟨_, _, t3, g__law_thing, F__law_thing.kp, b__law_thing⟩⟩
  have c__law_thing : Cal P w K mg base 6 "_law_thing" ["_law_deck_here", "_law_deep"] (spThing 3) := ⟨⟨_, _, t4, g__law_thing, F__law_thing.kp, b__law_thing⟩⟩
  have G__law_own_kinds := ok__law_own_kinds (P := P) (w := w) (mg := mg) (base := base) F__law_own_kinds hS B.isinstance Kt
  have c__law_own_kinds : Cal P w K mg base _ "_law_own_kinds" ["_law_e"] _ := ⟨⟨_, _, G__law_own_kinds, g__law_own_kinds, F__law_own_kinds.kp, b__law_own_kinds⟩⟩
  have G__law_other_kinds := ok__law_other_kinds (P := P) (w := w) (mg := mg) (base := base) F__law_other_kinds hS B.isinstance Kt
  have c__law_other_kinds : Cal P w K mg base _ "_law_other_kinds" ["_law_e"] _ := ⟨⟨_, _, G__law_other_kinds, g__law_other_kinds, F__law_other_kinds.kp, b__law_other_kinds⟩⟩
  have G__law_made := ok__law_made (P := P) (w := w) (mg := mg) (base := base) F__law_made hS Kt k_Failed k_NameTaken k_BadTable k_NoTable k_NoColumn k_BadRow k_KeyTaken k_NoRow k_TooGreat k_Outdated k_NoGoal k_NoCourse k_NoQuestion k_NotPlain k_NoPlan k_InvalidText k_InvalidCommand k_NothingAsked k_NoRun
  have c__law_made : Cal P w K mg base _ "_law_made" ["_law_which", "_law_things"] _ := ⟨⟨_, _, G__law_made, g__law_made, F__law_made.kp, b__law_made⟩⟩
  have G__law_by_name := ok__law_by_name (P := P) (w := w) (mg := mg) (base := base) F__law_by_name hS Kt kk_Failed kk_NameTaken kk_BadTable kk_NoTable kk_NoColumn kk_BadRow kk_KeyTaken kk_NoRow kk_TooGreat kk_Outdated kk_NoGoal kk_NoCourse
  have c__law_by_name : Cal P w K mg base _ "_law_by_name" ["_law_things"] _ := ⟨⟨_, _, G__law_by_name, g__law_by_name, F__law_by_name.kp, b__law_by_name⟩⟩
  have G__law_first_raised := ok__law_first_raised (P := P) (w := w) (mg := mg) (base := base) F__law_first_raised hS Kt k_Failed k_NameTaken k_BadTable k_NoTable k_NoColumn k_BadRow k_KeyTaken k_NoRow k_TooGreat k_Outdated k_NoGoal k_NoCourse
  have G__law_raised := ok__law_raised (P := P) (w := w) (mg := mg) (base := base) F__law_raised hS Kt G__law_first_raised g__law_first_raised F__law_first_raised.kp b__law_first_raised k_NoQuestion k_NotPlain k_NoPlan k_InvalidText k_InvalidCommand k_NothingAsked k_NoRun
  have G__law_caught := ok__law_caught (P := P) (w := w) (mg := mg) (base := base) F__law_caught hS B Kt G__law_raised g__law_raised F__law_raised.kp b__law_raised
    (fun hi hc hd hf => okP__law_own_kinds F__law_own_kinds B.isinstance Kt hi hc hd hf) g__law_own_kinds F__law_own_kinds.kp b__law_own_kinds
    (fun hi hc hd hf => okP__law_other_kinds F__law_other_kinds B.isinstance Kt hi hc hd hf) g__law_other_kinds F__law_other_kinds.kp b__law_other_kinds
  have c__law_caught : Cal P w K mg base _ "_law_caught" ["_law_which", "_law_things"] _ := ⟨⟨_, _, G__law_caught, g__law_caught, F__law_caught.kp, b__law_caught⟩⟩
  have G__law_right := ok__law_right (P := P) (w := w) (mg := mg) (base := base) F__law_right hS B Kt c__law_made c__law_own_kinds c__law_other_kinds c__law_caught
  have c__law_right : Cal P w K mg base _ "_law_right" ["_law_which", "_law_things"] _ := ⟨⟨_, _, G__law_right, g__law_right, F__law_right.kp, b__law_right⟩⟩
  exact ok_law F_law hS B c__law_deck c__law_thing c__law_right c__law_by_name
end K01
open PySem PySem.W PySem.Calls PyProof.Rows
theorem PySem.Challenge.cw_failsalike_k01_errors_holds : PySem.Challenge.rw_failsalike_k01_errors.Holds := by
  w_on; o_law
  refine HandSHeadRun.head_any (r := OpenLaw.row PySem.Challenge.rw_failsalike_k01_errors) (q := view (OpenLaw.row PySem.Challenge.rw_failsalike_k01_errors).prog [34]) (H := K01.hk) (ob := K01.ob) (M := 6000) (loose := K01.loose) (d := HandSHeadRun.topDef (OpenLaw.row PySem.Challenge.rw_failsalike_k01_errors).prog 34) (kwd := []) K01.ob_eq
    (by kernel_rfl) (fun s => by kernel_rfl) K01.run (by kernel_rfl) (by kernel_rfl) (by kernel_rfl) (by rfl) (by first | assumption | decide +kernel) (by decide +kernel) ⟨rfl, rfl, rfl, rfl, rfl, by decide +kernel⟩ ?hw ?hc
  case hw => w_witness2
  case hc =>
    refine FA.walkE (l := PySem.Challenge.rw_failsalike_k01_errors) (n := 63) (k := 7) (x := "_law_script") (CX := L2.CX0) rfl (by decide) (by kernel_rfl) ⟨rfl, by decide, by decide⟩ ?F (fun _ _ _ _ z => z)
    intro w mg fa h Y G hmg0
    obtain ⟨⟨K, KX, c, kb⟩, hsys⟩ := Y
    have hmg : mg ("law" : PySem.Str) = some (.ref fa) := by
      have e : (HandSHeadRun.topDef (OpenLaw.row PySem.Challenge.rw_failsalike_k01_errors).prog 34).name = ("law" : PySem.Str) := by kernel_rfl
      rw [← e]
      exact hmg0
    obtain ⟨fd, hb, hF⟩ := K01.facts (P := (PySem.Challenge.rw_failsalike_k01_errors).prog) (w := w) KX G hmg c kb
    exact ⟨K, fd, K01.spLaw K, KX, hsys, hb, fun H a ns hl _ hS => ⟨a, ns, rfl, hS, hl, fun _ => rfl⟩, hF⟩
end
