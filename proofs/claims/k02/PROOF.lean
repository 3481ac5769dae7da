import PyProof.Rows.All
import Wide.All
import OpenK.AllK
import Wide.FinOn
import HandS.Base
import HandS.Call
import HandS.List
import HandS.Dict
import HandS.Ends
import HandS.Words
import PyProof.ReprRoads
import HandS.Defaults
import HandS.Comp
import HandS.Head0
import HandS.Head1
import HandS.Head2
import HandS.HeadEnd
import HandS.HeadHook1
import HandS.HeadHook2
import HandS.IsInst
import HandS.Text
import HandS.Conv
import HandS.Iter
import HandS.Walk
import HandS.Wide
import HandS.Style
import PyProof.StrBlock2
import KE.LtData
import PySem.Challenge.RW_failsalike_k02_values_and_kinds
set_option Elab.async false
set_option linter.all false
set_option maxRecDepth 100000
set_option maxHeartbeats 0
/-! G1 -/
section
namespace FA
open PySem PySem.Spec PyProof.Rows L2

/-! data that stand in the abstract heap -/
def keyD : Key → PyData
  | .inl i => .int i
  | .inr z => .str z
mutual
def Dat (H : Hp) : PyData → V → Prop
  | .none, v => v = .non
  | .bool b, v => v = .bl b
  | .int i, v => v = .int i
  | .str x, v => v = .str x
  | .list ds, v => ∃ a xs, v = .ref a ∧ H a = some (.lst xs) ∧ DatAll H ds xs
  | .tuple ds, v => ∃ a xs, v = .ref a ∧ H a = some (.tup xs) ∧ DatAll H ds xs
  | .dict kvs, v => ∃ a es, v = .ref a ∧ H a = some (.dK es) ∧ DatKv H kvs es
def DatAll (H : Hp) : List PyData → List V → Prop
  | [], xs => xs = []
  | d :: ds, xs => ∃ y ys, xs = y :: ys ∧ Dat H d y ∧ DatAll H ds ys
def DatKv (H : Hp) : List (PyData × PyData) → List (Key × V) → Prop
  | [], xs => xs = []
  | (k, d) :: ds, xs => ∃ c y ys, xs = (c, y) :: ys ∧ k = keyD c ∧ Dat H d y ∧ DatKv H ds ys
end

section
variable {P : Program} {w : World} {H : Hp} {h : Heap}
theorem reads_key {c : Key} {u : Value} (q : keyIs c u = true) : Reads h u (keyD c) [] := by
  rcases keyIs_shape q with ⟨i, t, rfl, rfl⟩ | ⟨z, t, rfl, rfl⟩
  · exact .int i t
  · exact .str z t
mutual
theorem reads_of (ok : HOk P w H h) : ∀ (d : PyData) (v : V) (u : Value), Dat H d v → RelV v u → ∃ as, Reads h u d as ∧ ∀ b ∈ as, H b ≠ none
  | .none, v, u, e, r => by
    simp only [Dat] at e; subst e
    obtain rfl : u = .none := r
    exact ⟨[], .none, by simp⟩
  | .bool b, v, u, e, r => by
    simp only [Dat] at e; subst e
    obtain rfl : u = .bool b := r
    exact ⟨[], .bool b, by simp⟩
  | .int i, v, u, e, r => by
    simp only [Dat] at e; subst e
    obtain ⟨t, rfl⟩ : ∃ t, u = .int i t := r
    exact ⟨[], .int i t, by simp⟩
  | .str x, v, u, e, r => by
    simp only [Dat] at e; subst e
    obtain ⟨t, rfl⟩ : ∃ t, u = .str x t := r
    exact ⟨[], .str x t, by simp⟩
  | .list ds, v, u, e, r => by
    simp only [Dat] at e
    obtain ⟨a, xs, rfl, ha, hd⟩ := e
    obtain rfl : u = .ref a := r
    obtain ⟨_, its, n, rv, g⟩ := ok a _ ha
    obtain ⟨as, h1, h2⟩ := readsAll_of ok ds xs its hd rv
    refine ⟨a :: as, .list g rfl rfl (by simpa using h1), fun b hb => ?_⟩
    rcases List.mem_cons.mp hb with rfl | hb
    · rw [ha]; simp
    · exact h2 b hb
  | .tuple ds, v, u, e, r => by
    simp only [Dat] at e
    obtain ⟨a, xs, rfl, ha, hd⟩ := e
    obtain rfl : u = .ref a := r
    obtain ⟨_, its, rv, o, g, hc, n, hn⟩ := ok a _ ha
    obtain ⟨as, h1, h2⟩ := readsAll_of ok ds xs its hd rv
    exact ⟨as, .tuple g hc hn (by simpa using h1), h2⟩
  | .dict kvs, v, u, e, r => by
    simp only [Dat] at e
    obtain ⟨a, es, rfl, ha, hd⟩ := e
    obtain rfl : u = .ref a := r
    obtain ⟨_, _, vs, rel, o, ents, ep, g, hx, hdat, _, prs, _⟩ := ok a _ ha
    obtain ⟨as, bs, h1, h2, h3, h4⟩ := readsKv_of ok kvs es vs ents.toList hd rel prs
    refine ⟨a :: as ++ bs, .dict g (by first | exact hx.1 | exact hx.cls) hdat h1 h2, fun b hb => ?_⟩
    rcases List.mem_append.mp hb with hb | hb
    · rcases List.mem_cons.mp hb with rfl | hb
      · rw [ha]; simp
      · exact h3 b hb
    · exact h4 b hb
theorem readsAll_of (ok : HOk P w H h) : ∀ (ds : List PyData) (xs : List V) (us : List Value), DatAll H ds xs → Vals xs us → ∃ as, ReadsAll h us ds as ∧ ∀ b ∈ as, H b ≠ none
  | [], xs, us, e, r => by
    simp only [DatAll] at e; subst e
    cases r
    exact ⟨[], .nil, by simp⟩
  | d :: ds, xs, us, e, r => by
    simp only [DatAll] at e
    obtain ⟨y, ys, rfl, hy, hys⟩ := e
    cases r with
    | cons r1 r2 =>
      obtain ⟨as, h1, h2⟩ := reads_of ok d y _ hy r1
      obtain ⟨bs, h3, h4⟩ := readsAll_of ok ds ys _ hys r2
      exact ⟨as ++ bs, .cons h1 h3, fun b hb => (List.mem_append.mp hb).elim (h2 b) (h4 b)⟩
theorem readsKv_of (ok : HOk P w H h) : ∀ (kvs : List (PyData × PyData)) (es : List (Key × V)) (vs : List (Key × Value)) (ents : List DictEntry), DatKv H kvs es → KV es vs → PySem.Pairs (mixKind P w) ents vs →
    ∃ as bs, ReadsAll h (ents.map (·.key)) (kvs.map (·.1)) as ∧ ReadsAll h (ents.map (·.val)) (kvs.map (·.2)) bs ∧ (∀ b ∈ as, H b ≠ none) ∧ ∀ b ∈ bs, H b ≠ none
  | [], es, vs, ents, e, r, p => by
    simp only [DatKv] at e; subst e
    cases r
    cases p
    exact ⟨[], [], .nil, .nil, by simp, by simp⟩
  | (k, d) :: ds, es, vs, ents, e, r, p => by
    simp only [DatKv] at e
    obtain ⟨c, y, ys, rfl, rfl, hy, hys⟩ := e
    cases r with
    | cons r1 r2 =>
      cases p with
      | cons p1 p2 p3 =>
        obtain ⟨e1, e2⟩ := r1
        dsimp only at e1 e2
        obtain ⟨as, h1, h2⟩ := reads_of ok d y _ hy e2
        obtain ⟨cs, bs, h3, h4, h5, h6⟩ := readsKv_of ok ds ys _ _ hys r2 p3
        refine ⟨[] ++ cs, as ++ bs, .cons ?_ h3, .cons ?_ h4, by simpa using h5, fun b hb => (List.mem_append.mp hb).elim (h2 b) (h6 b)⟩
        · show Reads h _ (keyD c) []
          rw [e1]
          exact reads_key p1
        · rw [← p2] at h1
          exact h1
end
end

section
variable {X : Cx}
/-- what repr asks of the program's text: the table of modules is no object of the law's own -/
def NoSys (X : Cx) : Prop := ∃ o, X.base.get? sysModules = some o
theorem repr_any {prog : Program} {w : World} {A : Around} {E : Value → Shared → Prop} {s : Shared} {Q : Value → Shared → Prop} {u : Value} {d : PyData} {as : List Addr}
    (r : Reads s.heap u d as) (hs : d.showable = true) (hsm : d.hasDict = true → sysModules ∉ as) (hg : A.guards = some []) (hu : A.units + (d.depth + 1) < cLine)
    (hQ : ∀ h' t tk, (∀ b o, s.heap.get? b = some o → h'.get? b = some o) → Q (.str d.shown t) { s with heap := h', toks := tk })
    (hsz : d.shown.length ≤ sizeLine) : wpAny (model prog w) A (call (.builtin "repr") [u]) Q E s := by
  cases u with
  | ref a => exact repr_of_reads' r hs hsm hg hu (fun _ _ e => e) hQ hsz
  | none => cases r; exact PySem.P.repr_of_none (hQ s.heap _ _ fun _ _ e => e)
  | bool b => cases r; exact PySem.P.repr_of_bool (by
      have z := hQ s.heap s.toks (s.toks + 1) fun _ _ e => e
      cases b <;> exact z)
  | int i t => cases r; exact PySem.P.repr_of_int (by simpa [PyData.showable] using hs) (hQ s.heap _ _ fun _ _ e => e)
  | str x t => cases r; exact PySem.P.repr_of_str (hQ s.heap _ _ fun _ _ e => e) hsz
  | _ => cases r
def rRepr : List V → Hp → VK → Prop := fun xs H Q => ∃ v d, xs = [v] ∧ Dat H d v ∧ d.showable = true ∧ d.depth ≤ 60 ∧ d.shown.length ≤ sizeLine ∧ Q (.str d.shown) H
theorem call_reprA {k : Nat} (hg : X.A.guards = some []) (hr : Room k X.A) (hS : NoSys X) : CallR X (.builtin "repr") rRepr := by
  intro pins s σ H xs us Q I r h
  obtain ⟨v, d, rfl, hd, hs, hdp, hz, q⟩ := h
  obtain ⟨u, rfl, ru⟩ := vals1 r
  obtain ⟨as, hR, hT⟩ := reads_of I.hok d _ _ hd ru
  have hsm : d.hasDict = true → sysModules ∉ as := fun _ hm => by
    obtain ⟨o, ho⟩ := hS
    exact hT _ hm (I.bs _ _ ho).2
  have hu := hr.units
  exact repr_any hR hs hsm hg (by omega) (fun h' t tk hk => ⟨.str _, H, I.kept hk, ⟨t, rfl⟩, q⟩) hz
end
end FA
end

/-! G2 -/
section
namespace FA
open PySem PySem.Spec PyProof.Rows L2

/-- a def's promise where no repr is under way around it -/
structure FnG (P : Program) (w : World) (K : PySem.W.Frag) (mg : Str → Option Value)
    (base : Heap) (CX : CXT) (k : Nat) (f : Addr) (fd : FuncData) (ps : List Str) (sp : Sp) : Prop where
  size : ∀ vs H Q E, sp vs H Q E → vs.length = ps.length
  go : ∀ (A : Around) (outer : List Env) (s : Shared) (H : Hp) (args : Args) (us : List Value) (vs : List V)
    (Q : VK) (E : XK), Room k A → A.guards = some [] → Env0 P w K mg base A outer s H →
    BindsTo s fd args (ps.zip us) → Vals vs us → sp vs H Q E →
    codeAny (model P w) A (.call (.ref f) args) (CR CX outer P w H s Q E) s
section
variable {P : Program} {w : World} {K : PySem.W.Frag} {mg : Str → Option Value} {base : Heap} {CX : CXT}
  {f : Addr} {fd : FuncData} {ps : List Str} {sp sp' : Sp}
theorem FnG.more {j k : Nat} (F : FnG P w K mg base CX j f fd ps sp) (h : j ≤ k) : FnG P w K mg base CX k f fd ps sp where
  size := F.size
  go := fun A outer s H args us vs Q E hr hg e b v z => F.go A outer s H args us vs Q E (hr.mono h) hg e b v z
theorem FnG.weak {k : Nat} (F : FnG P w K mg base CX k f fd ps sp) (h : ∀ vs H Q E, sp' vs H Q E → sp vs H Q E) :
    FnG P w K mg base CX k f fd ps sp' where
  size := fun vs H Q E z => F.size vs H Q E (h _ _ _ _ z)
  go := fun A outer s H args us vs Q E hr hg e b v z => F.go A outer s H args us vs Q E hr hg e b v (h _ _ _ _ z)
theorem FnG.of {k : Nat} (F : FnOk P w K mg base CX k f fd ps sp) : FnG P w K mg base CX k f fd ps sp where
  size := F.len
  go := fun A outer s H args us vs Q E hr _ e b v z => F.run A outer s H args us vs Q E hr e b v z

/-- a def by its body -/
theorem fnG_of {k : Nat} {name qual : Str} {params : Arguments} {body : List Stmt} {scope : Scope}
    {dV kV doc pm cdv ct oc : Value} {an od : Option Addr} {osl : Array (Option Value)} {N : List Str}
    (lk : K.lookup f = some ⟨oc, od, .func (PySem.W.fnOf name qual params body scope dV kV doc pm an cdv ct), osl⟩)
    (hcd : PySem.W.codeIn K cdv qual = true) (S : FnScope N ps scope)
    (size : ∀ vs H Q E, sp vs H Q E → vs.length = ps.length)
    (hb : ∀ (A : Around) (outer : List Env) (s : Shared) (H : Hp) (vs : List V) (Q : VK) (E : XK),
      Room k (A.deeper (envOfC qual scope s.heap.objs.size f cdv)) → A.guards = some [] → sp vs H Q E →
      ∃ t, PSs (cxOf CX P w K mg base N qual scope f cdv A outer s H E) body t ∧
        t { nx := fun _ H' => Q .non H', rt := Q } (start N vs) H) :
    FnG P w K mg base CX (k + 1) f (PySem.W.fnOf name qual params body scope dV kV doc pm an cdv ct) ps sp where
  size := size
  go := by
    intro A outer s H args us vs Q E hr hg e0 bnd rv hsp
    have len := size _ _ _ _ hsp
    have kin : K.In s.heap := e0.mod.kin.keeps (fun b o z => (e0.bs b o z).1)
    have nolim : s.heap.NoLimit := e0.mod.nolimit.keeps (fun b o z => (e0.bs b o z).1)
    have names : ∀ y ∈ ps.zip us, scope.names.lookup y.1 = some .local ∨
        (scope.names.lookup y.1 = some .cell ∧
          ((cellsFrom (s.heap.objs.size + 1) scope.names []).lookup y.1).isSome = true) := by
      rintro ⟨n, v⟩ hy
      have hn := (List.of_mem_zip hy).1
      rcases S.par n hn with z | z
      · exact Or.inl z
      · exact Or.inr ⟨z, PySem.W.cellsFrom_some _ _ _ (Or.inl z)⟩
    apply codeAny_call_function hr.depth (kin _ _ lk) rfl S.co S.gen rfl (PySem.W.codeRec_of kin hcd) (bnd _ _ _ _ ?_)
    apply wpAny_newFunctionEnv_cells S.kind names
    intro env he s1 x
    subst he
    refine ⟨nolim.keeps x.toInCall.keep, codeAny_func ?_⟩
    obtain ⟨t, ht, hq⟩ := hb A outer s H vs Q E (hr.deeper _) hg hsp
    have I := inv_start (CX := CX) (P := P) (w := w) (K := K) (mg := mg) (base := base) (E := E) (cd := cdv) S hr.hd e0 len rv x
    refine wpAny_mono (ht.run [] s1 (start N vs) H _ I hq) ?_ (fun e s' z => z)
    intro fl s' hs
    cases fl with
    | brk =>
      obtain ⟨_, _, _, z⟩ := hs
      exact z.elim
    | cont =>
      obtain ⟨_, _, _, z⟩ := hs
      exact z.elim
    | ret u =>
      obtain ⟨v, σ', H', J, r1, z⟩ := hs
      exact ⟨v, H', J.os, J.bare, J.base, J.hok, r1, z⟩
    | next =>
      obtain ⟨σ', H', J, z⟩ := hs
      exact ⟨V.non, H', J.os, J.bare, J.base, J.hok, (rfl : Value.none = Value.none), z⟩
/-- .. that lets no exception out -/
theorem okG {x qual : Str} {st : Stmt} {N : List Str} {k : Nat} (F : Fun K x qual st f fd) (S : FnScope N ps (defScope st))
    (size : ∀ vs H Q E, sp vs H Q E → vs.length = ps.length)
    (hb : ∀ (cdv : Value) (A : Around) (outer : List Env) (s : Shared) (H : Hp) (vs : List V) (Q : VK) (E : XK),
      Room k (A.deeper (envOfC qual (defScope st) s.heap.objs.size f cdv)) → A.guards = some [] → sp vs H Q E →
      ∃ t, PSs (cxOf CX0 P w K mg base N qual (defScope st) f cdv A outer s H E).nox (defBody st) t ∧
        t { nx := fun _ H' => Q .non H', rt := Q } (start N vs) H) : FnG P w K mg base CX0 (k + 1) f fd ps sp := by
  obtain ⟨oc, od, kV, doc, pm, an, cdv, ct, osl, rfl, lk, hcd⟩ := F.ex
  refine fnG_of lk hcd S size ?_
  intro A outer s H vs Q E hr hg hsp
  obtain ⟨t, h, q⟩ := hb cdv A outer s H vs Q E hr hg hsp
  exact ⟨t, h.nox, q⟩
end

section
variable {X : Cx} {CX : CXT} {k : Nat} {f : Addr} {fd : FuncData} {ps : List Str} {sp : Sp} {dvs : List V} {ds : List Value}
  {E : XK} {x : Str} {p pos : Pos} {e : Expr} {es : List Expr} {t : TA}
/-- what a call hands back -/
theorem endG {pins : List (Addr × Obj)} {σ : L2.St} {H : Hp} {s : Shared} {Q : VK} {args : Args}
    (hx : Passes CX X E) (I : Inv X pins σ H s) (h : codeAny (model X.prog X.w) X.A (.call (.ref f) args) (CR CX X.stack X.prog X.w H s Q E) s) :
    codeAny (model X.prog X.w) X.A (.call (.ref f) args) (fun r s' => match r with
      | .ok (.ret u) => EP X pins σ Q u s'
      | .ok _ => False
      | .error e => X.xe e s') s := by
  refine codeAny_mono h ?_
  intro r s' hq
  cases r with
  | error e => exact hx pins σ H s e s' I hq
  | ok fl =>
    cases fl with
    | ret u => exact I.after hq
    | brk => exact hq.elim
    | cont => exact hq.elim
    | next => exact hq.elim
theorem runG {pins : List (Addr × Obj)} {σ : L2.St} {H : Hp} {s : Shared} {Q : VK} {us : List Value} {vs : List V}
    (F : FnG X.prog X.w X.K X.mg X.base CX k f fd ps sp) (hg : X.A.guards = some []) (hr : Room k X.A) (hb : Binds X.K fd ps ds)
    (hd : Vals dvs ds) (hx : Passes CX X E) (I : Inv X pins σ H s) (r : Vals vs us) (h : sp (vs ++ dvs) H Q E) :
    wpAny (model X.prog X.w) X.A (call (.ref f) us) (EP X pins σ Q) X.xe s := by
  have r2 := r.append hd
  have hl : (us ++ ds).length = ps.length := r2.length.symm.trans (F.size _ _ _ _ h)
  have z := F.go X.A X.stack s H ⟨us, []⟩ (us ++ ds) (vs ++ dvs) Q E hr hg I.env0 (hb s us I.kIn hl) r2 h
  refine wpAny_call (codeAny_mono (endG (pins := pins) (σ := σ) hx I z) ?_)
  intro r s' hq
  cases r with
  | error e => exact hq
  | ok fl =>
    cases fl with
    | ret u => exact hq
    | brk => exact hq.elim
    | cont => exact hq.elim
    | next => exact hq.elim
theorem callG (F : FnG X.prog X.w X.K X.mg X.base CX k f fd ps sp) (hgd : X.A.guards = some []) (hr : Room k X.A)
    (hm : X.mg x = some (.ref f)) (hk : PySem.W.keepIn X.K (.ref f) = true) (hb : Binds X.K fd ps ds) (hd : Vals dvs ds)
    (hx : Passes CX X E) (ha : PA X (e :: es) t) (hg : Gl X x := by rfl) (hdb : (x == ("__debug__" : Str)) = false := by decide)
    (he : starEach (e :: es) X.env = (false, eval e X.env) :: starEach es X.env := by rfl)
    (hpl : (backTo pos (starEach es X.env)).any (·.1) = false := by rfl) :
    PE X (.Call (.Name x p) (e :: es) [] pos) (tCall sp dvs E t) := by
  constructor
  intro pins s σ H Q I h
  apply wpAny_Call_Name_kw (ld_glob I hg hm ?_ hdb)
  have z := ha.run pos pins s σ H _ I h
  refine PySem.W.callWith_K (h₀ := X.base) I.ok.mod.kin hk (thn z ?_) he hpl
  rintro us s1 ⟨vs, H1, I1, r, q⟩
  exact ⟨I1.kIn, runG F hgd hr hb hd hx I1 r q⟩
theorem callG0 (F : FnG X.prog X.w X.K X.mg X.base CX k f fd ps sp) (hgd : X.A.guards = some []) (hr : Room k X.A)
    (hm : X.mg x = some (.ref f)) (hk : PySem.W.keepIn X.K (.ref f) = true) (hb : Binds X.K fd ps ds) (hd : Vals dvs ds)
    (hx : Passes CX X E) (hg : Gl X x := by rfl) (hdb : (x == ("__debug__" : Str)) = false := by decide) :
    PE X (.Call (.Name x p) [] [] pos) (tCall sp dvs E tNil) := by
  constructor
  intro pins s σ H Q I h
  apply wpAny_Call_Name_kw (ld_glob I hg hm ?_ hdb)
  exact PySem.W.callWith_K0 I.kIn hk (runG (us := []) F hgd hr hb hd hx I .nil h)

/-- f(k = v, ..): keywords alone; g puts their values in the parameters' order -/
structure KwTo (K : PySem.W.Frag) (fd : FuncData) (ps ks : List Str) (g : ∀ {α : Type}, List α → List α) : Prop where
  to : ∀ (s : Shared) (ws : List Value), K.In s.heap → ws.length = ks.length → BindsTo s fd ⟨[], ks.zip ws⟩ (ps.zip (g ws))
  rel : ∀ {zs : List V} {ws : List Value}, Vals zs ws → Vals (g zs) (g ws)
def tKw (n : Nat) (sp : Sp) (g : List V → List V) (E : XK) (tk : TA) : TE := fun σ H Q => tk σ H fun zs H1 => zs.length = n ∧ sp (g zs) H1 Q E
variable {ks : List Str} {kws : List Keyword} {tk : TA} {g : ∀ {α : Type}, List α → List α}
theorem callKw (F : FnG X.prog X.w X.K X.mg X.base CX k f fd ps sp) (hgd : X.A.guards = some []) (hr : Room k X.A)
    (hm : X.mg x = some (.ref f)) (hk : PySem.W.keepIn X.K (.ref f) = true) (hb : KwTo X.K fd ps ks g)
    (hx : Passes CX X E) (hkw : PK X kws tk) (hg : Gl X x := by rfl)
    (hall : (backToKw pos (keywordEach kws X.env)).all (·.1.isSome) = true := by rfl)
    (hks : (backToKw pos (keywordEach kws X.env)).filterMap (·.1) = ks := by rfl) (hdb : (x == ("__debug__" : Str)) = false := by decide)
    (hpl : ((backTo pos (starEach [] X.env)).any (·.1) || (backToKw pos (keywordEach kws X.env)).any (·.1.isNone)) = false := by rfl) :
    PE X (.Call (.Name x p) [] kws pos) (tKw ks.length sp g E tk) := by
  constructor
  intro pins s σ H Q I h
  apply wpAny_Call_Name_kw (ld_glob I hg hm ?_ hdb)
  refine PySem.W.callWith_KW0 (h₀ := X.base) I.ok.mod.kin hk hall ?_ hpl
  refine thn (hkw.run pos pins s σ H _ I h) ?_
  rintro ws s2 ⟨zs, H2, I2, rz, l2, q2⟩
  refine ⟨I2.kIn, ?_⟩
  rw [hks]
  have z := F.go X.A X.stack s2 H2 ⟨[], ks.zip ws⟩ (g ws) (g zs) _ E hr hgd I2.env0 (hb.to s2 ws I2.kIn (rz.length.symm.trans l2)) (hb.rel rz) q2
  refine wpAny_call (codeAny_mono (endG (pins := pins) (σ := σ) hx I2 z) ?_)
  intro r s' hq
  cases r with
  | error e => exact hq
  | ok fl =>
    cases fl with
    | ret u => exact hq
    | brk => exact hq.elim
    | cont => exact hq.elim
    | next => exact hq.elim
end
end FA
end

/-! G3 -/
section
namespace FA
open PySem PySem.Spec PyProof.Rows L2

/-- the one tracked thing at a law's entry: the script, as it is -/
def entry (a : Addr) (o : Obj) (xs : List V) : Hp := fun b => if b = a then some (.frz o (.lst xs)) else none
theorem entry_at {a : Addr} {o : Obj} {xs : List V} : entry a o xs a = some (.frz o (.lst xs)) := if_pos rfl
theorem entry_ne {a b : Addr} {o : Obj} {xs : List V} (h : b ≠ a) : entry a o xs b = none := if_neg h
def Lone (H : Hp) : Prop := (∀ b, H b = none) ∨ ∃ a o xs, H = entry a o xs

theorem endLaw {P : Program} {w : World} {K : PySem.W.Frag} {mg mb : Str → Option Value} {CX : CXT} {k : Nat} {fa a : Addr}
    {fd : FuncData} {x : Str} {sp : Sp} {s₁ : Shared} {H : Hp} {ns : List Int} {so : Obj}
    (kin : K.In s₁.heap) (n1 : s₁.heap.Ns mainGlobals mg) (n2 : s₁.heap.Ns builtinsNs mb)
    (bt : ∀ z : Str, z ≠ "__name__" → mb z = bootBuiltins z) (lim : s₁.heap.NoLimit) (gens : s₁.gens = #[])
    (hr : Room k callerA) (hso : ∃ vs : List Value, so = { cls := .type "list", data := .seq vs.toArray }) (obj : s₁.heap.get? a = some so)
    (hH : (∀ b, H b = none) ∨ (K.lookup a = none ∧ H = entry a so (ns.map V.int))) (hok : HOk P w H s₁.heap)
    (F : ∀ base : Heap, K.In base → base.Ns mainGlobals mg → (∀ b o, s₁.heap.get? b = some o → b ≠ a ∨ K.lookup a ≠ none → base.get? b = some o) →
      FnG P w K mg base CX k fa fd [x] sp)
    (bnd : ∀ (s : Shared) (u : Value), BindsTo s fd ⟨[u], []⟩ [(x, u)])
    (hsp : sp [.ref a] H (fun v _ => v = .bl true) fun _ _ _ => False)
    (noE : ∀ e s', CX [] H s₁ (fun _ _ _ => False) e s' → False) :
    codeAny (model P w) callerA (.call (.ref fa) ⟨[.ref a], []⟩)
      (fun r s' => r = .ok (.ret (.bool true)) ∧ OldK s₁.heap s'.heap ∧ s'.os = s₁.os ∧ AllBare s'.gens) s₁ := by
  obtain ⟨vs, rfl⟩ := hso
  have only : ∀ b, H b ≠ none → b = a ∧ K.lookup a = none := by
    intro b hb
    rcases hH with z | ⟨z, rfl⟩
    · exact absurd (z b) hb
    · refine ⟨?_, z⟩
      by_cases c : b = a
      · exact c
      · exact absurd (entry_ne c) hb
  have free : ∀ b, b ≠ a ∨ K.lookup a ≠ none → H b = none := by
    intro b hb
    cases q : H b with
    | none => rfl
    | some u =>
      obtain ⟨z1, z2⟩ := only b (by rw [q]; simp)
      rcases hb with hb | hb
      · exact absurd z1 hb
      · exact absurd z2 hb
  have keep : ∀ b o, s₁.heap.get? b = some o → b ≠ a ∨ K.lookup a ≠ none → (hidT s₁.heap H).get? b = some o :=
    fun b o e c => hidT_get e (free b c)
  have dictNe : ∀ b o es ep, s₁.heap.get? b = some o → o.data = Data.dict es ep → b ≠ a := by
    rintro b o es ep e d rfl
    rw [obj] at e
    cases e
    have d' : Data.seq vs.toArray _ = Data.dict es ep := d
    cases d'
  have nsB : ∀ {b : Addr} {m : Str → Option Value}, s₁.heap.Ns b m → (hidT s₁.heap H).Ns b m := by
    rintro b m ⟨o, es, ep, e, d, r⟩
    exact ⟨o, es, ep, keep b o e (Or.inl (dictNe b o es ep e d)), d, r⟩
  have kinB : K.In (hidT s₁.heap H) := by
    intro b o e
    refine keep b o (kin b o e) ?_
    by_cases c : b = a
    · right
      rw [← c, e]
      simp
    · exact Or.inl c
  obtain ⟨mc, l1, l2⟩ := lim
  have md : Mod K mg (hidT s₁.heap H) := ⟨kinB, nsB n1, ⟨mb, nsB n2, bt⟩, ⟨mc, nsB l1, l2⟩⟩
  have e0 : Env0 P w K mg (hidT s₁.heap H) callerA [] s₁ H :=
    { frames := rfl, mod := md, bs := fun b o e => of_hidT e, bsz := Nat.le_of_eq (hidT_size _ _), funs := trivial,
      frf := fun b hb => absurd (show b ∈ ([] : List Addr) from hb) (by simp), hok := hok, bare := .of_eq gens }
  have run := (F _ kinB (nsB n1) keep).go callerA [] s₁ H ⟨[.ref a], []⟩ [.ref a] [.ref a] _ _ hr rfl e0 (bnd s₁ (.ref a)) (.cons rfl .nil) hsp
  refine codeAny_mono run ?_
  intro r s' h
  cases r with
  | error e => exact (noE e s' h).elim
  | ok fl =>
    cases fl with
    | brk => exact h.elim
    | cont => exact h.elim
    | next => exact h.elim
    | ret u =>
      obtain ⟨v, H', os, bare, un, hok', r', q⟩ := h
      obtain rfl : v = V.bl true := q
      obtain rfl : u = Value.bool true := r'
      refine ⟨rfl, OldK.of_keep ?_, os, bare⟩
      intro b o e
      cases c : H b with
      | none => exact un.keep b o e c (by intro z; exact absurd (show b ∈ ([] : List Addr) from z) (by simp)) (by simp)
      | some u =>
        rcases hH with z | ⟨_, rfl⟩
        · rw [z b] at c; cases c
        · have hb : b = a := by
            by_cases y : b = a
            · exact y
            · rw [entry_ne y] at c; cases c
          subst hb
          obtain ⟨e2, _⟩ := hok' b _ (un.frzs b _ _ entry_at)
          rw [obj] at e
          cases e
          exact e2

/-- a law's end, over a head by facts -/
theorem walkE {l : PySem.W.OpenLaw} {n k : Nat} {q : Program} {loose : List Str} {XP : (Str → Option Value) → Heap → Prop}
    {YP : World → Heap → Prop} {d : DefRec} {CX : CXT} {x : Str}
    (hn : l.most = some n) (hn2 : n ≤ sizeLine) (hdf : d.params.defaults = []) (hr : Room k callerA)
    (F : ∀ (w : World) (mg : Str → Option Value) (fa : Addr) (h : Heap), YP w h → h.Ns mainGlobals mg → mg d.name = some (.ref fa) →
      ∃ (K : PySem.W.Frag) (fd : FuncData) (sp : Sp), K.In h ∧ (∃ o es m, h.get? sysModules = some o ∧ o.data = Data.dict es m) ∧
        (∀ (s : Shared) (u : Value), BindsTo s fd ⟨[u], []⟩ [(x, u)]) ∧
        (∀ (H : Hp) (a : Addr) (ns : List Int), ns.length ≤ n → Lone H → SqL K H a (ns.map V.int) →
          sp [.ref a] H (fun v _ => v = .bl true) fun _ _ _ => False) ∧
        ∀ base : Heap, K.In base → base.Ns mainGlobals mg → (∃ o, base.get? sysModules = some o) →
          FnG l.prog w K mg base CX k fa fd [x] sp)
    (noE : ∀ (H : Hp) (s : Shared) (e : Value) (s' : Shared), CX [] H s (fun _ _ _ => False) e s' → False) :
    PySem.W.WalkO q loose XP YP l.row.toRowW d [] (fun f vs => PySem.call f vs) := by
  apply Att.attach_call hn hdf
  intro w s₀ s₁ mg mb fa o pm cd doc a vs ns G Y ho hd hcd hmg hobj hints hlen hg
  obtain ⟨K, fd, sp, kin, ⟨so, es, sm, hso, hsd⟩, hb, hsp, hF⟩ := F w mg fa _ Y G.T.g hmg
  have rel : Vals (ns.map V.int) vs := vals_ints hints
  have len : (ns.map V.int).length ≤ sizeLine := by
    rw [List.length_map]
    exact Nat.le_trans hlen hn2
  have sysNe : sysModules ≠ a := by
    intro z
    rw [z, hobj] at hso
    cases hso
    have d' : Data.seq vs.toArray _ = Data.dict es sm := hsd
    cases d'
  cases hk : K.lookup a with
  | some o1 =>
    have e := kin a o1 hk
    rw [hobj] at e
    cases e
    refine endLaw (ns := ns) (H := fun _ => none) kin G.T.g G.T.b G.T.builtins G.T.nolimit hg hr ⟨vs, rfl⟩ hobj (Or.inl fun _ => rfl)
      (fun b u z => by have z' : (none : Option HO) = some u := z; cases z')
      (fun base h1 h2 h3 => hF base h1 h2 ⟨_, h3 _ _ hso (Or.inl sysNe)⟩) hb ?_ (fun e s' => noE _ s₁ e s')
    refine hsp _ a ns hlen (Or.inl fun _ => rfl) (Or.inr ⟨_, vs.toArray, _, hk, rfl, rfl, rfl, ?_, by simpa using rel⟩)
    rw [List.size_toArray, hints.length]
    exact Nat.le_trans hlen hn2
  | none =>
    refine endLaw (ns := ns) (H := entry a _ (ns.map V.int)) kin G.T.g G.T.b G.T.builtins G.T.nolimit hg hr ⟨vs, rfl⟩ hobj (Or.inr ⟨hk, rfl⟩)
      ?_ (fun base h1 h2 h3 => hF base h1 h2 ⟨_, h3 _ _ hso (Or.inl sysNe)⟩) hb ?_ (fun e s' => noE _ s₁ e s')
    · intro b u z
      by_cases c : b = a
      · subst c
        rw [entry_at] at z
        cases z
        exact ⟨hobj, len, vs, _, rel, hobj⟩
      · rw [entry_ne c] at z
        cases z
    · exact hsp _ a ns hlen (Or.inr ⟨_, _, _, rfl⟩) (Or.inl (Or.inr ⟨_, entry_at⟩))

/-- what stands around a body -/
structure Rdy (k : Nat) (X : Cx) : Prop where
  room : Room k X.A
  gd : X.A.guards = some []
  sys : NoSys X
theorem Rdy.blk {k : Nat} {X : Cx} (R : Rdy k X) (s : Shared) (H : Hp) (sc : Scope) (env : Env) (fp : List Addr) : Rdy k (X.blk s H sc env fp) := ⟨R.room, R.gd, R.sys⟩
/-! the head's facts, and the table of modules -/
def sysB (g : Addr → Option Obj) : Bool := match g sysModules with
  | some ⟨_, _, .dict _ _, _⟩ => true
  | _ => false
theorem sysB_ok {g : Addr → Option Obj} (h : sysB g = true) : ∃ o es m, g sysModules = some o ∧ o.data = Data.dict es m := by
  unfold sysB at h
  split at h
  · rename_i es m _ e
    exact ⟨_, es, m, e, rfl⟩
  · cases h
def hookS (n : Nat) (fa : List He.Fa) (fn : List He.DefD) : PySem.W.Hook where
  α := He.AlD × Bool
  obs := fun s => ((He.hookD n fa fn).obs s, sysB s.heap.get?)
  val := fun w => ((He.hookD n fa fn).val w, true)
  says := fun w h => (He.hookD n fa fn).says w h ∧ ∃ o es m, h.get? sysModules = some o ∧ o.data = Data.dict es m
  of := fun w s e => ⟨(He.hookD n fa fn).of w s (congrArg Prod.fst e), sysB_ok (congrArg Prod.snd e)⟩
  keeps := fun w h h' z k => ⟨(He.hookD n fa fn).keeps w h h' z.1 k, let ⟨o, es, m, e, d⟩ := z.2; ⟨o, es, m, k _ _ e, d⟩⟩

section
variable {P : Program} {w : World} {K : PySem.W.Frag} {mg : Str → Option Value} {base : Heap} {x qual : Str} {params : Arguments}
  {body : List Stmt} {scope : Scope} {dvs : List V} {kws : List (Str × V)} {f : Addr} {fd : FuncData}
/-- a def of the head's facts, by its body -/
theorem okD {N ps : List Str} {k : Nat} {sp : Sp} (F : FunD K x qual params body scope dvs kws f fd) (S : FnScope N ps scope)
    (hS : ∃ o, base.get? sysModules = some o)
    (size : ∀ vs H Q E, sp vs H Q E → vs.length = ps.length)
    (hb : ∀ (cdv : Value) (A : Around) (outer : List Env) (s : Shared) (H : Hp) (vs : List V) (Q : VK) (E : XK),
      Rdy k (cxOf CX0 P w K mg base N qual scope f cdv A outer s H E).nox → sp vs H Q E →
      ∃ t, PSs (cxOf CX0 P w K mg base N qual scope f cdv A outer s H E).nox body t ∧
        t { nx := fun _ H' => Q .non H', rt := Q } (start N vs) H) : FnG P w K mg base CX0 (k + 1) f fd ps sp := by
  obtain ⟨oc, od, dV, kV, doc, pm, an, cdv, ct, osl, rfl, lk, hcd, _, _⟩ := F.ex
  refine fnG_of lk hcd S size ?_
  intro A outer s H vs Q E hr hg hsp
  obtain ⟨t, h, q⟩ := hb cdv A outer s H vs Q E ⟨hr, hg, hS⟩ hsp
  exact ⟨t, h.nox, q⟩
end

/-! what a caller needs -/
structure Cal (P : Program) (w : World) (K : PySem.W.Frag) (mg : Str → Option Value) (base : Heap) (k : Nat) (x : Str) (ps : List Str) (sp : Sp) : Prop where
  ex : ∃ (f : Addr) (fd : FuncData), FnG P w K mg base CX0 k f fd ps sp ∧ mg x = some (.ref f) ∧ PySem.W.keepIn K (.ref f) = true ∧ Binds K fd ps []
structure CalK (P : Program) (w : World) (K : PySem.W.Frag) (mg : Str → Option Value) (base : Heap) (k : Nat) (x : Str) (ps ks : List Str)
    (g : ∀ {α : Type}, List α → List α) (sp : Sp) : Prop where
  ex : ∃ (f : Addr) (fd : FuncData), FnG P w K mg base CX0 k f fd ps sp ∧ mg x = some (.ref f) ∧ PySem.W.keepIn K (.ref f) = true ∧ KwTo K fd ps ks g
section
variable {X : Cx} {k j : Nat} {x : Str} {ps ks : List Str} {sp : Sp} {p pos : Pos} {e : Expr} {es : List Expr} {t : TA}
  {kws : List Keyword} {tk : TA} {g : ∀ {α : Type}, List α → List α}
theorem cc (c : Cal X.prog X.w X.K X.mg X.base k x ps sp) (R : Rdy j X) (ha : PA X (e :: es) t) (hk : k ≤ j := by omega) (hg : Gl X x := by rfl)
    (hdb : (x == ("__debug__" : Str)) = false := by decide)
    (he : starEach (e :: es) X.env = (false, eval e X.env) :: starEach es X.env := by rfl)
    (hpl : (backTo pos (starEach es X.env)).any (·.1) = false := by rfl) (hx : ∀ E, Passes CX0 X E := by intro _ _ _ _ _ _ _ _ z; exact z.elim) :
    PE X (.Call (.Name x p) (e :: es) [] pos) (tCall sp [] E0 t) := by
  obtain ⟨f, fd, F, hm, hkp, hb⟩ := c.ex
  exact callG F R.gd (R.room.mono hk) hm hkp hb .nil (hx _) ha hg hdb he hpl
theorem cc0 (c : Cal X.prog X.w X.K X.mg X.base k x ps sp) (R : Rdy j X) (hk : k ≤ j := by omega) (hg : Gl X x := by rfl)
    (hdb : (x == ("__debug__" : Str)) = false := by decide) (hx : ∀ E, Passes CX0 X E := by intro _ _ _ _ _ _ _ _ z; exact z.elim) :
    PE X (.Call (.Name x p) [] [] pos) (tCall sp [] E0 tNil) := by
  obtain ⟨f, fd, F, hm, hkp, hb⟩ := c.ex
  exact callG0 F R.gd (R.room.mono hk) hm hkp hb .nil (hx _) hg hdb
theorem ck (c : CalK X.prog X.w X.K X.mg X.base k x ps ks g sp) (R : Rdy j X) (hkw : PK X kws tk) (hk : k ≤ j := by omega) (hg : Gl X x := by rfl)
    (hall : (backToKw pos (keywordEach kws X.env)).all (·.1.isSome) = true := by rfl)
    (hks : (backToKw pos (keywordEach kws X.env)).filterMap (·.1) = ks := by rfl) (hdb : (x == ("__debug__" : Str)) = false := by decide)
    (hpl : ((backTo pos (starEach [] X.env)).any (·.1) || (backToKw pos (keywordEach kws X.env)).any (·.1.isNone)) = false := by rfl)
    (hx : ∀ E, Passes CX0 X E := by intro _ _ _ _ _ _ _ _ z; exact z.elim) :
    PE X (.Call (.Name x p) [] kws pos) (tKw ks.length sp g E0 tk) := by
  obtain ⟨f, fd, F, hm, hkp, hb⟩ := c.ex
  exact callKw F R.gd (R.room.mono hk) hm hkp hb (hx _) hkw hg hall hks hdb hpl
theorem bt_repr : bootBuiltins "repr" = some (.builtin "repr") := by decide +kernel
/-- repr(e) -/
theorem crepr (R : Rdy j X) (hm : X.mg ("repr" : Str) = none) (ha : PA X [e] t) (hg : Gl X "repr" := by rfl)
    (he : starEach [e] X.env = (false, eval e X.env) :: starEach [] X.env := by rfl) (hpl : (backTo pos (starEach [] X.env)).any (·.1) = false := by rfl) :
    PE X (.Call (.Name "repr" p) [e] [] pos) (tCB rRepr t) :=
  pe_callB (call_reprA R.gd R.room R.sys) hg hm bt_repr ha (by decide) (by decide) he hpl
end
section
variable {K : PySem.W.Frag} {x qual : Str} {params : Arguments} {body : List Stmt} {scope : Scope} {f : Addr} {fd : FuncData} {kws : List (Str × V)}
theorem kwTo {ps ks : List Str} {g : ∀ {α : Type}, List α → List α} (F : FunD K x qual params body scope [] kws f fd)
    (h : ∀ (kV doc pm : Value) (an : Option Addr) (cdv ct : Value) (ws : List Value), ws.length = ks.length →
      bindArgs (PySem.W.fnOf x qual params body scope .none kV doc pm an cdv ct) ⟨[], ks.zip ws⟩ = pure (ps.zip (g ws)))
    (rel : ∀ {zs : List V} {ws : List Value}, Vals zs ws → Vals (g zs) (g ws)) : KwTo K fd ps ks g := by
  obtain ⟨oc, od, dV, kV, doc, pm, an, cdv, ct, osl, rfl, lk, hcd, hd, _⟩ := F.ex
  rcases hd with ⟨_, rfl⟩ | ⟨z, _⟩
  · exact ⟨fun s ws _ hl => .of_eq (h kV doc pm an cdv ct ws hl), rel⟩
  · exact absurd rfl z
end
end FA
end

/-! G4 -/
section
namespace FA
open PySem PySem.Spec PyProof.Rows L2

theorem bt_isinstance : bootBuiltins "isinstance" = some (.builtin "isinstance") := by decide +kernel
theorem bt_len : bootBuiltins "len" = some (.builtin "len") := by decide +kernel
theorem bt_all : bootBuiltins "all" = some (.builtin "all") := by decide +kernel
theorem bt_any : bootBuiltins "any" = some (.builtin "any") := by decide +kernel
theorem bt_abs : bootBuiltins "abs" = some (.builtin "abs") := by decide +kernel
theorem bt_min : bootBuiltins "min" = some (.builtin "min") := by decide +kernel
theorem bt_max : bootBuiltins "max" = some (.builtin "max") := by decide +kernel
theorem bt_str : bootBuiltins "str" = some (.type "str") := by decide +kernel
theorem bt_int : bootBuiltins "int" = some (.type "int") := by decide +kernel
theorem bt_bool : bootBuiltins "bool" = some (.type "bool") := by decide +kernel
theorem bt_list : bootBuiltins "list" = some (.type "list") := by decide +kernel
theorem bt_tuple : bootBuiltins "tuple" = some (.type "tuple") := by decide +kernel
theorem bt_dict : bootBuiltins "dict" = some (.type "dict") := by decide +kernel
theorem bt_range : bootBuiltins "range" = some (.type "range") := by decide +kernel
section
variable {X : Cx}
/-! operators for values of any kind that meet -/
theorem opMulStr : OpR X (binaryOp .Mult) (fun x y H Q => ∃ z k, x = .str z ∧ y = .int k ∧ PySem.MulOk z k ∧ Q (.str (Txt.mul z k)) H) := by
  intro pins s σ H x y u v Q I r1 r2 h
  obtain ⟨z, k, rfl, rfl, hz, q⟩ := h
  obtain ⟨t1, rfl⟩ : ∃ t, u = .str z t := r1
  obtain ⟨t2, rfl⟩ : ∃ t, v = .int k t := r2
  exact PySem.SB.mul hz fun t k => ⟨.str _, H, I.tok _, ⟨_, rfl⟩, q⟩
abbrev rAddA : R2 := fun x y H Q => (rI0 (fun i j => .int (i + j)) x y H Q ∨
    (∃ i j, x = .str i ∧ y = .str j ∧ i.length + j.length ≤ sizeLine ∧ Q (.str (i ++ j)) H)) ∨ rCat x y H Q
theorem opAdd : OpR X (binaryOp .Add) rAddA := OpR.or (OpR.or op_add op_add_str) op_cat
abbrev rMulA : R2 := fun x y H Q => (rI CMul (fun i j => .int (i * j)) x y H Q ∨ rRep x y H Q) ∨
    ∃ z k, x = .str z ∧ y = .int k ∧ PySem.MulOk z k ∧ Q (.str (Txt.mul z k)) H
theorem opMul : OpR X (binaryOp .Mult) rMulA := OpR.or (OpR.or op_mul op_rep) opMulStr
abbrev rLtA : R2 := fun x y H Q => rI0 (fun i j => .bl (decide (i < j))) x y H Q ∨
    ∃ i j, x = .str i ∧ y = .str j ∧ Q (.bl (decide (i.cps.toList < j.cps.toList))) H
theorem opLt : OpR X (compareOp .Lt) rLtA := OpR.or op_lt op_lt_str
abbrev rLeA : R2 := fun x y H Q => rI0 (fun i j => .bl (decide (i ≤ j))) x y H Q ∨
    ∃ i j, x = .str i ∧ y = .str j ∧ Q (.bl (!decide (j.cps.toList < i.cps.toList))) H
theorem opLe : OpR X (compareOp .LtE) rLeA := OpR.or op_le op_le_str
abbrev rGeA : R2 := rI0 fun i j => .bl (decide (j ≤ i))
abbrev rGtA : R2 := rI0 fun i j => .bl (decide (j < i))
abbrev rSubA : R2 := rI0 fun i j => .int (i - j)
abbrev rModA : R2 := rI (fun _ j => 0 < j) fun i j => .int (i % j)
abbrev rDivA : R2 := rI CDivW fun i j => .int (i / j)
abbrev rPowA : R2 := rI CPow fun i j => .int (i ^ j.toNat)
abbrev rIsN : R2 := fun x y H Q => y = .non ∧ Q (.bl (decide (x = .non))) H
abbrev rNotN : R2 := fun x y H Q => y = .non ∧ Q (.bl (!decide (x = .non))) H
abbrev rIxA (K : PySem.W.Frag) : R2 := fun x y H Q => rIxL K x y H Q ∨ rIxT K x y H Q ∨ rIxS x y H Q
theorem ixAny : IxR X (rIxA X.K) := ix_seq
abbrev rSlA (K : PySem.W.Frag) : V → Option Int → Option Int → Hp → VK → Prop := fun x lo hi H Q => rSlL K x lo hi H Q ∨ rSlS x lo hi H Q
theorem slAny : SlR X (rSlA X.K) := SlR.or sl_list sl_str
abbrev rLenA (K : PySem.W.Frag) : List V → Hp → VK → Prop := fun xs H Q => (∃ p ys, xs = [.ref p] ∧ (SqL K H p ys ∨ SqT K H p ys) ∧ Q (.int ys.length) H) ∨
    ∃ z, xs = [.str z] ∧ z.length ≤ sizeLine ∧ Q (.int z.length) H
abbrev rListOf (K : PySem.W.Frag) : List V → Hp → VK → Prop := fun xs H Q => ∃ p ys, xs = [.ref p] ∧ (SqL K H p ys ∨ SqT K H p ys) ∧ ∀ l, H l = none → Q (.ref l) (upd H l (.lst ys))
abbrev rAbs : List V → Hp → VK → Prop := fun xs H Q => ∃ i, xs = [.int i] ∧ Q (.int (if i < 0 then -i else i)) H
theorem call_lenA : CallR X (.builtin "len") (rLenA X.K) := CallR.or call_len_seq call_len_str

/-- a comprehension of one name -/
theorem pe_lc1 (i : Nat) {x : Str} {p : Pos} {elt iter : Expr} {ifs : List Expr} {scope : Scope} {pos : Pos} {wi : TI} {tt : TT} {te : TE}
    (hc : X.calm = true) (hN : X.N.Nodup) (hi : PI X (.Name x p) iter wi) (ok : blkC X.N X.env.scope scope [(x, i)] = true)
    (hg : ∀ (s : Shared) (H : Hp) (C : Addr) (cl : List (Str × Addr)) (fp : List Addr), PG (X.blk s H scope (compEnvC scope cl C X.env) fp) (.Name x p) (gName i))
    (ht : ∀ (s : Shared) (H : Hp) (C : Addr) (cl : List (Str × Addr)) (fp : List Addr), PTs (X.blk s H scope (compEnvC scope cl C X.env) fp) ifs tt)
    (he : ∀ (s : Shared) (H : Hp) (C : Addr) (cl : List (Str × Addr)) (fp : List Addr), PE (X.blk s H scope (compEnvC scope cl C X.env) fp) elt te)
    (hs : ∀ z, foldedSetIterable iter X.env z = pure z := by intro _; rfl) :
    PE X (.ListComp elt [⟨.Name x p, iter, ifs, 0⟩] scope pos) (tLc wi (gName i) tt te [i]) :=
  pe_lc (own := [(x, i)]) hc hN hi (blkOk_by ok) hg ht he hs
end
end FA
end

/-! G5 -/
section
namespace FA
open PySem PySem.Spec PyProof.Rows L2
/-! the mathematics -/
def okc (c : Nat) : Bool := decide (97 ≤ c) && decide (c ≤ 122)
theorem lt1 (a b : Nat) : decide (([a] : List Nat) < [b]) = decide (a < b) := by
  by_cases h : a < b
  · rw [decide_eq_true h]
    exact decide_eq_true (List.cons_lt_cons_iff.mpr (Or.inl h))
  · rw [decide_eq_false h]
    refine decide_eq_false fun q => ?_
    rcases List.cons_lt_cons_iff.mp q with q | ⟨_, q⟩
    · exact h q
    · exact List.not_lt_nil _ q
theorem sgn_a : (Str.ofString "a").cps.toList = [97] := by decide
theorem sgn_z : (Str.ofString "z").cps.toList = [122] := by decide
theorem same_new {H : Hp} {p : Addr} (h : H p = none) (o : HO) : Same H (upd H p o) := fun b u q => by rw [upd_ne (ne_of_none q h)]; exact q
theorem same_mut {H H1 : Hp} {p : Addr} {o : HO} (s : Same H H1) (h : H p = none) : Same H (upd H1 p o) := fun b u q => by rw [upd_ne (ne_of_none q h)]; exact s b u q
def lower (z : Str) : Bool := z.cps.toList.all okc
def nameS (z : Str) : Bool := decide (1 ≤ z.length) && decide (z.length ≤ 8) && lower z
def isName : PyData → Bool
  | .str z => nameS z
  | _ => false
def isNum : PyData → Bool
  | .int i => decide (-(10 ^ 12) ≤ i) && decide (i ≤ 10 ^ 12)
  | _ => false
def isVal (d : PyData) : Bool := match d with
  | .none => true
  | d => isNum d || isName d
def isStr : PyData → Bool
  | .str _ => true
  | _ => false


section
variable {K : PySem.W.Frag}
def tyN : PyData → String
  | .none => "NoneType"
  | .bool _ => "bool"
  | .int _ => "int"
  | .str _ => "str"
  | .list _ => "list"
  | .tuple _ => "tuple"
  | .dict _ => "dict"
theorem ty_dat {H : Hp} {d : PyData} {v : V} (h : Dat H d v) : TyX K H v (.type (tyN d)) := by
  cases d with
  | none => simp only [Dat] at h; subst h; exact .base .non
  | bool x => simp only [Dat] at h; subst h; exact .base (.bl x)
  | int i => simp only [Dat] at h; subst h; exact .base (.int i)
  | str x => simp only [Dat] at h; subst h; exact .base (.str x)
  | list ds => simp only [Dat] at h; obtain ⟨a, xs, rfl, e, _⟩ := h; exact .base (.lst e)
  | tuple ds => simp only [Dat] at h; obtain ⟨a, xs, rfl, e, _⟩ := h; exact .base (.tup e)
  | dict kvs => simp only [Dat] at h; obtain ⟨a, xs, rfl, e, _⟩ := h; exact .base (.dK e)
theorem kit_str (d : PyData) : PySem.W.kitOne K (.type (tyN d)) (.type "str") = some (isStr d) := by
  cases d <;> exact kit_ty (by simp only [tyN, isStr]; decide +kernel)
def isInt : PyData → Bool
  | .int _ => true
  | .bool _ => true
  | _ => false
def isBool : PyData → Bool
  | .bool _ => true
  | _ => false
theorem kit_int (d : PyData) : PySem.W.kitOne K (.type (tyN d)) (.type "int") = some (isInt d) := by
  cases d <;> exact kit_ty (by simp only [tyN, isInt]; decide +kernel)
theorem kit_bool (d : PyData) : PySem.W.kitOne K (.type (tyN d)) (.type "bool") = some (isBool d) := by
  cases d <;> exact kit_ty (by simp only [tyN, isBool]; decide +kernel)
theorem dat_non {H : Hp} {d : PyData} {v : V} (h : Dat H d v) : decide (v = .non) = (match d with | .none => true | _ => false) := by
  cases d with
  | none => simp only [Dat] at h; subst h; rfl
  | bool x => simp only [Dat] at h; subst h; rfl
  | int i => simp only [Dat] at h; subst h; rfl
  | str x => simp only [Dat] at h; subst h; rfl
  | list ds => simp only [Dat] at h; obtain ⟨a, xs, rfl, e, _⟩ := h; rfl
  | tuple ds => simp only [Dat] at h; obtain ⟨a, xs, rfl, e, _⟩ := h; rfl
  | dict kvs => simp only [Dat] at h; obtain ⟨a, xs, rfl, e, _⟩ := h; rfl
mutual
theorem dat_same {H H' : Hp} (s : Same H H') : ∀ (d : PyData) (v : V), Dat H d v → Dat H' d v
  | .none, v, h => by simp only [Dat] at h ⊢; exact h
  | .bool _, v, h => by simp only [Dat] at h ⊢; exact h
  | .int _, v, h => by simp only [Dat] at h ⊢; exact h
  | .str _, v, h => by simp only [Dat] at h ⊢; exact h
  | .list ds, v, h => by
    simp only [Dat] at h ⊢
    obtain ⟨a, xs, e, ha, hd⟩ := h
    exact ⟨a, xs, e, s _ _ ha, datAll_same s ds xs hd⟩
  | .tuple ds, v, h => by
    simp only [Dat] at h ⊢
    obtain ⟨a, xs, e, ha, hd⟩ := h
    exact ⟨a, xs, e, s _ _ ha, datAll_same s ds xs hd⟩
  | .dict kvs, v, h => by
    simp only [Dat] at h ⊢
    obtain ⟨a, xs, e, ha, hd⟩ := h
    exact ⟨a, xs, e, s _ _ ha, datKv_same s kvs xs hd⟩
theorem datAll_same {H H' : Hp} (s : Same H H') : ∀ (ds : List PyData) (xs : List V), DatAll H ds xs → DatAll H' ds xs
  | [], xs, h => by simp only [DatAll] at h ⊢; exact h
  | d :: ds, xs, h => by
    simp only [DatAll] at h ⊢
    obtain ⟨y, ys, e, h1, h2⟩ := h
    exact ⟨y, ys, e, dat_same s d y h1, datAll_same s ds ys h2⟩
theorem datKv_same {H H' : Hp} (s : Same H H') : ∀ (ds : List (PyData × PyData)) (xs : List (Key × V)), DatKv H ds xs → DatKv H' ds xs
  | [], xs, h => by simp only [DatKv] at h ⊢; exact h
  | (k, d) :: ds, xs, h => by
    simp only [DatKv] at h ⊢
    obtain ⟨c, y, ys, e, ek, h1, h2⟩ := h
    exact ⟨c, y, ys, e, ek, dat_same s d y h1, datKv_same s ds ys h2⟩
end

end

/-- the built-ins stand as they are -/
structure Blt (mg : Str → Option Value) : Prop where
  isinstance : mg "isinstance" = none
  len : mg "len" = none
  all : mg "all" = none
  abs : mg "abs" = none
  repr : mg "repr" = none
  str : mg "str" = none
  int : mg "int" = none
  bool : mg "bool" = none
  list : mg "list" = none
  tuple : mg "tuple" = none
  range : mg "range" = none

/-! data of no great size -/
structure Okd (D W : Nat) (x : PyData) : Prop where
  sh : x.showable = true
  lv : x.leavesShort 60 = true
  dp : x.depth ≤ D
  wt : x.weight ≤ W
  low : ∀ z, x = .str z → ∀ c ∈ z.cps.toList, c < 128
theorem Okd.len {D W : Nat} {x : PyData} (h : Okd D W x) : x.shown.length ≤ 62 * W + 60 := by
  have q := PyData.shown_le 60 (by decide) x h.lv
  have w := Nat.mul_le_mul_left 62 h.wt
  omega
theorem Okd.fits {D W : Nat} {x : PyData} (h : Okd D W x) (hW : W ≤ 270000) : x.shown.length ≤ sizeLine := by
  have q := h.len
  rw [sizeLine_eq]
  omega
theorem Okd.mono {D W D' W' : Nat} {x : PyData} (h : Okd D W x) (hD : D ≤ D') (hW : W ≤ W') : Okd D' W' x := ⟨h.sh, h.lv, Nat.le_trans h.dp hD, Nat.le_trans h.wt hW, h.low⟩
theorem okd_non {D W : Nat} : Okd D W .none := ⟨rfl, rfl, by simp [PyData.depth], by simp [PyData.weight], fun _ h => nomatch h⟩
theorem okd_bool {D W : Nat} {b : Bool} : Okd D W (.bool b) := ⟨rfl, rfl, by simp [PyData.depth], by simp [PyData.weight], fun _ h => nomatch h⟩
def Low (z : Str) : Prop := ∀ c ∈ z.cps.toList, c < 128
theorem okd_str {D W : Nat} {z : Str} (h : Low z) (hW : z.length ≤ W) : Okd D W (.str z) := by
  refine ⟨rfl, ?_, by simp [PyData.depth], ?_, fun y e => by cases e; exact h⟩
  · simp only [PyData.leavesShort, List.all_eq_true, decide_eq_true_eq]
    intro c hc
    exact Nat.lt_of_lt_of_le (h c hc) (by decide)
  · simp only [PyData.weight]
    exact hW
theorem Okd.strLen {D W : Nat} {z : Str} (h : Okd D W (.str z)) : z.length ≤ W := by
  have q := h.wt
  simp only [PyData.weight] at q
  exact q
end FA
end

/-! G6 -/
section
namespace FA
open PySem PySem.Spec PyProof.Rows L2

theorem okd_int {D W : Nat} {i : Int} (h : i.natAbs < 10 ^ 40) (hW : 140 ≤ W) : Okd D W (.int i) := by
  have hl : i.natAbs.log2 < 133 := by
    by_cases z : i.natAbs = 0
    · rw [z]; decide
    · exact (Nat.log2_lt z).mpr (Nat.lt_of_lt_of_le h (by decide))
  refine ⟨?_, ?_, by simp [PyData.depth], ?_, fun _ h => nomatch h⟩
  · simp only [PyData.showable, decide_eq_true_eq]
    omega
  · simp only [PyData.leavesShort, decide_eq_true_eq]
    have e := int_text_length_le10 (k := 40) (by decide) h
    have e2 : (PyData.shown (.int i)).length = (toString i).length := by
      show (Str.ofString (toString i)).length = _
      rw [PySem.ofString_length]
      try rfl
    rw [e2]
    omega
  · simp only [PyData.weight]
    split <;> omega
/-- lists, tuples of such -/
structure Oks (D W : Nat) (xs : List PyData) : Prop where
  sh : PyData.showableAll xs = true
  lv : PyData.leavesShortAll 60 xs = true
  dp : PyData.depthAll xs ≤ D
  wt : PyData.weightAll xs ≤ W
theorem oks_nil {D W : Nat} : Oks D W [] := ⟨rfl, rfl, by simp [PyData.depthAll], by simp [PyData.weightAll]⟩
theorem oks_cons {D W V : Nat} {x : PyData} {xs : List PyData} (h : Okd D W x) (r : Oks D V xs) : Oks D (W + 1 + V) (x :: xs) := by
  refine ⟨?_, ?_, ?_, ?_⟩
  · simp only [PyData.showableAll, h.sh, r.sh, Bool.and_self]
  · simp only [PyData.leavesShortAll, h.lv, r.lv, Bool.and_self]
  · simp only [PyData.depthAll]
    exact Nat.max_le.mpr ⟨h.dp, r.dp⟩
  · simp only [PyData.weightAll]
    have := h.wt
    have := r.wt
    omega
theorem Oks.mono {D W D' W' : Nat} {x : List PyData} (h : Oks D W x) (hD : D ≤ D') (hW : W ≤ W') : Oks D' W' x := ⟨h.sh, h.lv, Nat.le_trans h.dp hD, Nat.le_trans h.wt hW⟩
theorem oks_all {D W : Nat} : ∀ {xs : List PyData}, (∀ x ∈ xs, Okd D W x) → Oks D ((W + 1) * xs.length) xs
  | [], _ => oks_nil
  | x :: xs, h => by
    have r := oks_all (xs := xs) (fun y hy => h y (List.mem_cons_of_mem _ hy))
    refine (oks_cons (h x List.mem_cons_self) r).mono (Nat.le_refl _) ?_
    rw [List.length_cons, Nat.mul_add, Nat.mul_one]
    omega
theorem okd_list {D W : Nat} {xs : List PyData} (h : Oks D W xs) : Okd (D + 1) W (.list xs) := by
  refine ⟨by simpa [PyData.showable] using h.sh, by simpa [PyData.leavesShort] using h.lv, ?_, ?_, fun _ h => nomatch h⟩
  · simp only [PyData.depth]
    exact Nat.succ_le_succ h.dp
  · simp only [PyData.weight]
    exact h.wt
theorem okd_tuple {D W : Nat} {xs : List PyData} (h : Oks D W xs) : Okd (D + 1) W (.tuple xs) := by
  refine ⟨by simpa [PyData.showable] using h.sh, by simpa [PyData.leavesShort] using h.lv, ?_, ?_, fun _ h => nomatch h⟩
  · simp only [PyData.depth]
    exact Nat.succ_le_succ h.dp
  · simp only [PyData.weight]
    exact h.wt
theorem okd_dict0 {D W : Nat} : Okd (D + 1) W (.dict []) := ⟨rfl, rfl, by simp [PyData.depth, PyData.depthKv], by simp [PyData.weight, PyData.weightKv], fun _ h => nomatch h⟩
theorem okd_dict1 {D W V : Nat} {k x : PyData} (hk : Okd D W k) (h : Okd D V x) : Okd (D + 1) (W + V + 2) (.dict [(k, x)]) := by
  refine ⟨?_, ?_, ?_, ?_, fun _ h => nomatch h⟩
  · simp only [PyData.showable, PyData.showableKv, hk.sh, h.sh, Bool.and_self]
  · simp only [PyData.leavesShort, PyData.leavesShortKv, hk.lv, h.lv, Bool.and_self]
  · simp only [PyData.depth, PyData.depthKv]
    exact Nat.succ_le_succ (Nat.max_le.mpr ⟨Nat.max_le.mpr ⟨hk.dp, h.dp⟩, Nat.zero_le _⟩)
  · simp only [PyData.weight, PyData.weightKv]
    have := h.wt
    have := hk.wt
    omega

/-! the deck and what stands beside it -/
def hid (d c : Addr) (H : Hp) : Hp := fun b => if b = d ∨ b = c then none else H b
theorem hid_ne {d c b : Addr} {H : Hp} (h1 : b ≠ d) (h2 : b ≠ c) : hid d c H b = H b := if_neg (by rintro (z | z); exact h1 z; exact h2 z)
theorem hid_some {d c b : Addr} {H : Hp} {o : HO} (h : hid d c H b = some o) : b ≠ d ∧ b ≠ c ∧ H b = some o := by
  unfold hid at h
  by_cases z : b = d ∨ b = c
  · rw [if_pos z] at h; cases h
  · rw [if_neg z] at h
    exact ⟨fun e => z (Or.inl e), fun e => z (Or.inr e), h⟩
theorem hid_sub {d c : Addr} {H : Hp} : Same (hid d c H) H := fun b o h => (hid_some h).2.2
theorem hid_same {d c : Addr} {H H' : Hp} (s : Same H H') : Same (hid d c H) (hid d c H') := fun b o h => by
  obtain ⟨h1, h2, h3⟩ := hid_some h
  rw [hid_ne h1 h2]
  exact s b o h3
/-- only d or c is written -/
theorem hid_upd {d c a : Addr} {H : Hp} {o : HO} (h : a = d ∨ a = c) : hid d c (upd H a o) = hid d c H := by
  funext b
  unfold hid
  by_cases z : b = d ∨ b = c
  · rw [if_pos z, if_pos z]
  · rw [if_neg z, if_neg z]
    exact upd_ne fun e => z (by rw [e]; exact h)
theorem hid_at {d c p : Addr} {H : Hp} {o : HO} (h1 : p ≠ d) (h2 : p ≠ c) : hid d c (upd H p o) p = some o := by
  rw [hid_ne h1 h2, upd_same]

def deckKvs (c : Addr) (t n : Int) : List (Key × V) := [(.inr "cells", .ref c), (.inr "total", .int t), (.inr "draws", .int n)]
/-- a deck at d, its cells at c, at most n draws so far -/
structure Deck (H : Hp) (d c : Addr) (n : Nat) : Prop where
  is : ∃ (t m : Int) (cs : List Int), H d = some (.dK (deckKvs c t m)) ∧ H c = some (.lst (cs.map V.int)) ∧ cs.length ≤ 63 ∧ 0 ≤ m ∧ m ≤ n
theorem Deck.same {H H' : Hp} {d c : Addr} {n : Nat} (D : Deck H d c n) (s : Same H H') : Deck H' d c n := by
  obtain ⟨t, m, cs, h1, h2, h⟩ := D.is
  exact ⟨t, m, cs, s _ _ h1, s _ _ h2, h⟩
theorem Deck.mono {H : Hp} {d c : Addr} {n k : Nat} (D : Deck H d c n) (h : n ≤ k) : Deck H d c k := by
  obtain ⟨t, m, cs, h1, h2, h3, h4, h5⟩ := D.is
  exact ⟨t, m, cs, h1, h2, h3, h4, by omega⟩
theorem Deck.ne {H : Hp} {d c p : Addr} {n : Nat} (D : Deck H d c n) (h : H p = none) : p ≠ d ∧ p ≠ c := by
  obtain ⟨t, m, cs, h1, h2, _⟩ := D.is
  exact ⟨fun e => (by rw [e, h1] at h; cases h), fun e => (by rw [e, h2] at h; cases h)⟩
theorem Deck.dc {H : Hp} {d c : Addr} {n : Nat} (D : Deck H d c n) : d ≠ c := by
  obtain ⟨t, m, cs, h1, h2, _⟩ := D.is
  exact ne_of h1 h2 (by intro z; cases z)
/-- a draw's promise -/
def spDraw : Sp := fun vs H Q _ => ∃ (d c : Addr) (n : Nat) (m : Int), vs = [.ref d, .int m] ∧ Deck H d c n ∧ n ≤ 1000000 ∧ 0 < m ∧ m.natAbs < 2 ^ 64 ∧
  ∀ r H', 0 ≤ r → r < m → Deck H' d c (n + 1) → Same (hid d c H) (hid d c H') → Q (.int r) H'
/-- a pick's: of a list, of a text -/
def spPick : Sp := fun vs H Q _ => ∃ (d c : Addr) (n : Nat) (u : V), vs = [.ref d, u] ∧ Deck H d c n ∧ n ≤ 1000000 ∧
  ((∃ a xs, u = .ref a ∧ hid d c H a = some (.lst xs) ∧ 0 < xs.length ∧ xs.length ≤ 1000000 ∧
      ∀ (j : Nat) x H', xs[j]? = some x → Deck H' d c (n + 1) → Same (hid d c H) (hid d c H') → Q x H') ∨
   (∃ z, u = .str z ∧ 0 < z.length ∧ z.length ≤ 1000000 ∧
      ∀ k H', k ∈ z.cps.toList → Deck H' d c (n + 1) → Same (hid d c H) (hid d c H') → Q (.str ⟨#[k]⟩) H'))
end FA
namespace FA
open PySem PySem.Spec PyProof.Rows L2
theorem emb (a : Int) {m : Int} (h : 0 < m) (h2 : m < 2 ^ 64) : -(2 ^ 64) < a % m ∧ a % m < 2 ^ 64 := by
  have h0 := Int.emod_nonneg a (Int.ne_of_gt h)
  have h1 := Int.emod_lt_of_pos a h
  omega
theorem dk_cells {c : Addr} {t n : Int} : valV (deckKvs c t n) (Sum.inr "cells") = some (.ref c) := by kernel_rfl
theorem dk_total {c : Addr} {t n : Int} : valV (deckKvs c t n) (Sum.inr "total") = some (.int t) := by kernel_rfl
theorem dk_draws {c : Addr} {t n : Int} : valV (deckKvs c t n) (Sum.inr "draws") = some (.int n) := by kernel_rfl
theorem dk_put {c : Addr} {t n k : Int} : putK (deckKvs c t n) (Sum.inr "draws") (.int k) = deckKvs c t k := by kernel_rfl
theorem dk_merge {c : Addr} {t n : Int} : mergeK [] (deckKvs c t n) = deckKvs c t n := by kernel_rfl
theorem dg_cells {H : Hp} {d c : Addr} {t n : Int} (h : H d = some (.dK (deckKvs c t n))) : DGet H d (.str "cells") (some (.ref c)) := by
  have z := DGet.k (k := Sum.inr "cells") h
  rw [dk_cells] at z
  exact z
theorem dg_total {H : Hp} {d c : Addr} {t n : Int} (h : H d = some (.dK (deckKvs c t n))) : DGet H d (.str "total") (some (.int t)) := by
  have z := DGet.k (k := Sum.inr "total") h
  rw [dk_total] at z
  exact z
theorem dg_draws {H : Hp} {d c : Addr} {t n : Int} (h : H d = some (.dK (deckKvs c t n))) : DGet H d (.str "draws") (some (.int n)) := by
  have z := DGet.k (k := Sum.inr "draws") h
  rw [dk_draws] at z
  exact z
theorem dp_draws {H : Hp} {d c : Addr} {t n k : Int} (h : H d = some (.dK (deckKvs c t n))) : DPut H d (.str "draws") (.int k) (upd H d (.dK (deckKvs c t k))) := by
  have z := DPut.k (k := Sum.inr "draws") (v := .int k) h (by show 3 < sizeLine; decide)
  rw [dk_put] at z
  exact z
theorem ints_canLay : ∀ cs : List Int, PyData.canLayAll0 (cs.map PyData.int) = true
  | [] => rfl
  | c :: r => by
    have := ints_canLay r
    simp only [List.map_cons, PyData.canLayAll0, this, Bool.and_true]
    rfl
theorem ints_depth : ∀ cs : List Int, PyData.depthAll (cs.map PyData.int) = 0
  | [] => rfl
  | c :: r => by
    simp only [List.map_cons, PyData.depthAll, ints_depth r, PyData.depth, Nat.max_self]
theorem ints_shaped (cs : List Int) : SeqAt.shaped (.list (cs.map PyData.int)) = true := by
  unfold SeqAt.shaped
  rw [Bool.and_eq_true]
  refine ⟨?_, decide_eq_true ?_⟩
  · simp only [PyData.canLay0, ints_canLay]
  · simp only [PyData.depth, ints_depth]
    decide
theorem ints_dp {K : PySem.W.Frag} {H : Hp} : ∀ cs : List Int, DpAll K H (cs.map V.int) (cs.map PyData.int)
  | [] => .nil
  | c :: r => .cons (.int c) (ints_dp r)
end FA
end

/-! G7 -/
section
namespace FA
open PySem PySem.Spec PyProof.Rows L2

theorem low_of {z : Str} (h : z.cps.toList.all (fun c => decide (c < 128)) = true) : Low z := fun c hc => of_decide_eq_true (List.all_eq_true.mp h c hc)
theorem low_app {x y : Str} (hx : Low x) (hy : Low y) : Low (x ++ y) := by
  intro c hc
  rw [Str.cps_append, Array.toList_append] at hc
  rcases List.mem_append.mp hc with h | h
  · exact hx c h
  · exact hy c h
theorem low_join {s : Str} (hs : Low s) : ∀ {zs : List Str}, (∀ z ∈ zs, Low z) → Low (Str.join s zs)
  | [], _ => fun c hc => by simp [Str.join, Str.empty] at hc
  | [x], h => h x List.mem_cons_self
  | x :: y :: r, h => low_app (low_app (h x List.mem_cons_self) hs) (low_join hs fun z hz => h z (List.mem_cons_of_mem _ hz))
theorem low_cut {z : Str} (h : Low z) (lo hi : Option Int) : Low (cutS z lo hi) := by
  intro c hc
  unfold cutS at hc
  exact h c (List.mem_of_mem_drop (List.mem_of_mem_take (by simpa using hc)))
theorem low_one {z : Str} {k : Nat} (h : Low z) (hk : k ∈ z.cps.toList) : Low ⟨#[k]⟩ := by
  intro c hc
  have : c = k := by simpa using hc
  subst this
  exact h c hk
theorem cut_le (z : Str) (lo hi : Option Int) : (cutS z lo hi).length ≤ z.length := by
  unfold cutS
  show (List.toArray _).size ≤ z.cps.size
  rw [List.size_toArray, List.length_take, List.length_drop, Array.length_toList]
  omega
theorem cut_8 (z : Str) : (cutS z none (some 8)).length ≤ 8 := by
  unfold cutS
  show (List.toArray _).size ≤ 8
  rw [List.size_toArray, List.length_take]
  have e : HT.sIx z.length z.length (some 8) = min 8 z.length := HT.sIx_nat z.length z.length 8
  rw [e]
  omega
theorem hid_mut {d c p : Addr} {H H1 : Hp} {o : HO} (s : Same (hid d c H) (hid d c H1)) (h : H p = none) (h1 : p ≠ d) (h2 : p ≠ c) : Same (hid d c H) (hid d c (upd H1 p o)) := by
  intro b u hb
  obtain ⟨a1, a2, a3⟩ := hid_some hb
  have bp : b ≠ p := ne_of_none a3 h
  rw [hid_ne a1 a2, upd_ne bp, ← hid_ne a1 a2 (H := H1)]
  exact s b u hb
theorem Deck.upd {H : Hp} {d c p : Addr} {n : Nat} {o : HO} (D : Deck H d c n) (h1 : p ≠ d) (h2 : p ≠ c) : Deck (L2.upd H p o) d c n := by
  obtain ⟨t, m, cs, e1, e2, h⟩ := D.is
  exact ⟨t, m, cs, by rw [upd_ne h1.symm]; exact e1, by rw [upd_ne h2.symm]; exact e2, h⟩
end FA
namespace FA
open PySem PySem.Spec PyProof.Rows L2
theorem mem_rep {a : Array Nat} {c : Nat} : ∀ (k : Nat) (acc : Array Nat), c ∈ (((List.replicate k a).foldl (· ++ ·) acc).toList) → c ∈ acc.toList ∨ c ∈ a.toList
  | 0, acc, h => Or.inl h
  | k + 1, acc, h => by
    rw [List.replicate_succ, List.foldl_cons] at h
    rcases mem_rep k (acc ++ a) h with h | h
    · rw [Array.toList_append] at h
      exact (List.mem_append.mp h)
    · exact Or.inr h
theorem low_mul {z : Str} (h : Low z) (n : Int) : Low (Txt.mul z n) := by
  intro c hc
  unfold Txt.mul at hc
  split at hc
  · simp [Str.empty] at hc
  · split at hc
    · exact h c hc
    · rcases mem_rep _ _ hc with q | q
      · simp at q
      · exact h c q
theorem mul_ok {z : Str} {n : Int} (hz : z.length ≤ 100) (h0 : 0 < n) (h1 : n ≤ 10000) : PySem.MulOk z n := by
  refine ⟨?_, fun _ _ => ?_, fun _ _ => ?_⟩
  · rw [decide_eq_false (by omega), decide_eq_false (by omega)]
    rfl
  · have : 100 ≤ (2 ^ 63 - 1) / n := by
      refine Int.le_ediv_of_mul_le h0 ?_
      omega
    omega
  · have h2 : n.toNat ≤ 10000 := by omega
    have : z.length * n.toNat ≤ 100 * 10000 := Nat.mul_le_mul hz h2
    have e : Builtin.Str.tooLong (z.length * n.toNat) = false := by
      unfold Builtin.Str.tooLong
      exact decide_eq_false (by rw [sizeLine_eq]; omega)
    exact e
/-- what has come since H -/
def frs (H H' : Hp) : Hp := fun b => match H b with
  | none => H' b
  | some _ => none
theorem frs_new {H H' : Hp} {b : Addr} (h : H b = none) : frs H H' b = H' b := by
  unfold frs
  rw [h]
theorem frs_some {H H' : Hp} {b : Addr} {o : HO} (h : frs H H' b = some o) : H b = none ∧ H' b = some o := by
  unfold frs at h
  cases e : H b with
  | none => rw [e] at h; exact ⟨rfl, h⟩
  | some u => rw [e] at h; cases h
/-- all that was tracked still is -/
def Dm (H H' : Hp) : Prop := ∀ b, H' b = none → H b = none
theorem dm_same {H H' : Hp} (s : Same H H') : Dm H H' := fun b h => s.free h
theorem dm_of {H H' : Hp} {d c : Addr} {n : Nat} (D : Deck H' d c n) (s : Same (hid d c H) (hid d c H')) : Dm H H' := fun b h => by
  obtain ⟨h1, h2⟩ := D.ne h
  have q := s.free (l := b) (by rw [hid_ne h1 h2]; exact h)
  rw [hid_ne h1 h2] at q
  exact q
theorem Dm.trans {H H1 H2 : Hp} (a : Dm H H1) (b : Dm H1 H2) : Dm H H2 := fun x h => a x (b x h)
theorem frs_sub {H H' : Hp} : Same (frs H H') H' := fun b o h => (frs_some h).2
theorem frs_back {H0 H H' : Hp} (m : Dm H0 H) : Same (frs H H') (frs H0 H') := fun b o h => by
  obtain ⟨h1, h2⟩ := frs_some h
  rw [frs_new (m b h1)]
  exact h2
theorem frs_on {H H1 H2 : Hp} {d c : Addr} {n : Nat} (D : Deck H d c n) (s : Same (hid d c H1) (hid d c H2)) : Same (frs H H1) (frs H H2) := fun b o h => by
  obtain ⟨h1, h2⟩ := frs_some h
  obtain ⟨a1, a2⟩ := D.ne h1
  rw [frs_new h1, ← hid_ne a1 a2 (H := H2)]
  exact s b o (by rw [hid_ne a1 a2]; exact h2)
theorem frs_hid {H H' : Hp} {d c : Addr} {n : Nat} (D : Deck H d c n) : Same (frs H H') (hid d c H') := fun b o h => by
  obtain ⟨h1, h2⟩ := frs_some h
  obtain ⟨a1, a2⟩ := D.ne h1
  rw [hid_ne a1 a2]
  exact h2
/-- a write to what was there is not seen -/
theorem frs_old {H H' : Hp} {p : Addr} {o u : HO} (h : H p = some u) : frs H (upd H' p o) = frs H H' := by
  funext b
  unfold frs
  cases e : H b with
  | some _ => rfl
  | none => exact upd_ne fun z => by rw [z, h] at e; cases e
theorem frs_up {H H' : Hp} {p : Addr} {o : HO} (h : H' p = none) : Same (frs H H') (frs H (upd H' p o)) := fun b u q => by
  obtain ⟨h1, h2⟩ := frs_some q
  rw [frs_new h1, upd_ne (ne_of_none h2 h)]
  exact h2
theorem datAll_snoc {H : Hp} : ∀ {ds : List PyData} {xs : List V} {d : PyData} {y : V}, DatAll H ds xs → Dat H d y → DatAll H (ds ++ [d]) (xs ++ [y])
  | [], xs, d, y, h, q => by
    simp only [DatAll] at h
    subst h
    simp only [List.nil_append, DatAll]
    exact ⟨y, [], rfl, q, rfl⟩
  | e :: ds, xs, d, y, h, q => by
    simp only [DatAll] at h
    obtain ⟨z, zs, rfl, h1, h2⟩ := h
    simp only [List.cons_append, DatAll]
    exact ⟨z, zs ++ [y], rfl, h1, datAll_snoc h2 q⟩
end FA
end

/-! G8 -/
section
namespace FA
open PySem PySem.Spec PyProof.Rows L2
section
variable {X : Cx}
/-- the order of data of one shape -/
def rLtD : R2 := fun x y H Q => ∃ d e, Dat H d x ∧ Dat H e y ∧ PySem.W.alike d e = true ∧ d ≠ .none ∧ d.depth ≤ 60 ∧ Q (.bl (PySem.W.dataLt d e)) H
theorem opLtD {k : Nat} (hr : Room k X.A) : OpR X (compareOp .Lt) rLtD := by
  intro pins s σ H x y v u Q I rx ry h
  obtain ⟨d, e, hd, he, ha, hn, hdp, q⟩ := h
  obtain ⟨as, r1, _⟩ := reads_of I.hok d _ _ hd rx
  obtain ⟨bs, r2, _⟩ := reads_of I.hok e _ _ he ry
  have hu := hr.units
  have hm : min d.depth e.depth ≤ d.depth := Nat.min_le_left _ _
  exact PySem.W.rcLt_alike d e X.A s _ _ as bs r1 r2 ha hn (by omega) _ _ _ _ ⟨.bl _, H, I, rfl, q⟩
end
/-- what repr asks -/
structure Rp (d : PyData) : Prop where
  sh : d.showable = true
  dp : d.depth ≤ 60
  ln : d.shown.length ≤ sizeLine
theorem Okd.rp {D W : Nat} {d : PyData} (h : Okd D W d) (hD : D ≤ 60) (hW : W ≤ 270000) : Rp d := ⟨h.sh, Nat.le_trans h.dp hD, h.fits hW⟩
theorem rp_bools (a b c e : Bool) : Rp (.list [.bool a, .bool b, .bool c, .bool e]) :=
  Okd.rp (okd_list (oks_cons (W := 0) okd_bool (oks_cons (W := 0) okd_bool (oks_cons (W := 0) okd_bool (oks_cons (W := 0) okd_bool (oks_nil (D := 0) (W := 0))))))) (by decide) (by decide)
theorem rp_bools3 (a b c : Bool) : Rp (.list [.bool a, .bool b, .bool c]) :=
  Okd.rp (okd_list (oks_cons (W := 0) okd_bool (oks_cons (W := 0) okd_bool (oks_cons (W := 0) okd_bool (oks_nil (D := 0) (W := 0)))))) (by decide) (by decide)
theorem rp_strs2 {a b : Str} (ha : Low a) (hb : Low b) (la : a.length ≤ 100) (lb : b.length ≤ 100) : Rp (.list [.str a, .str b]) :=
  Okd.rp (okd_list (oks_cons (okd_str ha la) (oks_cons (okd_str hb lb) (oks_nil (D := 0) (W := 0))))) (by decide) (by decide)
theorem strEq {x y : Str} (h : x = y) : (!decide (V.str x = V.str y)) = false := by rw [h, decide_eq_true rfl]; rfl
end FA
end

/-! F5 -/
section
namespace PySem.SeqAt
open AutoSeq1 (wpAny_loadPart')
open MeetsSeq MeetsSeq2 MeetsSeq3 SeqRoads2
/-- two tuples whose first items differ: these decide -/
theorem tuple_ltHead (l b : Addr) (items items2 : Array Value) (n n2 : Nat) (dd dd2 : Option Addr) (sl sl2 : Array (Option Value)) (h1 : 0 < items.size) (h2 : 0 < items2.size) (r : Bool) :
    Meets (Builtin.«tuple.__lt__» ⟨[.ref l, .ref b], []⟩)
      (fun A R s => s.heap.get? l = some { cls := .type "tuple", dict := dd, data := .seq items n, slots := sl } ∧ s.heap.get? b = some { cls := .type "tuple", dict := dd2, data := .seq items2 n2, slots := sl2 } ∧
        EqAt A.in1 s items[0] items2[0] false ∧ RcLt A.in1 s items[0] items2[0] r ∧ R (.ok (.ret (.bool r))) s) :=
  .of_wp fun prog w A R s h => by
    obtain ⟨hp, g, d, tk, os⟩ := s; obtain ⟨hl, hb, he, hr, h⟩ := h
    have f2 := AutoSeq1.sub_tuple_tuple
    have hZ : (items.toList.zip items2.toList).length = min items.size items2.size := by simp
    have hlt : 0 < (items.toList.zip items2.toList).length := by rw [hZ]; omega
    wp_walk using wpAny_loadPart' hl, wpAny_loadPart' hb, wpAny_forIn_list _ (fun rest b s' => b.1 = none ∧ s' = ⟨hp, g, d, tk, os⟩ ∧ rest = (items.toList.zip items2.toList)) _
    case turn =>
      rintro ⟨y, x⟩ rest b s' ⟨hb', rfl, hz⟩
      rw [← List.drop_zero (l := items.toList.zip items2.toList), List.drop_eq_getElem_cons hlt] at hz
      injection hz with hyx hrest
      have hy : y = items[0] := by have := congrArg Prod.fst hyx; simpa using this
      have hx : x = items2[0] := by have := congrArg Prod.snd hyx; simpa using this
      subst hy hx
      refine wpAny_bind (he prog w _ _ ?_)
      refine wpAny_ite_true (by rfl) ?_
      refine wpAny_bind (wpAny_rule (wpAny_bind (hr prog w _ _ (wpAny_bind (wpAny_pure (wpAny_pure ?_))))))
      exact wpAny_pure ⟨_, rfl, h⟩
    case fin =>
      rintro ⟨b1, b2⟩ s' ⟨hb', rfl, hz⟩
      rw [← hz] at hlt
      exact absurd hlt (by simp)
    case h =>
      exact ⟨rfl, rfl, rfl⟩
theorem RcLt.tupHead {A : Around} {s : Shared} {l b : Addr} {items items2 : Array Value} {r : Bool} (hl : s.heap.IsTuple l items) (hb : s.heap.IsTuple b items2) (hu : A.units < cLine)
    (h1 : 0 < items.size) (h2 : 0 < items2.size) (he : EqAt A.in1 s items[0] items2[0] false) (hr : RcLt A.in1 s items[0] items2[0] r) : RcLt A s (.ref l) (.ref b) r := fun prog w E Q h => by
  obtain ⟨⟨cls, dd, data, sl⟩, ho, hc, n, hd⟩ := id hl
  obtain ⟨⟨cls2, dd2, data2, sl2⟩, ho2, hc2, n2, hd2⟩ := id hb
  simp only at hc hd hc2 hd2
  subst hc hd hc2 hd2
  exact richCompare_meets_room (op := .Lt) ⟨_, ho, rfl⟩ ⟨_, ho2, rfl⟩ F.slot_tuple_lt F.entry_tuple_lt (F.args_tuple_lt_2 _ _) (tuple_ltHead l b items items2 n n2 dd dd2 sl sl2 h1 h2 r)
    ⟨ho, ho2, he, hr, show Value.bool r ≠ Value.notImplemented ∧ Q (.bool r) s from ⟨(fun x => nomatch x), h⟩⟩ hu
end PySem.SeqAt
namespace FA
open PySem PySem.Spec PyProof.Rows L2
section
variable {X : Cx}
/-- the order of data; of tuples whose first items are unlike texts -/
def rLtH : R2 := fun x y H Q => ∃ (a b : Str) (ds es : List PyData), Dat H (.tuple (.str a :: ds)) x ∧ Dat H (.tuple (.str b :: es)) y ∧ a ≠ b ∧ Q (.bl (decide (a.cps.toList < b.cps.toList))) H
theorem opLtH {k : Nat} (hr : Room k X.A) : OpR X (compareOp .Lt) rLtH := by
  intro pins s σ H x y v u Q I rx ry h
  obtain ⟨a, b, ds, es, hd, he, hn, q⟩ := h
  obtain ⟨as, r1, _⟩ := reads_of I.hok _ _ _ hd rx
  obtain ⟨bs, r2, _⟩ := reads_of I.hok _ _ _ he ry
  have hu := hr.units
  cases r1 with
  | @tuple l o vs n _ as₁ h1 h2 h3 h4 =>
    cases r2 with
    | @tuple l' o' vs' n' _ bs₁ k1 k2 k3 k4 =>
      obtain ⟨vs, rfl⟩ : ∃ z : List Value, vs = z.toArray := ⟨vs.toList, by simp⟩
      obtain ⟨vs', rfl⟩ : ∃ z : List Value, vs' = z.toArray := ⟨vs'.toList, by simp⟩
      simp only [] at h4 k4
      cases h4 with
      | cons p1 p2 =>
        cases k4 with
        | cons z1 z2 =>
          cases p1 with
          | str _ t =>
            cases z1 with
            | str _ t' =>
              have e0 : (a == b) = false := by simpa using hn
              have E0 := PySem.SeqAt.EqAt.str_str (A := X.A.in1) (s := s) a t b t'
              rw [e0] at E0
              exact PySem.SeqAt.RcLt.tupHead ⟨_, h1, h2, _, h3⟩ ⟨_, k1, k2, _, k3⟩ (by omega) (by simp) (by simp) E0 (fun prog w E Q' hq => PySem.P.lt_str hq) _ _ _ _ ⟨.bl _, H, I, rfl, q⟩
end
end FA
end

/-! K02a -/
section
open PySem PySem.Spec PyProof.Rows L2 FA
namespace K02
def top (i : Nat) : Stmt := PySem.Challenge.pw_failsalike_k02_values_and_kinds.main.body.getD i (.Pass ⟨0, 0, 0, 0⟩)
abbrev FnP (K : PySem.W.Frag) (x : Str) (i : Nat) (f : Addr) (fd : FuncData) : Prop := FunD K x x (defArgs (top i)) (defBody (top i)) (defScope (top i)) [] [] f fd
/-- a def that reads some data and hands back a value -/
def spPure (g : PyData → V) : Sp := fun vs H Q _ => ∃ v d, vs = [v] ∧ Dat H d v ∧ (∀ z, d = .str z → z.length ≤ sizeLine) ∧ ∀ H', Same H H' → Q (g d) H'
section
variable {P : Program} {w : World} {K : PySem.W.Frag} {mg : Str → Option Value} {base : Heap} {f : Addr} {fd : FuncData}
theorem sc_is_name : FnScope ["thing", "letter"] ["thing"] (defScope (top 2)) := ⟨rfl, rfl, rfl, by decide +kernel, rfl, by decide +kernel, by decide +kernel⟩
theorem ok_is_name (F : FnP K "is_name" 2 f fd) (hS : ∃ o, base.get? sysModules = some o) (B : Blt mg) :
    FnG P w K mg base CX0 1 f fd ["thing"] (spPure fun d => .bl (isName d)) := by
  refine okD F sc_is_name hS (fun vs H Q E h => ?_) (fun cdv A outer s H vs Q E R h => ?_)
  · obtain ⟨v, d, rfl, _⟩ := h
    rfl
  obtain ⟨v, d, rfl, hd, hz, q⟩ := h
  obtain ⟨m_isinstance, m_len, m_all, m_abs, m_repr, m_str, m_int, m_bool, m_list, m_tuple, m_range⟩ := B
  have nd := sc_is_name.nd
  refine ⟨_, (pss_cons (ps_if (PW.pt (pw_or (pt_not (pt_val (pe_callB call_isi rfl m_isinstance bt_isinstance (pa_cons (pv 0) (pa_cons (pe_bltn (v := .ty "str") (u := .type "str") rfl m_str bt_str rfl) pa_nil))))) (pw_or1 (pt_not (pt_chain opLe opLe pe_int (pe_callB call_lenA rfl m_len bt_len (pa_cons (pv 0) pa_nil)) pe_int))))) (pss_one (ps_ret pe_bl)) pss_nil) (pss_one (ps_ret (pe_callB (cr_all rfl) rfl m_all bt_all (pa_cons (pe_lc1 1 rfl nd (pi_str (pv 0)) (by kernel_rfl) (fun _ _ _ _ _ => pg_name (i := 1) nd rfl (Or.inl rfl)) (fun _ _ _ _ _ => pts_nil) (fun _ _ _ _ _ => (pe_chain opLe opLe pe_str (pv 1) pe_str))) pa_nil))))), ?r⟩
  case r =>
    have ht := ty_dat (K := K) hd
    have hk := kit_str (K := K) d
    cases d with
    | str z =>
      simp only [Dat] at hd
      subst hd
      have hl := hz z rfl
      refine ⟨_, rfl, _, _, _, _, _, rfl, .ty _, ht, hk, _, rfl, iteF ?_⟩
      refine ⟨_, rfl, .inr ⟨z, rfl, hl, .inl ⟨_, _, rfl, rfl, _, rfl, ?_⟩⟩⟩
      refine ite2 (fun c1 => ?_) (fun c1 => ?_)
      · refine .inl ⟨_, _, rfl, rfl, _, rfl, ?_⟩
        refine ite2 (fun c2 => ?_) (fun c2 => ?_)
        · have e : isName (.str z) = false := by
            have c3 : ¬ (z.length ≤ 8) := fun h => by
              have : decide ((z.length : Int) ≤ 8) = true := decide_eq_true (by omega)
              rw [this] at c2
              cases c2
            simp [isName, nameS, c3]
          have q1 := q H (Same.refl H)
          dsimp only at q1
          rw [e] at q1
          exact q1
        · have l1 : 1 ≤ z.length := by
            have := of_decide_eq_true c1
            omega
          have l8 : z.length ≤ 8 := by
            by_cases h : (z.length : Int) ≤ 8
            · omega
            · rw [decide_eq_false h] at c2
              exact absurd rfl c2
          refine ⟨_, rfl, z, rfl, fun D hD => lc_it walk_str (fun i H' => Same H H' ∧ H' D = some (.lst ((z.cps.toList.take i).map fun c => V.bl (okc c))))
            ⟨same_new hD _, by rw [upd_same]; rfl⟩ (fun _ _ _ _ => trivial) ?_ ?_⟩
          · rintro i x H1 H2 hi ⟨s1, e1⟩ ⟨rfl, c, hc, rfl⟩
            have hc' : z.cps.toList[i]? = some c := by simpa using hc
            have fin : ∀ b : Bool, b = okc c → ∃ acc, H2 D = some (.lst acc) ∧ acc.length < sizeLine ∧
                (Same H (upd H2 D (.lst (acc ++ [V.bl b]))) ∧ upd H2 D (.lst (acc ++ [V.bl b])) D = some (.lst ((z.cps.toList.take (i + 1)).map fun c => V.bl (okc c)))) := by
              rintro b rfl
              refine ⟨_, e1, ?_, same_mut s1 hD, ?_⟩
              · have : ((z.cps.toList.take i).map fun c => V.bl (okc c)).length ≤ 8 := by
                  rw [List.length_map, List.length_take]
                  have : z.cps.toList.length = z.length := by simp [Str.length]
                  omega
                exact Nat.lt_of_le_of_lt this (by decide)
              · rw [upd_same, List.take_add_one, hc']
                simp
            refine ⟨rfl, ⟨_, rfl, .inr ⟨_, _, rfl, rfl, _, rfl, ite2 (fun c3 => .inr ⟨_, _, rfl, rfl, fin _ ?_⟩) (fun c3 => fin _ ?_)⟩⟩⟩
            · have a1 : ¬ c < 97 := by
                intro h
                rw [sgn_a, lt1, decide_eq_true h] at c3
                cases c3
              rw [sgn_z, lt1]
              unfold okc
              by_cases h : c ≤ 122
              · rw [decide_eq_true h, decide_eq_false (by omega : ¬ 122 < c), decide_eq_true (by omega : 97 ≤ c)]
                rfl
              · rw [decide_eq_false h, decide_eq_true (by omega : 122 < c), Bool.and_false]
                rfl
            · have a1 : c < 97 := by
                by_cases h : c < 97
                · exact h
                · rw [sgn_a, lt1, decide_eq_false h] at c3
                  exact absurd rfl c3
              unfold okc
              rw [decide_eq_false (by omega : ¬ 97 ≤ c)]
              rfl
          · rintro H' ⟨s1, e1⟩
            have eall : (z.cps.toList.take z.cps.size) = z.cps.toList := List.take_of_length_le (by simp)
            rw [eall] at e1
            refine ⟨D, z.cps.toList.map okc, rfl, .inl (.inl ?_), ?_⟩
            · rw [e1, List.map_map]
              try rfl
            · have e : isName (.str z) = (z.cps.toList.map okc).all id := by
                simp [isName, nameS, lower, l1, l8, List.all_map, okc]
                try rfl
              have q1 := q H' s1
              dsimp only at q1
              rw [e] at q1
              exact q1
      · have e : isName (.str z) = false := by
          have c2 : ¬ (1 ≤ z.length) := fun h => c1 (decide_eq_true (by omega))
          simp [isName, nameS, c2]
        have q1 := q H (Same.refl H)
        dsimp only at q1
        rw [e] at q1
        exact ⟨_, rfl, q1⟩
    | _ => exact ⟨_, rfl, _, _, _, _, _, rfl, .ty _, ht, hk, _, rfl, q H (Same.refl H)⟩
theorem sc_is_number : FnScope ["thing"] ["thing"] (defScope (top 3)) := ⟨rfl, rfl, rfl, by decide +kernel, rfl, by decide +kernel, by decide +kernel⟩
theorem ok_is_number {tR : Tok} (F : FnP K "is_number" 3 f fd) (hS : ∃ o, base.get? sysModules = some o) (B : Blt mg) (m_RANGE : mg "RANGE" = some (.int (10 ^ 12) tR)) :
    FnG P w K mg base CX0 1 f fd ["thing"] (spPure fun d => .bl (isNum d)) := by
  refine okD F sc_is_number hS (fun vs H Q E h => ?_) (fun cdv A outer s H vs Q E R h => ?_)
  · obtain ⟨v, d, rfl, _⟩ := h
    rfl
  obtain ⟨v, d, rfl, hd, hz, q⟩ := h
  obtain ⟨m_isinstance, m_len, m_all, m_abs, m_repr, m_str, m_int, m_bool, m_list, m_tuple, m_range⟩ := B
  have nd := sc_is_number.nd
  refine ⟨_, (pss_cons (ps_if (PW.pt (pw_or (pt_not (pt_val (pe_callB call_isi rfl m_isinstance bt_isinstance (pa_cons (pv 0) (pa_cons (pe_bltn (v := .ty "int") (u := .type "int") rfl m_int bt_int rfl) pa_nil))))) (pw_or1 (pt_val (pe_callB call_isi rfl m_isinstance bt_isinstance (pa_cons (pv 0) (pa_cons (pe_bltn (v := .ty "bool") (u := .type "bool") rfl m_bool bt_bool rfl) pa_nil))))))) (pss_one (ps_ret pe_bl)) pss_nil) (pss_one (ps_ret (pe_chain opLe opLe (pe_un un_neg (pe_glob (v := .int _) rfl m_RANGE ⟨_, rfl⟩)) (pv 0) (pe_glob (v := .int _) rfl m_RANGE ⟨_, rfl⟩))))), ?r⟩
  case r =>
    have ht := ty_dat (K := K) hd
    have hk := kit_int (K := K) d
    have hb := kit_bool (K := K) d
    have q1 := q H (Same.refl H)
    cases d with
    | int i =>
      simp only [Dat] at hd
      subst hd
      refine ⟨_, rfl, _, _, _, _, _, rfl, .ty _, ht, hk, _, rfl, iteF ?_⟩
      refine ⟨_, rfl, _, _, _, _, _, rfl, .ty _, ht, hb, _, rfl, ?_⟩
      refine ⟨_, rfl, _, rfl, .inl ⟨_, _, rfl, rfl, _, rfl, ite2 (fun c => .inl ⟨_, _, rfl, rfl, ?_⟩) (fun c => ?_)⟩⟩
      · have e : isNum (.int i) = decide (i ≤ 10 ^ 12) := by
          simp only [isNum]
          have c' : -(10 ^ 12) ≤ i := of_decide_eq_true c
          rw [decide_eq_true c']
          try rfl
        dsimp only at q1
        rw [e] at q1
        exact q1
      · have e : isNum (.int i) = false := by
          simp only [isNum]
          have c' : ¬ -(10 ^ 12) ≤ i := fun z => c (decide_eq_true z)
          rw [decide_eq_false c']
          try rfl
        dsimp only at q1
        rw [e] at q1
        exact q1
    | bool b => 
      refine ⟨_, rfl, _, _, _, _, _, rfl, .ty _, ht, hk, _, rfl, iteF ?_⟩
      exact ⟨_, rfl, _, _, _, _, _, rfl, .ty _, ht, hb, _, rfl, q1⟩
    | _ => exact ⟨_, rfl, _, _, _, _, _, rfl, .ty _, ht, hk, _, rfl, q1⟩

theorem sc_is_value : FnScope ["thing"] ["thing"] (defScope (top 4)) := ⟨rfl, rfl, rfl, by decide +kernel, rfl, by decide +kernel, by decide +kernel⟩
theorem ok_is_value (F : FnP K "is_value" 4 f fd) (hS : ∃ o, base.get? sysModules = some o) (c_is_number : Cal P w K mg base 1 "is_number" ["thing"] (spPure fun d => .bl (isNum d))) (c_is_name : Cal P w K mg base 1 "is_name" ["thing"] (spPure fun d => .bl (isName d))) :
    FnG P w K mg base CX0 2 f fd ["thing"] (spPure fun d => .bl (isVal d)) := by
  refine okD F sc_is_value hS (fun vs H Q E h => ?_) (fun cdv A outer s H vs Q E R h => ?_)
  · obtain ⟨v, d, rfl, _⟩ := h
    rfl
  obtain ⟨v, d, rfl, hd, hz, q⟩ := h
  have nd := sc_is_value.nd
  refine ⟨_, (pss_one (ps_ret (pe_or (pe_cmpR op_isN (pv 0) pe_non (nomark _)) (pe_or (cc c_is_number R (pa_cons (pv 0) pa_nil)) (pe_one (cc c_is_name R (pa_cons (pv 0) pa_nil))))))), ?r⟩
  case r =>
    refine ⟨_, rfl, rfl, _, rfl, ?_⟩
    rw [dat_non hd]
    have rest : ∀ (hn : isVal d = (isNum d || isName d)), tOrV (tCall (spPure fun d => .bl (isNum d)) [] E0 (tCons (tVar 0) tNil)) (tCall (spPure fun d => .bl (isName d)) [] E0 (tCons (tVar 0) tNil)) (L2.start ["thing"] [v]) H Q := by
      intro hn
      refine ⟨_, rfl, v, d, rfl, hd, hz, fun H1 s1 => ⟨_, rfl, ?_⟩⟩
      cases e : isNum d with
      | true =>
        have q1 := q H1 s1
        dsimp only at q1
        rw [hn, e] at q1
        exact q1
      | false =>
        refine ⟨_, rfl, v, d, rfl, dat_same s1 _ _ hd, hz, fun H2 s2 => ?_⟩
        have q1 := q H2 (s1.trans s2)
        dsimp only at q1
        rw [hn, e] at q1
        exact q1
    cases d with
    | none => exact q H (Same.refl H)
    | _ => exact rest rfl

def kindN : PyData → Str
  | .none => "nothing"
  | .str _ => "word"
  | _ => "number"
theorem sc_kind_of : FnScope ["value"] ["value"] (defScope (top 5)) := ⟨rfl, rfl, rfl, by decide +kernel, rfl, by decide +kernel, by decide +kernel⟩
theorem ok_kind_of (F : FnP K "kind_of" 5 f fd) (hS : ∃ o, base.get? sysModules = some o) (B : Blt mg) :
    FnG P w K mg base CX0 1 f fd ["value"] (spPure fun d => .str (kindN d)) := by
  refine okD F sc_kind_of hS (fun vs H Q E h => ?_) (fun cdv A outer s H vs Q E R h => ?_)
  · obtain ⟨v, d, rfl, _⟩ := h
    rfl
  obtain ⟨v, d, rfl, hd, hz, q⟩ := h
  have nd := sc_kind_of.nd
  obtain ⟨m_isinstance, m_len, m_all, m_abs, m_repr, m_str, m_int, m_bool, m_list, m_tuple, m_range⟩ := B
  refine ⟨_, (pss_cons (ps_if (pt_cmpR op_isN (pv 0) pe_non (nomark _)) (pss_one (ps_ret pe_str)) pss_nil) (pss_cons (ps_if (pt_val (pe_callB call_isi rfl m_isinstance bt_isinstance (pa_cons (pv 0) (pa_cons (pe_bltn (v := .ty "str") (u := .type "str") rfl m_str bt_str rfl) pa_nil)))) (pss_one (ps_ret pe_str)) pss_nil) (pss_one (ps_ret pe_str)))), ?r⟩
  case r =>
    have ht := ty_dat (K := K) hd
    have hk := kit_str (K := K) d
    have q1 := q H (Same.refl H)
    refine ⟨_, rfl, rfl, _, rfl, ?_⟩
    rw [dat_non hd]
    cases d with
    | none => exact q1
    | _ => exact ⟨_, rfl, _, _, _, _, _, rfl, .ty _, ht, hk, _, rfl, q1⟩

def isV : PyData → Bool
  | .none | .int _ | .str _ => true
  | _ => false
def before : PyData → PyData → Bool
  | .none, .none => false
  | .none, _ => true
  | .int _, .none => false
  | .int i, .int j => decide (i < j)
  | .int _, _ => true
  | .str x, .str y => decide (x.cps.toList < y.cps.toList)
  | _, _ => false
def spBefore : Sp := fun vs H Q _ => ∃ v d u e, vs = [v, u] ∧ Dat H d v ∧ Dat H e u ∧ isV d = true ∧ isV e = true ∧ (∀ z, d = .str z → z.length ≤ sizeLine) ∧ (∀ z, e = .str z → z.length ≤ sizeLine) ∧
  ∀ H', Same H H' → Q (.bl (before d e)) H'
def spRankP : Sp := fun vs H Q _ => ∃ v d, vs = [v] ∧ Dat H d v ∧ (∀ z, d = .str z → z.length ≤ sizeLine) ∧
  ∀ p H', H p = none → Same H H' → H' p = some (.tup [.str (kindN d), v]) → Q (.ref p) H'
theorem sc_rank_of : FnScope ["value"] ["value"] (defScope (top 6)) := ⟨rfl, rfl, rfl, by decide +kernel, rfl, by decide +kernel, by decide +kernel⟩
theorem ok_rank_of (F : FnP K "rank_of" 6 f fd) (hS : ∃ o, base.get? sysModules = some o) (c_kind_of : Cal P w K mg base 1 "kind_of" ["value"] (spPure fun d => .str (kindN d))) :
    FnG P w K mg base CX0 2 f fd ["value"] spRankP := by
  refine okD F sc_rank_of hS (fun vs H Q E h => ?_) (fun cdv A outer s H vs Q E R h => ?_)
  · obtain ⟨v, d, rfl, _⟩ := h
    rfl
  obtain ⟨v, d, rfl, hd, hz, q⟩ := h
  have nd := sc_rank_of.nd
  refine ⟨_, (pss_one (ps_ret (pe_tup (pa_cons (cc c_kind_of R (pa_cons (pv 0) pa_nil)) (pa_cons (pv 0) pa_nil))))), ?r⟩
  case r =>
    refine ⟨_, rfl, v, d, rfl, hd, hz, fun H1 s1 => ⟨_, rfl, by show 2 ≤ sizeLine; decide, fun p hp => ?_⟩⟩
    exact q p _ (s1.free hp) (s1.trans (same_new hp _)) upd_same
theorem lt_pair {k : Str} {d e : PyData} (h : PySem.W.alike d e = true) : PySem.W.dataLt (.tuple [.str k, d]) (.tuple [.str k, e]) = (if PyData.eqv d e = true then false else PySem.W.dataLt d e) := by
  rw [PySem.W.dataLt_tuple, PySem.W.dataLt_all_yes (x := .str k) (y := .str k) (by simp [PySem.W.alike]) (by simp [PyData.eqv])]
  cases q : PyData.eqv d e with
  | true =>
    rw [PySem.W.dataLt_all_yes h q, PyProof.Rows.lex_irrefl]
    rfl
  | false => exact PySem.W.dataLt_all_no h q
theorem sc_is_before : FnScope ["one", "other"] ["one", "other"] (defScope (top 7)) := ⟨rfl, rfl, rfl, by decide +kernel, rfl, by decide +kernel, by decide +kernel⟩
theorem ok_is_before (F : FnP K "is_before" 7 f fd) (hS : ∃ o, base.get? sysModules = some o) (c_rank_of : Cal P w K mg base 2 "rank_of" ["value"] spRankP) :
    FnG P w K mg base CX0 3 f fd ["one", "other"] spBefore := by
  refine okD F sc_is_before hS (fun vs H Q E h => ?_) (fun cdv A outer s H vs Q E R h => ?_)
  · obtain ⟨v, d, u, e, rfl, _⟩ := h
    rfl
  obtain ⟨v, d, u, e, rfl, hd, he, vd, ve, hz, hy, q⟩ := h
  have nd := sc_is_before.nd
  refine ⟨_, (pss_one (ps_ret (pe_cmpR (OpR.or (opLtD R.room) (opLtH R.room)) (cc c_rank_of R (pa_cons (pv 0) pa_nil)) (cc c_rank_of R (pa_cons (pv 1) pa_nil)) (nomark _)))), ?r⟩
  case r =>
    refine ⟨_, rfl, v, d, rfl, hd, hz, fun p H1 hp s1 e1 => ⟨_, rfl, u, e, rfl, dat_same s1 _ _ he, hy, fun p2 H2 hp2 s2 e2 => ?_⟩⟩
    have q1 := q H2 (s1.trans s2)
    have d1 : Dat H2 (.tuple [.str (kindN d), d]) (.ref p) := by
      have h1 := dat_same (s1.trans s2) _ _ hd
      simp only [Dat, DatAll]
      exact ⟨p, _, rfl, s2 _ _ e1, .str (kindN d), [v], rfl, rfl, v, [], rfl, h1, rfl⟩
    have d2 : Dat H2 (.tuple [.str (kindN e), e]) (.ref p2) := by
      have h2 := dat_same (s1.trans s2) _ _ he
      simp only [Dat, DatAll]
      exact ⟨p2, _, rfl, e2, .str (kindN e), [u], rfl, rfl, u, [], rfl, h2, rfl⟩
    have ne : kindN d ≠ kindN e → before d e = decide ((kindN d).cps.toList < (kindN e).cps.toList) → (rLtD (.ref p) (.ref p2) H2 Q ∨ rLtH (.ref p) (.ref p2) H2 Q) := fun h hb => by
      refine .inr ⟨_, _, _, _, d1, d2, h, ?_⟩
      rw [← hb]
      exact q1
    have same : kindN d = kindN e → PySem.W.alike d e = true → before d e = (if PyData.eqv d e = true then false else PySem.W.dataLt d e) → (rLtD (.ref p) (.ref p2) H2 Q ∨ rLtH (.ref p) (.ref p2) H2 Q) := fun h ha hb => by
      refine .inl ⟨_, _, d1, d2, ?_, (fun z => nomatch z), ?_, ?_⟩
      · simp only [PySem.W.alike, PySem.W.alikeAll, ha, Bool.and_self]
      · have l1 : d.depth = 0 := by
          cases d with
          | none => simp [PyData.depth]
          | int i => simp [PyData.depth]
          | str z => simp [PyData.depth]
          | _ => cases vd
        simp only [PyData.depth, PyData.depthAll, l1]
        decide
      · rw [h, lt_pair ha, ← hb]
        exact q1
    cases d with
    | none =>
      cases e with
      | none => exact same rfl (by simp [PySem.W.alike]) (by simp [PyData.eqv, before])
      | int j => exact ne (by simp only [kindN]; decide) (by simp only [kindN, before]; rfl)
      | str y => exact ne (by simp only [kindN]; decide) (by simp only [kindN, before]; rfl)
      | _ => cases ve
    | int i =>
      cases e with
      | none => exact ne (by simp only [kindN]; decide) (by simp only [kindN, before]; rfl)
      | int j =>
        refine same rfl (by simp [PySem.W.alike]) ?_
        rw [PySem.W.dataLt_int]
        simp only [PyData.eqv, before, beq_iff_eq]
        by_cases c : i = j
        · simp [c]
        · simp [c]
      | str y => exact ne (by simp only [kindN]; decide) (by simp only [kindN, before]; rfl)
      | _ => cases ve
    | str x =>
      cases e with
      | none => exact ne (by simp only [kindN]; decide) (by simp only [kindN, before]; rfl)
      | int j => exact ne (by simp only [kindN]; decide) (by simp only [kindN, before]; rfl)
      | str y =>
        refine same rfl (by simp [PySem.W.alike]) ?_
        rw [PySem.W.dataLt_str]
        simp only [PyData.eqv, before, beq_iff_eq]
        by_cases c : x = y
        · subst c
          simp [List.lt_irrefl]
        · simp [c]
      | _ => cases ve
    | _ => cases vd
end
end K02
end

/-! K02c -/
section
open PySem PySem.Spec PyProof.Rows L2 FA
namespace K02
section
variable {P : Program} {w : World} {K : PySem.W.Frag} {mg : Str → Option Value} {base : Heap} {f : Addr} {fd : FuncData}
def spDeck (K : PySem.W.Frag) : Sp := fun vs H Q _ => ∃ (a : Addr) (ns : List Int), vs = [.ref a] ∧ SqL K H a (ns.map V.int) ∧ ns.length ≤ 63 ∧
  ∀ d c H', H d = none → H c = none → Deck H' d c 0 → Same H H' → Q (.ref d) H'
theorem cut_ints (ns : List Int) (lo hi : Option Int) : ∃ cs : List Int, cutV (ns.map V.int) lo hi = cs.map V.int ∧ cs.length ≤ ns.length := by
  unfold cutV
  refine ⟨(ns.drop (HT.sIx (ns.map V.int).length 0 lo)).take (HT.sIx (ns.map V.int).length (ns.map V.int).length hi - HT.sIx (ns.map V.int).length 0 lo), ?_, ?_⟩
  · rw [List.map_take, List.map_drop]
  · rw [List.length_take, List.length_drop]
    omega
theorem sc__law_deck : FnScope ["_law_script", "_law_cells", "_law_total", "_law_cell"] ["_law_script"] (defScope (top 9)) := ⟨rfl, rfl, rfl, by decide +kernel, rfl, by decide +kernel, by decide +kernel⟩
theorem ok__law_deck (F : FnP K "_law_deck" 9 f fd) (hS : ∃ o, base.get? sysModules = some o) (B : Blt mg) :
    FnG P w K mg base CX0 1 f fd ["_law_script"] (spDeck K) := by
  refine okD F sc__law_deck hS (fun vs H Q E h => ?_) (fun cdv A outer s H vs Q E R h => ?_)
  · obtain ⟨a, ns, rfl, _⟩ := h
    rfl
  obtain ⟨a, ns, rfl, hS, hl, q⟩ := h
  obtain ⟨m_isinstance, m_len, m_all, m_abs, m_repr, m_str, m_int, m_bool, m_list, m_tuple, m_range⟩ := B
  have nd := sc__law_deck.nd
  refine ⟨_, (pss_cons (ps_par (i := 1) (j := 2) rfl nd rfl rfl (by decide) rfl rfl (pa_cons (pe_callTy call_list_of rfl m_list bt_list (pa_cons (pe_slice slAny (pv 0) po_none (po_some pe_int)) pa_nil)) (pa_cons pe_int pa_nil)) rfl) (pss_cons (ps_for PassesOwn.never rfl (pi_list (pv 1)) (pg_name (i := 3) nd rfl (Or.inl rfl)) (pss_one (ps_set (i := 2) nd rfl (Or.inl rfl) (pe_op op_mod (pe_op opAdd (pe_op opAdd (pe_op opMul (pv 2) pe_int) (pe_op op_mod (pv 3) pe_int)) pe_int) pe_int)))) (pss_one (ps_ret (pe_disp (pps_cons pe_str (pe_revL (pv 1)) (pps_cons pe_str (pv 2) (pps_cons pe_str pe_int pps_nil))) rfl rfl (by decide) (by decide)))))), ?r⟩
  case r =>
    refine ⟨_, rfl, _, rfl, .inl ⟨a, _, rfl, hS, fun p hp => ?_⟩⟩
    obtain ⟨cs, ecs, lcs⟩ := cut_ints ns none (some 63)
    rw [ecs]
    refine ⟨p, _, rfl, .inl (.inl (.inl upd_same)), fun l hl2 => ?_⟩
    have s1 : Same H (upd H p (.lst (cs.map V.int))) := same_new hp _
    have s2 := s1.trans (same_new hl2 (.lst (cs.map V.int)))
    have hl0 : H l = none := s1.free hl2
    refine ⟨_, _, rfl, ?_⟩
    refine ⟨_, rfl, l, rfl, ⟨_, .inl (.inl upd_same)⟩, for_list (K := K) (a := l) (xs := cs.map V.int)
      (fun i σ H' => ∃ (t : Int) (v : Option V), σ = [some (.ref a), some (.ref l), some (.int t), v] ∧ Same H H' ∧ H' l = some (.lst (cs.map V.int)))
      ⟨_, _, rfl, s2, upd_same⟩ (fun i σ H' _ ⟨_, _, _, _, e⟩ => .inl (.inl e)) ?_ ?_⟩
    · rintro i y σ H' hi ⟨t, v, rfl, s3, e3⟩
      obtain ⟨u, rfl⟩ : ∃ u, y = V.int u := by
        rw [List.getElem?_map] at hi
        cases e : cs[i]? with
        | none => rw [e] at hi; cases hi
        | some u => rw [e] at hi; exact ⟨u, (Option.some.inj hi).symm⟩
      refine ⟨_, rfl, .inl (.inl ⟨_, _, rfl, rfl, .inr ⟨by decide, by decide⟩, ?_⟩)⟩
      refine ⟨_, rfl, _, _, rfl, rfl, (by dsimp only; decide), .inl (.inl ⟨_, _, rfl, rfl, ?_⟩)⟩
      refine .inl (.inl ⟨_, _, rfl, rfl, _, _, rfl, rfl, (by dsimp only; decide), ?_⟩)
      exact ⟨_, _, rfl, s3, e3⟩
    · rintro σ H' ⟨t, v, rfl, s3, e3⟩
      intro d hd
      have nld : l ≠ d := ne_of_none e3 hd
      refine ⟨_, rfl, l, _, rfl, .inl (.inl ((upd_ne nld).trans e3)), fun c hc => ?_⟩
      have nd1 : d ≠ c := ne_of_none upd_same hc
      have s4 : Same H (upd H' d (.dK [])) := same_mut s3 (s3.free hd)
      have hc0 : H c = none := s4.free hc
      refine ⟨_, rfl, (upd_ne nd1).trans upd_same, deckKvs c t 0, rfl, by show 3 ≤ 15; decide, ?_⟩
      rw [dk_merge]
      refine q d c _ (s3.free hd) hc0 ⟨t, 0, cs.reverse, upd_same, ?_, ?_, Int.le_refl _, Int.le_refl _⟩ ?_
      · rw [upd_ne nd1.symm, upd_same, List.map_reverse]
      · rw [List.length_reverse]
        omega
      · exact same_mut (same_mut s4 hc0) (s3.free hd)
theorem sc__law_draw : FnScope ["_law_deck_here", "_law_many", "_law_turn", "_law_cell", "_law_mixed"] ["_law_deck_here", "_law_many"] (defScope (top 10)) := ⟨rfl, rfl, rfl, by decide +kernel, rfl, by decide +kernel, by decide +kernel⟩
theorem ok__law_draw (F : FnP K "_law_draw" 10 f fd) (hS : ∃ o, base.get? sysModules = some o) (B : Blt mg) :
    FnG P w K mg base CX0 1 f fd ["_law_deck_here", "_law_many"] spDraw := by
  refine okD F sc__law_draw hS (fun vs H Q E h => ?_) (fun cdv A outer s H vs Q E R h => ?_)
  · obtain ⟨d, c, n, m, rfl, _⟩ := h
    rfl
  obtain ⟨d, c, n, m, rfl, D, hn, h0, h64, q⟩ := h
  obtain ⟨m_isinstance, m_len, m_all, m_abs, m_repr, m_str, m_int, m_bool, m_list, m_tuple, m_range⟩ := B
  have nd := sc__law_draw.nd
  refine ⟨_, (pss_cons (ps_par (i := 2) (j := 3) rfl nd rfl rfl (by decide) rfl rfl (pa_cons (pe_op opAdd (pe_dget (hu_of R.room) (pv 0) pe_str (fun _ _ => rfl)) pe_int) (pa_cons (pe_dget (hu_of R.room) (pv 0) pe_str (fun _ _ => rfl)) pa_nil)) rfl) (pss_cons (ps_dput (hu_of R.room) (pv 0) pe_str (pv 2) rfl) (pss_cons (ps_if (pt_cmpR (op_neD R.room.units) (pe_dget (hu_of R.room) (pv 0) pe_str (fun _ _ => rfl)) (pe_lst pa_nil) (nomark _)) (pss_cons (ps_set (i := 3) nd rfl (Or.inl rfl) (pe_bm0 PySem.F.plainAttrs_list PySem.F.slot_list_pop PySem.F.type_list_pop mt_pop (pe_dget (hu_of R.room) (pv 0) pe_str (fun _ _ => rfl)))) (pss_cons (ps_if (pt_cmpR op_ge (pv 3) (pe_op op_pow pe_int pe_int) (nomark _)) (pss_cons (ps_expr (pe_bm PySem.F.plainAttrs_list PySem.F.slot_list_append PySem.F.type_list_append mt_append (pe_dget (hu_of R.room) (pv 0) pe_str (fun _ _ => rfl)) (pa_cons (pe_op op_fdivW (pv 3) (pv 1)) pa_nil))) (pss_one (ps_ret (pe_op op_mod (pv 3) (pv 1))))) pss_nil) (pss_one (ps_set (i := 3) nd rfl (Or.inl rfl) (pe_op opAdd (pv 3) (pe_dget (hu_of R.room) (pv 0) pe_str (fun _ _ => rfl))))))) pss_nil) (pss_cons (ps_set (i := 4) nd rfl (Or.inl rfl) (pe_op op_mod (pe_op opMul (pe_op opAdd (pe_op opAdd (pe_op op_mod (pv 3) pe_int) (pe_op opMul (pe_op opMul pe_int (pv 2)) (pv 2))) pe_int) pe_int) pe_int)) (pss_cons (ps_set (i := 4) nd rfl (Or.inl rfl) (pe_op op_mod (pe_op opAdd (pe_op opAdd (pe_op opMul (pv 4) (pv 4)) (pe_op opMul pe_int (pv 2))) pe_int) pe_int)) (pss_one (ps_ret (pe_op op_mod (pe_op op_fdivW (pe_op op_mod (pe_op opMul (pv 4) pe_int) pe_int) pe_int) (pv 1))))))))), ?r⟩
  case r =>
    obtain ⟨t, k, cs, hd, hc, hl, k0, kn⟩ := D.is
    have ndc := D.dc
    refine ⟨_, rfl, _, _, rfl, dg_draws hd, .inl (.inl ⟨_, _, rfl, rfl, ?_⟩)⟩
    refine ⟨_, rfl, _, _, rfl, dg_total hd, _, _, rfl, ?_⟩
    refine ⟨_, rfl, _, rfl, d, _, rfl, dp_draws hd, ?_⟩
    -- the deck, one draw more
    have hd1 : upd H d (.dK (deckKvs c t (k + 1))) d = some (.dK (deckKvs c t (k + 1))) := upd_same
    have hc1 : upd H d (.dK (deckKvs c t (k + 1))) c = some (.lst (cs.map V.int)) := by rw [upd_ne ndc.symm]; exact hc
    have same1 : Same (hid d c H) (hid d c (upd H d (.dK (deckKvs c t (k + 1))))) := by
      rw [hid_upd (Or.inl rfl)]
      exact Same.refl _
    generalize upd H d (.dK (deckKvs c t (k + 1))) = H1 at hd1 hc1 same1
    have k1 : k + 1 ≤ (n : Int) + 1 := by omega
    have div64 : ∀ i, CDivW i m := fun i => wide_div h0 h64 (by decide) (by decide)
    -- the last rows, whatever the cell is
    have rows : ∀ (x : Int) (H2 : Hp) (v : Option V), (∃ cs2 : List Int, H2 d = some (.dK (deckKvs c t (k + 1))) ∧ H2 c = some (.lst (cs2.map V.int)) ∧ cs2.length ≤ 63) → Same (hid d c H) (hid d c H2) →
        (tSeq (tAsg (tOp rModA (tOp rMulA (tOp rAddA (tOp rAddA (tOp rModA (tVar 3) (tC (V.int 2147483629))) (tOp rMulA (tOp rMulA (tC (V.int 60257)) (tVar 2)) (tVar 2))) (tC (V.int 47))) (tC (V.int 40692))) (tC (V.int 2147483647))) (gName 4)) (tSeq (tAsg (tOp rModA (tOp rAddA (tOp rAddA (tOp rMulA (tVar 4) (tVar 4)) (tOp rMulA (tC (V.int 69821)) (tVar 2))) (tC (V.int 31))) (tC (V.int 2147483587))) (gName 4)) (tRet (tOp rModA (tOp rDivA (tOp rModA (tOp rMulA (tVar 4) (tC (V.int 39419))) (tC (V.int 2147483563))) (tC (V.int 64))) (tVar 1))))) { nx := fun _ H' => Q .non H', rt := Q } [some (.ref d), some (.int m), some (.int (k + 1)), some (.int x), v] H2 := by
      rintro x H2 v ⟨cs2, e1, e2, e3⟩ s2
      have kb : -(2 ^ 64) < k + 1 ∧ k + 1 < 2 ^ 64 := by omega
      refine ⟨_, rfl, _, _, rfl, rfl, (by dsimp only; decide), ?_⟩
      refine ⟨_, rfl, .inl (.inl ⟨_, _, rfl, rfl, .inr kb, ?_⟩)⟩
      refine ⟨_, rfl, .inl (.inl ⟨_, _, rfl, rfl, .inr kb, ?_⟩)⟩
      refine .inl (.inl ⟨_, _, rfl, rfl, .inl (.inl ⟨_, _, rfl, rfl, .inl (.inl ⟨_, _, rfl, rfl, .inr ⟨by decide, by decide⟩, ?_⟩)⟩)⟩)
      refine ⟨_, _, rfl, rfl, (by dsimp only; decide), ?_⟩
      refine ⟨_, rfl, _, rfl, .inl (.inl ⟨_, _, rfl, rfl, .inr (emb _ (by decide) (by decide)), ?_⟩)⟩
      refine ⟨_, rfl, .inl (.inl ⟨_, _, rfl, rfl, .inr kb, ?_⟩)⟩
      refine .inl (.inl ⟨_, _, rfl, rfl, .inl (.inl ⟨_, _, rfl, rfl, _, _, rfl, rfl, (by dsimp only; decide), ?_⟩)⟩)
      refine ⟨_, rfl, .inl (.inl ⟨_, _, rfl, rfl, .inr ⟨by decide, by decide⟩, ?_⟩)⟩
      refine ⟨_, _, rfl, rfl, (by dsimp only; decide), _, _, rfl, rfl, ⟨by decide, by decide +kernel⟩, ?_⟩
      exact ⟨_, rfl, _, _, rfl, rfl, h0, q _ _ (Int.emod_nonneg _ (by omega)) (Int.emod_lt_of_pos _ h0) ⟨t, k + 1, cs2, e1, e2, e3, by omega, by omega⟩ s2⟩
    refine ⟨_, rfl, _, _, rfl, dg_cells hd1, Nat.zero_le _, fun p hp => ?_⟩
    have npd : p ≠ d := fun e => by rw [e, hd1] at hp; cases hp
    have npc : p ≠ c := fun e => by rw [e, hc1] at hp; cases hp
    have hd2 : upd H1 p (.lst []) d = some (.dK (deckKvs c t (k + 1))) := by rw [upd_ne npd.symm]; exact hd1
    have hc2 : upd H1 p (.lst []) c = some (.lst (cs.map V.int)) := by rw [upd_ne npc.symm]; exact hc1
    have same2 : Same (hid d c H) (hid d c (upd H1 p (.lst []))) := same1.trans (hid_same (same_new hp _))
    refine ⟨_, _, .lst (SqL.of hc2) (ints_dp cs), .lst (SqL.of upd_same) .nil, ints_shaped cs, rfl, _, rfl, ?_⟩
    generalize upd H1 p (.lst []) = H2 at hd2 hc2 same2
    refine ite2 (fun ce => ?_) (fun ce => rows _ _ _ ⟨cs, hd2, hc2, hl⟩ same2)
    have ne : cs ≠ [] := by
      rintro rfl
      exact absurd ce (by decide)
    have hlast : (cs.map V.int)[(cs.map V.int).length - 1]? = some (.int (cs.getLast ne)) := by
      rw [List.length_map, List.getElem?_map, List.getLast_eq_getElem]
      rw [List.getElem?_eq_getElem]
      rfl
    refine ⟨_, rfl, _, _, rfl, dg_cells hd2, .inl ⟨rfl, _, SqL.of hc2⟩, c, _, _, rfl, rfl, hc2, hlast, ?_⟩
    have hd3 : upd H2 c (.lst (cs.map V.int).dropLast) d = some (.dK (deckKvs c t (k + 1))) := by rw [upd_ne ndc]; exact hd2
    have hc3 : upd H2 c (.lst (cs.map V.int).dropLast) c = some (.lst (cs.dropLast.map V.int)) := by rw [upd_same, List.map_dropLast]
    have same3 : Same (hid d c H) (hid d c (upd H2 c (.lst (cs.map V.int).dropLast))) := by
      rw [hid_upd (Or.inr rfl)]
      exact same2
    generalize upd H2 c (.lst (cs.map V.int).dropLast) = H3 at hd3 hc3 same3
    have hl3 : cs.dropLast.length < 63 := by
      rw [List.length_dropLast]
      have : 0 < cs.length := List.length_pos_iff.mpr ne
      omega
    refine ⟨_, rfl, _, _, rfl, rfl, ⟨by decide, by decide, by decide⟩, _, _, rfl, rfl, _, rfl, ?_⟩
    refine ite2 (fun cg => ?_) (fun cg => ?_)
    · refine ⟨_, rfl, _, _, rfl, dg_cells hd3, .inl ⟨rfl, _, SqL.of hc3⟩, _, rfl, _, rfl, _, _, rfl, rfl, div64 _, c, _, _, rfl, rfl, hc3, ?_, ?_⟩
      · rw [List.length_map]
        exact Nat.lt_trans hl3 (by decide)
      · refine ⟨_, rfl, _, rfl, _, _, rfl, rfl, h0, q _ _ (Int.emod_nonneg _ (by omega)) (Int.emod_lt_of_pos _ h0) ⟨t, k + 1, cs.dropLast ++ [cs.getLast ne / m], ?_, ?_, ?_, by omega, by omega⟩ ?_⟩
        · rw [upd_ne ndc]
          exact hd3
        · rw [upd_same, List.map_append]
          rfl
        · rw [List.length_append, List.length_singleton]
          omega
        · rw [hid_upd (Or.inr rfl)]
          exact same3
    · exact ⟨_, rfl, _, rfl, _, _, rfl, dg_total hd3, .inl (.inl ⟨_, _, rfl, rfl, rows _ _ _ ⟨_, hd3, hc3, Nat.le_of_lt hl3⟩ same3⟩)⟩

theorem sc__law_pick : FnScope ["_law_deck_here", "_law_some"] ["_law_deck_here", "_law_some"] (defScope (top 11)) := ⟨rfl, rfl, rfl, by decide +kernel, rfl, by decide +kernel, by decide +kernel⟩
theorem ok__law_pick (F : FnP K "_law_pick" 11 f fd) (hS : ∃ o, base.get? sysModules = some o) (B : Blt mg)
    (c__law_draw : Cal P w K mg base 1 "_law_draw" ["_law_deck_here", "_law_many"] spDraw) :
    FnG P w K mg base CX0 2 f fd ["_law_deck_here", "_law_some"] spPick := by
  refine okD F sc__law_pick hS (fun vs H Q E h => ?_) (fun cdv A outer s H vs Q E R h => ?_)
  · obtain ⟨d, c, n, u, rfl, _⟩ := h
    rfl
  obtain ⟨d, c, n, u, rfl, D, hn, q⟩ := h
  obtain ⟨m_isinstance, m_len, m_all, m_abs, m_repr, m_str, m_int, m_bool, m_list, m_tuple, m_range⟩ := B
  have nd := sc__law_pick.nd
  refine ⟨_, (pss_one (ps_ret (pe_ix ixAny (pv 1) (cc c__law_draw R (pa_cons (pv 0) (pa_cons (pe_callB call_lenA rfl m_len bt_len (pa_cons (pv 1) pa_nil)) pa_nil))) (fun _ _ => rfl)))), ?r⟩
  case r =>
    rcases q with ⟨a, xs, rfl, ha, h0, h1, q⟩ | ⟨z, rfl, h0, h1, q⟩
    · have ha1 := hid_sub _ _ ha
      refine ⟨_, rfl, _, rfl, _, rfl, .inl ⟨a, xs, rfl, .inl (SqL.of ha1), ?_⟩⟩
      refine ⟨d, c, n, _, rfl, D, hn, by omega, ?_, fun r H' r0 r1 D' s' => ?_⟩
      · omega
      · have ha2 := hid_sub _ _ (s' _ _ ha)
        have hj : r.toNat < xs.length := by omega
        have er : r = ((r.toNat : Nat) : Int) := by omega
        refine .inl ⟨a, xs, r, xs[r.toNat], rfl, rfl, SqL.of ha2, ?_, q r.toNat _ H' (List.getElem?_eq_getElem hj) D' s'⟩
        have e2 := atI_nat (List.getElem?_eq_getElem hj)
        rw [← er] at e2
        exact e2
    · refine ⟨_, rfl, _, rfl, _, rfl, .inr ⟨z, rfl, ?_, ?_⟩⟩
      · rw [sizeLine_eq]; omega
      refine ⟨d, c, n, _, rfl, D, hn, by omega, ?_, fun r H' r0 r1 D' s' => ?_⟩
      · omega
      · have hlen : z.cps.toList.length = z.length := by simp [Str.length]
        have hj : r.toNat < z.cps.toList.length := by omega
        have er : r = ((r.toNat : Nat) : Int) := by omega
        refine .inr (.inr ⟨z, r, z.cps.toList[r.toNat], rfl, rfl, by rw [sizeLine_eq]; omega, ?_, q _ H' (List.getElem_mem hj) D' s'⟩)
        have e2 := atI_nat (List.getElem?_eq_getElem hj)
        rw [← er] at e2
        exact e2
end
end K02
end

/-! K02d -/
section
open PySem PySem.Spec PyProof.Rows L2 FA
namespace K02
section
variable {P : Program} {w : World} {K : PySem.W.Frag} {mg : Str → Option Value} {base : Heap} {f : Addr} {fd : FuncData}
def spWord : Sp := fun vs H Q _ => ∃ (d c : Addr) (n : Nat), vs = [.ref d] ∧ Deck H d c n ∧ n + 20 ≤ 1000000 ∧
  ∀ z H', z.length ≤ 8 → Low z → Deck H' d c (n + 11) → Same (hid d c H) (hid d c H') → Q (.str z) H'
theorem sc__law_word : FnScope ["_law_deck_here", "_law_letters", "_law_many", "_law_start", "_law_k"] ["_law_deck_here"] (defScope (top 12)) := ⟨rfl, rfl, rfl, by decide +kernel, rfl, by decide +kernel, by decide +kernel⟩
theorem ok__law_word (F : FnP K "_law_word" 12 f fd) (hS : ∃ o, base.get? sysModules = some o) (B : Blt mg)
    (c__law_draw : Cal P w K mg base 1 "_law_draw" ["_law_deck_here", "_law_many"] spDraw)
    (c__law_pick : Cal P w K mg base 2 "_law_pick" ["_law_deck_here", "_law_some"] spPick) :
    FnG P w K mg base CX0 3 f fd ["_law_deck_here"] spWord := by
  refine okD F sc__law_word hS (fun vs H Q E h => ?_) (fun cdv A outer s H vs Q E R h => ?_)
  · obtain ⟨d, c, n, rfl, _⟩ := h
    rfl
  obtain ⟨d, c, n, rfl, D, hn, q⟩ := h
  obtain ⟨m_isinstance, m_len, m_all, m_abs, m_repr, m_str, m_int, m_bool, m_list, m_tuple, m_range⟩ := B
  have nd := sc__law_word.nd
  refine ⟨_, (pss_cons (ps_set (i := 1) nd rfl (Or.inr rfl) pe_str) (pss_cons (ps_set (i := 2) nd rfl (Or.inl rfl) (pe_ix ixAny (pe_lst (pa_cons pe_int (pa_cons pe_int (pa_cons pe_int (pa_cons (pe_op opAdd pe_int (cc c__law_draw R (pa_cons (pv 0) (pa_cons pe_int pa_nil)))) pa_nil))))) (cc c__law_draw R (pa_cons (pv 0) (pa_cons pe_int pa_nil))) (fun _ _ => rfl))) (pss_cons (ps_set (i := 3) nd rfl (Or.inl rfl) (cc c__law_pick R (pa_cons (pv 0) (pa_cons (pe_lst (pa_cons pe_str (pa_cons pe_str (pa_cons pe_str (pa_cons pe_str (pa_cons pe_str (pa_cons pe_str pa_nil))))))) pa_nil)))) (pss_one (ps_ret (pe_slice slAny (pe_op opAdd (pv 3) (pe_join pe_str (pe_lc1 4 rfl nd (pi_range1 rfl m_range (pa_cons (pv 2) pa_nil)) (by kernel_rfl) (fun _ _ _ _ _ => pg_name (i := 4) nd rfl (Or.inl rfl)) (fun _ _ _ _ _ => pts_nil) (fun _ _ _ _ _ => (cc c__law_pick (R.blk _ _ _ _ _) (pa_cons (pv 0) (pa_cons (pv 1) pa_nil))))))) po_none (po_some pe_int))))))), ?r⟩
  case r =>
    refine ⟨_, rfl, d, c, n, 8, rfl, D, by omega, by decide, by decide, fun r1 H1 a0 a1 D1 s1 => .inl (.inl ⟨_, _, rfl, rfl, ?_⟩)⟩
    refine ⟨by show 4 ≤ sizeLine; decide, fun p hp => ?_⟩
    obtain ⟨pd, pc⟩ := D1.ne hp
    refine ⟨_, rfl, d, c, n + 1, 4, rfl, D1.upd pd pc, by omega, by decide, by decide, fun r2 H2 b0 b1 D2 s2 => ?_⟩
    have s12 : Same (hid d c H) (hid d c H2) := (s1.trans (hid_same (same_new hp _))).trans s2
    have hp2 : H2 p = some (.lst [.int 1, .int 2, .int 8, .int (1 + r1)]) := hid_sub _ _ (s2 _ _ (hid_at pd pc))
    have four : ∃ m : Int, 1 ≤ m ∧ m ≤ 8 ∧ atI [V.int 1, V.int 2, V.int 8, V.int (1 + r1)] r2 = some (.int m) := by
      have : r2 = 0 ∨ r2 = 1 ∨ r2 = 2 ∨ r2 = 3 := by omega
      rcases this with rfl | rfl | rfl | rfl
      · exact ⟨1, by omega, by omega, rfl⟩
      · exact ⟨2, by omega, by omega, rfl⟩
      · exact ⟨8, by omega, by omega, rfl⟩
      · exact ⟨1 + r1, by omega, by omega, rfl⟩
    obtain ⟨m, m1, m8, em⟩ := four
    refine .inl ⟨p, _, r2, _, rfl, rfl, SqL.of hp2, em, ?_⟩
    -- the beginning
    refine ⟨_, rfl, by show 6 ≤ sizeLine; decide, fun p2 hp3 => ?_⟩
    obtain ⟨p2d, p2c⟩ := D2.ne hp3
    refine ⟨d, c, n + 2, _, rfl, D2.upd p2d p2c, by omega, .inl ⟨p2, _, rfl, hid_at p2d p2c, by show 0 < 6; decide, by show 6 ≤ 1000000; decide, fun j x H3 hx D3 s3 => ?_⟩⟩
    have s13 : Same (hid d c H) (hid d c H3) := (s12.trans (hid_same (same_new hp3 _))).trans s3
    have start : ∃ z : Str, x = .str z ∧ z.length ≤ 7 ∧ Low z := by
      have hm := List.mem_of_getElem? hx
      simp only [List.mem_cons, List.not_mem_nil, or_false] at hm
      rcases hm with rfl | rfl | rfl | rfl | rfl | rfl <;> exact ⟨_, rfl, by decide, low_of (by decide)⟩
    obtain ⟨z, rfl, z7, zl⟩ := start
    -- the letters
    refine ⟨_, rfl, ⟨_, rfl⟩, _, rfl, m, rfl, by omega, by omega, fun L hL => ?_⟩
    obtain ⟨Ld, Lc⟩ := D3.ne hL
    refine lc_it walk_range (fun i H' => ∃ zs : List Str, H' L = some (.lst (zs.map V.str)) ∧ zs.length = i ∧ (∀ y ∈ zs, y.length = 1 ∧ Low y) ∧ Deck H' d c (n + 3 + i) ∧ Same (hid d c H3) (hid d c H'))
      ⟨[], upd_same, rfl, fun _ hy => (nomatch hy), D3.upd Ld Lc, hid_same (same_new hL _)⟩ (fun _ _ _ _ => trivial) ?_ ?_
    · rintro i x H4 H5 hi ⟨zs, e1, e2, e3, D4, s4⟩ ⟨rfl, rfl⟩
      refine ⟨rfl, _, rfl, _, rfl, d, c, n + 3 + i, _, rfl, D4, by omega, .inr ⟨_, rfl, by decide, by decide, fun k H6 hk D6 s6 => ?_⟩⟩
      refine ⟨zs.map V.str, ?_, ?_, zs ++ [⟨#[k]⟩], ?_, ?_, ?_, D6.upd Ld Lc, hid_mut (s4.trans s6) hL Ld Lc⟩
      · rw [← hid_ne Ld Lc (H := H6)]
        exact s6 _ _ (by rw [hid_ne Ld Lc]; exact e1)
      · rw [List.length_map, e2]
        exact Nat.lt_of_lt_of_le hi (by have : m.toNat ≤ 8 := by omega
                                        exact Nat.le_trans this (by decide))
      · rw [upd_same, List.map_append]
        rfl
      · rw [List.length_append, e2]
        rfl
      · intro y hy
        rcases List.mem_append.mp hy with hy | hy
        · exact e3 y hy
        · have : y = ⟨#[k]⟩ := by simpa using hy
          subst this
          exact ⟨rfl, low_one (low_of (by decide)) hk⟩
    · rintro H4 ⟨zs, e1, e2, e3, D4, s4⟩
      have sum1 : (zs.map (·.length)).sum = zs.length := by
        have : ∀ l : List Str, (∀ y ∈ l, y.length = 1 ∧ Low y) → (l.map (·.length)).sum = l.length := by
          intro l
          induction l with
          | nil => intro _; rfl
          | cons a r ih =>
            intro h
            rw [List.map_cons, List.sum_cons, ih fun y hy => h y (List.mem_cons_of_mem _ hy), (h a List.mem_cons_self).1, List.length_cons]
            omega
        exact this zs e3
      have m8' : m.toNat ≤ 8 := by omega
      have jl : (Txt.join "" zs).length ≤ 8 := by
        have h := StrLaws.join_length_le "" zs
        rw [TL.join_eq]
        have e0 : (Str.ofString "").length = 0 := by decide
        rw [sum1, e0] at h
        omega
      have jlow : Low (Txt.join "" zs) := by
        rw [TL.join_eq]
        exact low_join (low_of (by decide)) fun y hy => (e3 y hy).2
      refine ⟨_, L, zs, rfl, rfl, .inl (SqL.of e1), ?_, ?_⟩
      · have e0 : (Str.ofString "").length = 0 := by decide
        rw [sum1, e0]
        omega
      · refine .inl (.inr ⟨_, _, rfl, rfl, ?_, _, rfl, .inr ⟨_, rfl, ?_, ?_⟩⟩)
        · rw [sizeLine_eq]
          omega
        · rw [sizeLine_eq, Str.length_append]
          omega
        · exact q _ _ (cut_8 _) (low_cut (low_app zl jlow) _ _) (D4.mono (by omega)) (s13.trans s4)
end
end K02
end

/-! K02e -/
section
open PySem PySem.Spec PyProof.Rows L2 FA
namespace K02
section
variable {P : Program} {w : World} {K : PySem.W.Frag} {mg : Str → Option Value} {base : Heap} {f : Addr} {fd : FuncData}
def spValue : Sp := fun vs H Q _ => ∃ (d c : Addr) (n : Nat), vs = [.ref d] ∧ Deck H d c n ∧ n + 40 ≤ 1000000 ∧
  ∀ v x H', (∀ H0, Dat H0 x v) → Okd 0 150 x → isV x = true → Deck H' d c (n + 20) → Same (hid d c H) (hid d c H') → Q v H'
theorem dint {i : Int} : ∀ H0, Dat H0 (.int i) (.int i) := fun H0 => by simp only [Dat]
theorem dstr {z : Str} : ∀ H0, Dat H0 (.str z) (.str z) := fun H0 => by simp only [Dat]
theorem dnon : ∀ H0, Dat H0 .none .non := fun H0 => by simp only [Dat]
theorem dbool {b : Bool} : ∀ H0, Dat H0 (.bool b) (.bl b) := fun H0 => by simp only [Dat]
theorem sc__law_value : FnScope ["_law_deck_here", "_law_way", "_law_great", "_law_near", "_law_far"] ["_law_deck_here"] (defScope (top 13)) := ⟨rfl, rfl, rfl, by decide +kernel, rfl, by decide +kernel, by decide +kernel⟩
theorem ok__law_value (F : FnP K "_law_value" 13 f fd) (hS : ∃ o, base.get? sysModules = some o) (B : Blt mg)
    (c__law_draw : Cal P w K mg base 1 "_law_draw" ["_law_deck_here", "_law_many"] spDraw)
    (c__law_pick : Cal P w K mg base 2 "_law_pick" ["_law_deck_here", "_law_some"] spPick)
    (c__law_word : Cal P w K mg base 3 "_law_word" ["_law_deck_here"] spWord) :
    FnG P w K mg base CX0 4 f fd ["_law_deck_here"] spValue := by
  refine okD F sc__law_value hS (fun vs H Q E h => ?_) (fun cdv A outer s H vs Q E R h => ?_)
  · obtain ⟨d, c, n, rfl, _⟩ := h
    rfl
  obtain ⟨d, c, n, rfl, D, hn, q⟩ := h
  obtain ⟨m_isinstance, m_len, m_all, m_abs, m_repr, m_str, m_int, m_bool, m_list, m_tuple, m_range⟩ := B
  have nd := sc__law_value.nd
  refine ⟨_, (pss_cons (ps_par (i := 1) (j := 2) rfl nd rfl rfl (by decide) rfl rfl (pa_cons (cc c__law_draw R (pa_cons (pv 0) (pa_cons pe_int pa_nil))) (pa_cons (pe_op op_pow pe_int pe_int) pa_nil)) rfl) (pss_cons (ps_if (pt_cmpR op_eq (pv 1) pe_int (nomark _)) (pss_one (ps_ret pe_non)) pss_nil) (pss_cons (ps_if (pt_cmpR opLt (pv 1) pe_int (nomark _)) (pss_cons (ps_par (i := 3) (j := 4) rfl nd rfl rfl (by decide) rfl rfl (pa_cons (pe_op op_sub (cc c__law_draw R (pa_cons (pv 0) (pa_cons pe_int pa_nil))) pe_int) (pa_cons (pe_op op_sub (cc c__law_draw R (pa_cons (pv 0) (pa_cons (pe_op opAdd (pe_op opMul pe_int (pv 2)) pe_int) pa_nil))) (pv 2)) pa_nil)) rfl) (pss_one (ps_ret (cc c__law_pick R (pa_cons (pv 0) (pa_cons (pe_lst (pa_cons (pv 3) (pa_cons (pe_op op_sub pe_int (pv 3)) (pa_cons (pe_op op_sub (pv 2) (pe_callB call_abs rfl m_abs bt_abs (pa_cons (pv 3) pa_nil))) (pa_cons (pe_op op_sub (pe_callB call_abs rfl m_abs bt_abs (pa_cons (pv 3) pa_nil)) (pv 2)) (pa_cons (pv 4) pa_nil)))))) pa_nil)))))) pss_nil) (pss_one (ps_ret (cc c__law_word R (pa_cons (pv 0) pa_nil))))))), ?r⟩
  case r =>
    refine ⟨_, rfl, d, c, n, 5, rfl, D, by omega, by decide, by decide, fun r1 H1 a0 a1 D1 s1 => ⟨_, _, rfl, rfl, ⟨by decide, by decide, by decide⟩, _, _, rfl, ?_⟩⟩
    refine ⟨_, rfl, rfl, _, rfl, ite2 (fun _ => ?_) (fun _ => ?_)⟩
    · exact q _ _ _ dnon okd_non rfl (D1.mono (by omega)) s1
    refine ⟨_, rfl, .inl ⟨_, _, rfl, rfl, _, rfl, ite2 (fun _ => ?_) (fun _ => ?_)⟩⟩
    · refine ⟨_, rfl, d, c, n + 1, 4, rfl, D1, by omega, by decide, by decide, fun r2 H2 b0 b1 D2 s2 => ⟨_, _, rfl, rfl, ?_⟩⟩
      refine ⟨_, rfl, _, rfl, .inl (.inl ⟨_, _, rfl, rfl, .inl ⟨by decide, by decide⟩, .inl (.inl ⟨_, _, rfl, rfl, ?_⟩)⟩)⟩
      refine ⟨d, c, n + 2, _, rfl, D2, by omega, by decide, by decide, fun r3 H3 c0 c1 D3 s3 => ⟨_, rfl, _, _, rfl, rfl, _, _, rfl, ?_⟩⟩
      have s13 := (s1.trans s2).trans s3
      have b3 : r3 < 2 * 10 ^ 12 + 1 := c1
      have e12 : (10 : Int) ^ Int.toNat 12 = 1000000000000 := by decide
      -- the five numbers
      refine ⟨_, rfl, _, rfl, _, rfl, _, _, rfl, rfl, _, rfl, _, rfl, _, rfl, _, _, rfl, rfl, _, rfl, _, rfl, _, rfl, _, _, rfl, rfl, _, rfl, ?_⟩
      refine ⟨by show 5 ≤ sizeLine; decide, fun p hp => ?_⟩
      obtain ⟨pd, pc⟩ := D3.ne hp
      refine ⟨d, c, n + 3, _, rfl, D3.upd pd pc, by omega, .inl ⟨p, _, rfl, hid_at pd pc, by show 0 < 5; decide, by show 5 ≤ 1000000; decide, fun j x H4 hx D4 s4 => ?_⟩⟩
      have five : ∃ i : Int, x = .int i ∧ i.natAbs < 10 ^ 40 := by
        have hm := List.mem_of_getElem? hx
        simp only [List.mem_cons, List.not_mem_nil, or_false] at hm
        rcases hm with rfl | rfl | rfl | rfl | rfl <;> exact ⟨_, rfl, by (repeat (first | split)) <;> (try dsimp only) <;> (try rw [e12]) <;> omega⟩
      obtain ⟨i, rfl, hi⟩ := five
      exact q _ _ _ dint (okd_int hi (by decide)) rfl (D4.mono (by omega)) (s13.trans ((hid_same (same_new hp _)).trans s4))
    · refine ⟨_, rfl, d, c, n + 1, rfl, D1, by omega, fun z H2 z8 zl D2 s2 => ?_⟩
      exact q _ _ _ dstr (okd_str zl (by omega)) rfl (D2.mono (by omega)) (s1.trans s2)
end
end K02
end

/-! K02f -/
section
open PySem PySem.Spec PyProof.Rows L2 FA
namespace K02
section
variable {P : Program} {w : World} {K : PySem.W.Frag} {mg : Str → Option Value} {base : Heap} {f : Addr} {fd : FuncData}
def TT : Nat → Nat
  | 0 => 40
  | k + 1 => 2 * TT k + 40
def WW : Nat → Nat
  | 0 => 2200
  | k + 1 => 2 * WW k + 10
theorem tt_ge : ∀ k, 40 ≤ TT k
  | 0 => Nat.le_refl _
  | k + 1 => by
    have := tt_ge k
    show 40 ≤ 2 * TT k + 40
    omega
theorem ww_ge : ∀ k, 2200 ≤ WW k
  | 0 => Nat.le_refl _
  | k + 1 => by
    have := ww_ge k
    show 2200 ≤ 2 * WW k + 10
    omega
def spThing (k : Nat) : Sp := fun vs H Q _ => ∃ (d c : Addr) (n : Nat), vs = [.ref d, .int (k : Int)] ∧ Deck H d c n ∧ n + TT k + 40 ≤ 1000000 ∧
  ∀ v x H', Dat (frs H H') x v → Okd k (WW k) x → Deck H' d c (n + TT k) → Same (hid d c H) (hid d c H') → Q v H'
def spThingP : Nat → Sp
  | 0 => fun _ _ _ _ => False
  | k + 1 => spThing k
theorem near_low {z s : Str} (hz : Low z) (hs : Low s) (a b : Option Int) : Low (cutS z none a ++ s ++ cutS z b none) := low_app (low_app (low_cut hz _ _) hs) (low_cut hz _ _)
theorem sc__law_thing : FnScope ["_law_deck_here", "_law_deep", "_law_way", "_law_word_here", "_law_sign", "_law_at", "_law_near", "_law_k"] ["_law_deck_here", "_law_deep"] (defScope (top 14)) := ⟨rfl, rfl, rfl, by decide +kernel, rfl, by decide +kernel, by decide +kernel⟩
theorem ok__law_thing (k : Nat) (F : FnP K "_law_thing" 14 f fd) (hS : ∃ o, base.get? sysModules = some o) (B : Blt mg)
    (c__law_draw : Cal P w K mg base 1 "_law_draw" ["_law_deck_here", "_law_many"] spDraw)
    (c__law_pick : Cal P w K mg base 2 "_law_pick" ["_law_deck_here", "_law_some"] spPick)
    (c__law_word : Cal P w K mg base 3 "_law_word" ["_law_deck_here"] spWord)
    (c__law_value : Cal P w K mg base 4 "_law_value" ["_law_deck_here"] spValue)
    (c__law_thing : Cal P w K mg base (4 + k) "_law_thing" ["_law_deck_here", "_law_deep"] (spThingP k)) :
    FnG P w K mg base CX0 (5 + k) f fd ["_law_deck_here", "_law_deep"] (spThing k) := by
  have e5 : 5 + k = (4 + k) + 1 := by omega
  rw [e5]
  refine okD F sc__law_thing hS (fun vs H Q E h => ?_) (fun cdv A outer s H vs Q E R h => ?_)
  · obtain ⟨d, c, n, rfl, _⟩ := h
    rfl
  obtain ⟨d, c, n, rfl, D, hn, q⟩ := h
  obtain ⟨m_isinstance, m_len, m_all, m_abs, m_repr, m_str, m_int, m_bool, m_list, m_tuple, m_range⟩ := B
  have nd := sc__law_thing.nd
  have tk := tt_ge k
  have wk := ww_ge k
  refine ⟨_, (pss_cons (ps_set (i := 2) nd rfl (Or.inl rfl) (cc c__law_draw R (pa_cons (pv 0) (pa_cons pe_int pa_nil)))) (pss_cons (ps_if (PW.pt (pw_and (pt_cmpR op_eq (pv 2) pe_int (nomark _)) (pw_and1 (pt_cmpR op_gt (pv 1) pe_int (nomark _))))) (pss_one (ps_ret (pe_tupleOf rfl m_tuple (pe_lc1 7 rfl nd (pi_range1 rfl m_range (pa_cons (cc c__law_draw R (pa_cons (pv 0) (pa_cons pe_int pa_nil))) pa_nil)) (by kernel_rfl) (fun _ _ _ _ _ => pg_name (i := 7) nd rfl (Or.inl rfl)) (fun _ _ _ _ _ => pts_nil) (fun _ _ _ _ _ => (cc c__law_thing (R.blk _ _ _ _ _) (pa_cons (pv 0) (pa_cons (pe_op op_sub (pv 1) pe_int) pa_nil)))))))) pss_nil) (pss_cons (ps_if (PW.pt (pw_and (pt_cmpR op_eq (pv 2) pe_int (nomark _)) (pw_and1 (pt_cmpR op_gt (pv 1) pe_int (nomark _))))) (pss_one (ps_ret (cc c__law_pick R (pa_cons (pv 0) (pa_cons (pe_lst (pa_cons (pe_lst (pa_cons (cc c__law_thing R (pa_cons (pv 0) (pa_cons (pe_op op_sub (pv 1) pe_int) pa_nil))) pa_nil)) (pa_cons (pe_disp (pps_cons pe_str (cc c__law_thing R (pa_cons (pv 0) (pa_cons (pe_op op_sub (pv 1) pe_int) pa_nil))) pps_nil) rfl rfl (by decide) (by decide)) (pa_cons pe_dnewK (pa_cons (pe_lst pa_nil) pa_nil))))) pa_nil))))) pss_nil) (pss_cons (ps_if (pt_cmpR op_eq (pv 2) pe_int (nomark _)) (pss_one (ps_ret (cc c__law_pick R (pa_cons (pv 0) (pa_cons (pe_lst (pa_cons pe_bl (pa_cons pe_bl (pa_cons (pe_op opAdd (pe_op opAdd (pe_op op_pow pe_int pe_int) pe_int) (cc c__law_draw R (pa_cons (pv 0) (pa_cons pe_int pa_nil)))) (pa_cons (pe_op op_sub (pe_un un_neg (pe_op op_pow pe_int pe_int)) pe_int) (pa_cons (pe_op op_pow pe_int pe_int) (pa_cons (pe_un un_neg (pe_op op_pow pe_int pe_int)) pa_nil))))))) pa_nil))))) pss_nil) (pss_cons (ps_if (pt_cmpR opLt (pv 2) pe_int (nomark _)) (pss_cons (ps_par (i := 3) (j := 4) rfl nd rfl rfl (by decide) rfl rfl (pa_cons (cc c__law_word R (pa_cons (pv 0) pa_nil)) (pa_cons (cc c__law_pick R (pa_cons (pv 0) (pa_cons pe_str pa_nil))) pa_nil)) rfl) (pss_cons (ps_set (i := 5) nd rfl (Or.inl rfl) (cc c__law_draw R (pa_cons (pv 0) (pa_cons (pe_op opAdd (pe_callB call_lenA rfl m_len bt_len (pa_cons (pv 3) pa_nil)) pe_int) pa_nil)))) (pss_cons (ps_set (i := 6) nd rfl (Or.inl rfl) (pe_lst (pa_cons (pe_op opAdd (pe_op opAdd (pe_slice slAny (pv 3) po_none (po_some (pv 5))) (pv 4)) (pe_slice slAny (pv 3) (po_some (pv 5)) po_none)) (pa_cons (pe_op opAdd (pe_op opAdd (pe_slice slAny (pv 3) po_none (po_some (pv 5))) (pv 4)) (pe_slice slAny (pv 3) (po_some (pe_op opAdd (pv 5) pe_int)) po_none)) (pa_cons (pe_op opAdd (pv 3) pe_str) (pa_cons (pe_op opMul (pv 3) pe_int) pa_nil)))))) (pss_one (ps_ret (cc c__law_pick R (pa_cons (pv 0) (pa_cons (pv 6) pa_nil)))))))) pss_nil) (pss_one (ps_ret (cc c__law_value R (pa_cons (pv 0) pa_nil))))))))), ?r⟩
  case r =>
    refine ⟨_, rfl, d, c, n, 9, rfl, D, by omega, by decide, by decide, fun r H1 a0 a1 D1 s1 => ?_⟩
    -- a tuple
    refine (fun rest => ⟨_, rfl, rfl, _, rfl, ite2 (fun c1 => ⟨_, rfl, _, _, rfl, rfl, _, rfl, ite2 (fun c2 => ?A) (fun _ => rest)⟩) (fun _ => rest)⟩) ?rest
    case A =>
      cases k with
      | zero => exact absurd c2 (by decide)
      | succ j =>
        have he : (((j + 1 : Nat) : Int)) - 1 = (j : Int) := by omega
        have etj : TT (j + 1) = 2 * TT j + 40 := rfl
        have ewj : WW (j + 1) = 2 * WW j + 10 := rfl
        refine ⟨_, rfl, d, c, n + 1, 3, rfl, D1, by omega, by decide, by decide, fun m H2 b0 b1 D2 s2 => ⟨m, rfl, by omega, by omega, fun L hL => ?_⟩⟩
        obtain ⟨Ld, Lc⟩ := D2.ne hL
        have D2L : Deck (upd H2 L (.lst [])) d c (n + 2) := D2.upd Ld Lc
        have hm2 : m.toNat ≤ 2 := by omega
        refine lc_it walk_range (fun i H' => ∃ (ys : List V) (ds : List PyData), H' L = some (.lst ys) ∧ ys.length = i ∧ ds.length = i ∧ DatAll (frs (upd H2 L (.lst [])) H') ds ys ∧ (∀ x ∈ ds, Okd j (WW j) x) ∧
            Deck H' d c (n + 2 + i * TT j) ∧ Same (hid d c H2) (hid d c H'))
          ⟨[], [], upd_same, rfl, rfl, by simp only [DatAll], fun _ hy => (nomatch hy), by simpa using D2L, hid_same (same_new hL _)⟩ (fun _ _ _ _ => trivial) ?_ ?_
        · rintro i x H4 H5 hi ⟨ys, ds, e1, e2, e3, e4, e5, D5, s5⟩ ⟨rfl, rfl⟩
          have hi2 : i * TT j ≤ 1 * TT j := Nat.mul_le_mul_right _ (by omega)
          have es : (i + 1) * TT j = i * TT j + TT j := by rw [Nat.add_mul, Nat.one_mul]
          refine ⟨rfl, _, rfl, _, rfl, _, _, rfl, rfl, d, c, n + 2 + i * TT j, ?_, D5, by omega, fun v y H6 hy oy D6 s6 => ?_⟩
          · show [V.ref d, V.int _] = _
            rw [he]
          have hL5 : H5 L ≠ none := by rw [e1]; simp
          have dm : Dm (upd H2 L (.lst [])) H5 := by
            intro b hb
            have bL : b ≠ L := fun e => hL5 (e ▸ hb)
            rw [upd_ne bL]
            exact dm_of D5 s5 b hb
          refine ⟨ys, ?_, ?_, ys ++ [v], ds ++ [y], upd_same, by rw [List.length_append, e2]; rfl, by rw [List.length_append, e3]; rfl, ?_, ?_, ?_, hid_mut (s5.trans s6) hL Ld Lc⟩
          · rw [← hid_ne Ld Lc (H := H6)]
            exact s6 _ _ (by rw [hid_ne Ld Lc]; exact e1)
          · rw [e2]
            exact Nat.lt_of_lt_of_le hi (Nat.le_trans hm2 (by decide))
          · rw [frs_old upd_same]
            exact datAll_snoc (datAll_same (frs_on D2L s6) _ _ e4) (dat_same (frs_back dm) _ _ hy)
          · intro x hx
            rcases List.mem_append.mp hx with hx | hx
            · exact e5 x hx
            · have : x = y := by simpa using hx
              subst this
              exact oy
          · rw [es]
            exact (D6.mono (by omega)).upd Ld Lc
        · rintro H4 ⟨ys, ds, e1, e2, e3, e4, e5, D4, s4⟩
          have hi2 : m.toNat * TT j ≤ 2 * TT j := Nat.mul_le_mul_right _ hm2
          refine .inl ⟨L, ys, rfl, SqL.of e1, fun T hT => ?_⟩
          obtain ⟨Td, Tc⟩ := D4.ne hT
          have s14 := (s1.trans s2).trans s4
          have dmH : Dm H H4 := dm_of D4 s14
          have dmL : Dm H (upd H2 L (.lst [])) := (dm_of D2 (s1.trans s2)).trans (dm_same (same_new hL _))
          refine q _ (.tuple ds) _ ?_ ?_ ((D4.mono (by omega)).upd Td Tc) (hid_mut s14 (dmH _ hT) Td Tc)
          · simp only [Dat]
            refine ⟨T, ys, rfl, ?_, ?_⟩
            · rw [frs_new (dmH _ hT), upd_same]
            · exact datAll_same ((frs_back dmL).trans (frs_up hT)) _ _ e4
          · refine okd_tuple ((oks_all e5).mono (Nat.le_refl _) ?_)
            rw [e3, ewj]
            have : (WW j + 1) * m.toNat ≤ (WW j + 1) * 2 := Nat.mul_le_mul_left _ hm2
            omega
    case rest =>
      -- a list, a dict
      refine (fun rest => ⟨_, rfl, rfl, _, rfl, ite2 (fun c1 => ⟨_, rfl, _, _, rfl, rfl, _, rfl, ite2 (fun c2 => ?A) (fun _ => rest)⟩) (fun _ => rest)⟩) ?rest
      case A =>
        cases k with
        | zero => exact absurd c2 (by decide)
        | succ j =>
          have he : (((j + 1 : Nat) : Int)) - 1 = (j : Int) := by omega
          have etj : TT (j + 1) = 2 * TT j + 40 := rfl
          have ewj : WW (j + 1) = 2 * WW j + 10 := rfl
          refine ⟨_, rfl, _, rfl, _, rfl, _, _, rfl, rfl, d, c, n + 1, ?_, D1, by omega, fun v1 x1 H2 hx1 ox1 D2 s2 => ?_⟩
          · show [V.ref d, V.int _] = _
            rw [he]
          refine ⟨by show 1 ≤ sizeLine; decide, fun p1 hp1 => ?_⟩
          obtain ⟨p1d, p1c⟩ := D2.ne hp1
          have D2a := D2.upd (o := .lst [v1]) p1d p1c
          -- the dict
          intro p2 hp2
          obtain ⟨p2d, p2c⟩ := D2a.ne hp2
          have p21 : p2 ≠ p1 := fun e => by rw [e, upd_same] at hp2; cases hp2
          have hp2' : H2 p2 = none := by rw [upd_ne p21] at hp2; exact hp2
          have D3 := D2a.upd (o := .dK []) p2d p2c
          refine ⟨_, rfl, _, rfl, _, _, rfl, rfl, d, c, n + 1 + TT j, ?_, D3, by omega, fun v2 x2 H4 hx2 ox2 D4 s4 => ?_⟩
          · show [V.ref d, V.int _] = _
            rw [he]
          have e4 : H4 p2 = some (.dK []) := hid_sub _ _ (s4 _ _ (hid_at p2d p2c))
          refine ⟨e4, [(Sum.inr "a", v2)], rfl, by show 1 ≤ 15; decide, ?_⟩
          have s24 : Same (hid d c (upd H2 p1 (.lst [v1]))) (hid d c H4) := (hid_same (same_new hp2 _)).trans s4
          have s25 : Same (hid d c (upd H2 p1 (.lst [v1]))) (hid d c (upd H4 p2 (.dK (mergeK [] [(Sum.inr "a", v2)])))) := hid_mut s24 hp2 p2d p2c
          have s2' : Same (hid d c H2) (hid d c (upd H4 p2 (.dK (mergeK [] [(Sum.inr "a", v2)])))) := (hid_same (same_new hp1 _)).trans s25
          have f5 : Same (frs (upd (upd H2 p1 (.lst [v1])) p2 (.dK [])) H4) (frs (upd (upd H2 p1 (.lst [v1])) p2 (.dK [])) (upd H4 p2 (.dK (mergeK [] [(Sum.inr "a", v2)])))) := by
            rw [frs_old upd_same]
            exact Same.refl _
          have D5 := D4.upd (o := .dK (mergeK [] [(Sum.inr "a", v2)])) p2d p2c
          have e5 : upd H4 p2 (.dK (mergeK [] [(Sum.inr "a", v2)])) p2 = some (.dK [(Sum.inr "a", v2)]) := upd_same
          generalize upd H4 p2 (.dK (mergeK [] [(Sum.inr "a", v2)])) = H5 at s25 s2' f5 D5 e5
          -- {}, []
          intro p3 hp3
          obtain ⟨p3d, p3c⟩ := D5.ne hp3
          have D6 := D5.upd (o := .dK []) p3d p3c
          refine ⟨Nat.zero_le _, fun p4 hp4 => ?_⟩
          obtain ⟨p4d, p4c⟩ := D6.ne hp4
          have D7 := D6.upd (o := .lst []) p4d p4c
          refine ⟨by show 4 ≤ sizeLine; decide, fun p5 hp5 => ?_⟩
          obtain ⟨p5d, p5c⟩ := D7.ne hp5
          refine ⟨d, c, n + 1 + TT j + TT j, _, rfl, D7.upd p5d p5c, by omega, .inl ⟨p5, _, rfl, hid_at p5d p5c, by show 0 < 4; decide, by show 4 ≤ 1000000; decide, fun i x H9 hx D9 s9 => ?_⟩⟩
          have s79 : Same (hid d c (upd (upd H5 p3 (.dK [])) p4 (.lst []))) (hid d c H9) := (hid_same (same_new hp5 _)).trans s9
          have s69 : Same (hid d c (upd H5 p3 (.dK []))) (hid d c H9) := (hid_same (same_new hp4 _)).trans s79
          have s59 : Same (hid d c H5) (hid d c H9) := (hid_same (same_new hp3 _)).trans s69
          have sH2 : Same (hid d c H2) (hid d c H9) := s2'.trans s59
          have sH : Same (hid d c H) (hid d c H9) := (s1.trans s2).trans sH2
          have dm1 : Dm H H1 := dm_of D1 s1
          have dm2 : Dm H H2 := dm_of D2 (s1.trans s2)
          have dm2a : Dm H (upd H2 p1 (.lst [v1])) := dm2.trans (dm_same (same_new hp1 _))
          have dm3 : Dm H (upd (upd H2 p1 (.lst [v1])) p2 (.dK [])) := dm2a.trans (dm_same (same_new hp2 _))
          have dm5 : Dm H H5 := dm_of D5 ((s1.trans s2).trans s2')
          have dm6 : Dm H (upd H5 p3 (.dK [])) := dm5.trans (dm_same (same_new hp3 _))
          have y1 : Dat (frs H H9) x1 v1 := dat_same ((frs_back dm1).trans (frs_on D sH2)) _ _ hx1
          have y2 : Dat (frs H H9) x2 v2 := dat_same ((f5.trans (frs_back dm3)).trans (frs_on D s59)) _ _ hx2
          have at1 : frs H H9 p1 = some (.lst [v1]) := by
            rw [frs_new (dm2 _ hp1)]
            exact hid_sub _ _ (s59 _ _ (s25 _ _ (hid_at p1d p1c)))
          have at2 : frs H H9 p2 = some (.dK [(Sum.inr "a", v2)]) := by
            rw [frs_new (dm2 _ hp2')]
            exact hid_sub _ _ (s59 _ _ (by rw [hid_ne p2d p2c]; exact e5))
          have at3 : frs H H9 p3 = some (.dK []) := by
            rw [frs_new (dm5 _ hp3)]
            exact hid_sub _ _ (s69 _ _ (hid_at p3d p3c))
          have at4 : frs H H9 p4 = some (.lst []) := by
            rw [frs_new (dm6 _ hp4)]
            exact hid_sub _ _ (s79 _ _ (hid_at p4d p4c))
          have D9' : Deck H9 d c (n + TT (j + 1)) := D9.mono (by omega)
          have w200 := ww_ge j
          have hm := List.mem_of_getElem? hx
          simp only [List.mem_cons, List.not_mem_nil, or_false] at hm
          rcases hm with rfl | rfl | rfl | rfl
          · refine q _ (.list [x1]) _ ?_ (okd_list ((oks_cons ox1 oks_nil).mono (Nat.le_refl _) (by omega : WW j + 1 + 0 ≤ WW (j + 1)))) D9' sH
            simp only [Dat, DatAll]
            exact ⟨p1, _, rfl, at1, v1, [], rfl, y1, rfl⟩
          · refine q _ (.dict [(.str "a", x2)]) _ ?_ ((okd_dict1 (okd_str (W := 1) (low_of (by decide)) (by decide)) ox2).mono (Nat.le_refl _) (by omega)) D9' sH
            simp only [Dat, DatKv]
            exact ⟨p2, _, rfl, at2, Sum.inr "a", v2, [], rfl, rfl, y2, rfl⟩
          · refine q _ (.dict []) _ ?_ okd_dict0 D9' sH
            simp only [Dat, DatKv]
            exact ⟨p3, _, rfl, at3, rfl⟩
          · refine q _ (.list []) _ ?_ (okd_list oks_nil) D9' sH
            simp only [Dat, DatAll]
            exact ⟨p4, _, rfl, at4, rfl⟩
      case rest =>
        have ok0 : ∀ {x : PyData}, Okd 0 2200 x → Okd k (WW k) x := fun h => h.mono (Nat.zero_le _) wk
        refine ⟨_, rfl, rfl, _, rfl, ite2 (fun c3 => ?_) (fun c3 => ?_)⟩
        · -- bools, great integers
          have e12 : (10 : Int) ^ Int.toNat 12 = 1000000000000 := by decide
          have e39 : (10 : Int) ^ Int.toNat 39 = 10 ^ 39 := by decide
          refine ⟨_, rfl, _, _, rfl, rfl, ⟨by decide, by decide, by decide⟩, .inl (.inl ⟨_, _, rfl, rfl, ?_⟩)⟩
          refine ⟨_, rfl, d, c, n + 1, 3, rfl, D1, by omega, by decide, by decide, fun r2 H2 b0 b1 D2 s2 => .inl (.inl ⟨_, _, rfl, rfl, ?_⟩)⟩
          refine ⟨_, _, rfl, rfl, ⟨by decide, by decide, by decide⟩, _, rfl, _, _, rfl, rfl, _, _, rfl, rfl, ⟨by decide, by decide, by decide⟩, _, _, rfl, rfl, ⟨by decide, by decide, by decide⟩, _, rfl, ?_⟩
          refine ⟨by show 6 ≤ sizeLine; decide, fun p hp => ?_⟩
          obtain ⟨pd, pc⟩ := D2.ne hp
          refine ⟨d, c, n + 2, _, rfl, D2.upd pd pc, by omega, .inl ⟨p, _, rfl, hid_at pd pc, by show 0 < 6; decide, by show 6 ≤ 1000000; decide, fun j x H4 hx D4 s4 => ?_⟩⟩
          have sH := (s1.trans s2).trans ((hid_same (same_new hp _)).trans s4)
          have D4' := D4.mono (by omega : n + 2 + 1 ≤ n + TT k)
          have hm := List.mem_of_getElem? hx
          simp only [List.mem_cons, List.not_mem_nil, or_false] at hm
          have int1 : ∀ i : Int, i.natAbs < 10 ^ 40 → Q (.int i) H4 := fun i hi => q _ (.int i) _ (dint _) (ok0 (okd_int hi (by decide))) D4' sH
          rcases hm with rfl | rfl | rfl | rfl | rfl | rfl
          · exact q _ (.bool true) _ (dbool _) (ok0 okd_bool) D4' sH
          · exact q _ (.bool false) _ (dbool _) (ok0 okd_bool) D4' sH
          · exact int1 _ (by rw [e12]; omega)
          · exact int1 _ (by rw [e12]; omega)
          · exact int1 _ (by decide)
          · exact int1 _ (by decide)
        · refine ⟨_, rfl, .inl ⟨_, _, rfl, rfl, _, rfl, ite2 (fun c4 => ?_) (fun c4 => ?_)⟩⟩
          · -- a word, spoilt
            refine ⟨_, rfl, d, c, n + 1, rfl, D1, by omega, fun z H2 z8 zl D2 s2 => ⟨_, rfl, d, c, n + 1 + 11, _, rfl, D2, by omega, .inr ⟨_, rfl, by decide, by decide, fun k' H3 hk D3 s3 => ⟨_, _, rfl, ?_⟩⟩⟩⟩
            have kl : Low ⟨#[k']⟩ := low_one (low_of (by decide)) hk
            have zs : z.length ≤ sizeLine := by rw [sizeLine_eq]; omega
            refine ⟨_, rfl, _, rfl, .inr ⟨z, rfl, zs, .inl (.inl ⟨_, _, rfl, rfl, d, c, n + 13, _, rfl, D3, by omega, by omega, by omega, fun a H4 b0 b1 D4 s4 => ?_⟩)⟩⟩
            have s14 := ((s1.trans s2).trans s3).trans s4
            have k1 : (⟨#[k']⟩ : Str).length = 1 := rfl
            have fit : ∀ {x y : Str}, x.length ≤ 100 → y.length ≤ 100 → x.length + y.length ≤ sizeLine := fun hx hy => by rw [sizeLine_eq]; omega
            have cl : ∀ lo hi, (cutS z lo hi).length ≤ 8 := fun lo hi => Nat.le_trans (cut_le z lo hi) z8
            refine ⟨_, rfl, _, rfl, _, rfl, .inr ⟨z, rfl, zs, _, rfl, .inl (.inr ⟨_, _, rfl, rfl, fit (Nat.le_trans (cl _ _) (by decide)) (by rw [k1]; decide), ?_⟩)⟩⟩
            have l1 : (cutS z none (some a) ++ (⟨#[k']⟩ : Str)).length ≤ 9 := by
              rw [Str.length_append, k1]
              have := cl none (some a)
              omega
            refine ⟨_, rfl, _, rfl, _, rfl, .inr ⟨z, rfl, zs, .inl (.inr ⟨_, _, rfl, rfl, fit (Nat.le_trans l1 (by decide)) (Nat.le_trans (cl _ _) (by decide)), ?_⟩)⟩⟩
            refine ⟨_, rfl, _, rfl, _, rfl, .inr ⟨z, rfl, zs, _, rfl, .inl (.inr ⟨_, _, rfl, rfl, fit (Nat.le_trans (cl _ _) (by decide)) (by rw [k1]; decide), ?_⟩)⟩⟩
            refine ⟨_, rfl, _, rfl, .inl (.inl ⟨_, _, rfl, rfl, _, rfl, .inr ⟨z, rfl, zs, .inl (.inr ⟨_, _, rfl, rfl, fit (Nat.le_trans l1 (by decide)) (Nat.le_trans (cl _ _) (by decide)), ?_⟩)⟩⟩)⟩
            refine ⟨_, rfl, .inl (.inr ⟨_, _, rfl, rfl, fit (Nat.le_trans z8 (by decide)) (by decide), ?_⟩)⟩
            refine ⟨_, rfl, .inr ⟨_, _, rfl, rfl, mul_ok (Nat.le_trans z8 (by decide)) (by decide) (by decide), ?_⟩⟩
            refine ⟨by show 4 ≤ sizeLine; decide, fun p hp => ?_⟩
            obtain ⟨pd, pc⟩ := D4.ne hp
            refine ⟨_, rfl, _, rfl, d, c, n + 14, _, rfl, D4.upd pd pc, by omega, .inl ⟨p, _, rfl, hid_at pd pc, by show 0 < 4; decide, by show 4 ≤ 1000000; decide, fun j x H5 hx D5 s5 => ?_⟩⟩
            have sH := s14.trans ((hid_same (same_new hp _)).trans s5)
            have D5' := D5.mono (by omega : n + 14 + 1 ≤ n + TT k)
            have str1 : ∀ y : Str, Low y → y.length ≤ 2200 → Q (.str y) H5 := fun y hy hl => q _ (.str y) _ (dstr _) (ok0 (okd_str hy hl)) D5' sH
            have hm := List.mem_of_getElem? hx
            simp only [List.mem_cons, List.not_mem_nil, or_false] at hm
            rcases hm with rfl | rfl | rfl | rfl
            · refine str1 _ (near_low zl kl _ _) ?_
              rw [Str.length_append]
              have := cl (some a) none
              omega
            · refine str1 _ (near_low zl kl _ _) ?_
              rw [Str.length_append]
              have := cl (some (a + 1)) none
              omega
            · refine str1 _ (low_app zl (low_of (by decide))) ?_
              have : (z ++ ("abcdefgh" : Str)).length = z.length + ("abcdefgh" : Str).length := Str.length_append _ _
              have e8 : (Str.ofString "abcdefgh").length = 8 := by decide
              omega
            · refine str1 _ (low_mul zl _) ?_
              have e := len_mul_k (x := z) (n := 250) z.length rfl
              rw [if_neg (by decide)] at e
              omega
          · -- a value
            exact ⟨_, rfl, d, c, n + 1, rfl, D1, by omega, fun v x H2 hx ox _ D2 s2 => q _ x _ (hx _) (ok0 (ox.mono (Nat.le_refl _) (by decide))) (D2.mono (by omega)) (s1.trans s2)⟩
end
end K02
end

/-! K02g -/
section
open PySem PySem.Spec PyProof.Rows L2 FA
namespace K02
section
variable {P : Program} {w : World} {K : PySem.W.Frag} {mg : Str → Option Value} {base : Heap} {f : Addr} {fd : FuncData}
/-- as spPure, with small letters in the texts -/
def spPureL (g : PyData → V) : Sp := fun vs H Q _ => ∃ v d, vs = [v] ∧ Dat H d v ∧ (∀ z, d = .str z → z.length ≤ sizeLine ∧ Low z) ∧ ∀ H', Same H H' → Q (g d) H'
theorem strs_dp {K : PySem.W.Frag} {H : Hp} : ∀ cs : List Nat, DpAll K H (cs.map fun c => V.str ⟨#[c]⟩) (cs.map fun c => PyData.str ⟨#[c]⟩)
  | [] => .nil
  | c :: r => .cons (.str _) (strs_dp r)
theorem strs_canLay : ∀ cs : List Nat, (∀ c ∈ cs, c < 128) → PyData.canLayAll0 (cs.map fun c => PyData.str ⟨#[c]⟩) = true
  | [], _ => rfl
  | c :: r, h => by
    have h1 := strs_canLay r fun c hc => h c (List.mem_cons_of_mem _ hc)
    have h2 : PyData.strOk ⟨#[c]⟩ = true := by
      have := h c List.mem_cons_self
      simp [PyData.strOk]
      omega
    simp only [List.map_cons, PyData.canLayAll0, PyData.canLay0, h1, h2, Bool.and_self]
theorem strs_depth : ∀ cs : List Nat, PyData.depthAll (cs.map fun c => PyData.str ⟨#[c]⟩) = 0
  | [] => rfl
  | c :: r => by
    simp only [List.map_cons, PyData.depthAll, strs_depth r, PyData.depth, Nat.max_self]
theorem strs_shaped (cs : List Nat) (h : ∀ c ∈ cs, c < 128) : SeqAt.shaped (.list (cs.map fun c => PyData.str ⟨#[c]⟩)) = true := by
  unfold SeqAt.shaped
  rw [Bool.and_eq_true]
  refine ⟨?_, decide_eq_true ?_⟩
  · simp only [PyData.canLay0, strs_canLay cs h]
  · simp only [PyData.depth, strs_depth]
    decide
theorem sc__law_is_name : FnScope ["_law_it", "_law_sign"] ["_law_it"] (defScope (top 15)) := ⟨rfl, rfl, rfl, by decide +kernel, rfl, by decide +kernel, by decide +kernel⟩
theorem ok__law_is_name (F : FnP K "_law_is_name" 15 f fd) (hS : ∃ o, base.get? sysModules = some o) (B : Blt mg) :
    FnG P w K mg base CX0 1 f fd ["_law_it"] (spPureL fun d => .bl (isName d)) := by
  refine okD F sc__law_is_name hS (fun vs H Q E h => ?_) (fun cdv A outer s H vs Q E R h => ?_)
  · obtain ⟨v, d, rfl, _⟩ := h
    rfl
  obtain ⟨v, d, rfl, hd, hz, q⟩ := h
  obtain ⟨m_isinstance, m_len, m_all, m_abs, m_repr, m_str, m_int, m_bool, m_list, m_tuple, m_range⟩ := B
  have nd := sc__law_is_name.nd
  refine ⟨_, (pss_cons (ps_if (PW.pt (pw_or (pt_not (pt_val (pe_callB call_isi rfl m_isinstance bt_isinstance (pa_cons (pv 0) (pa_cons (pe_bltn (v := .ty "str") (u := .type "str") rfl m_str bt_str rfl) pa_nil))))) (pw_or (pt_cmpR op_eq (pe_callB call_lenA rfl m_len bt_len (pa_cons (pv 0) pa_nil)) pe_int (nomark _)) (pw_or1 (pt_cmpR op_gt (pe_callB call_lenA rfl m_len bt_len (pa_cons (pv 0) pa_nil)) pe_int (nomark _)))))) (pss_one (ps_ret pe_bl)) pss_nil) (pss_one (ps_ret (pe_cmpR (op_eqD R.room.units) (pe_lc1 1 rfl nd (pi_str (pv 0)) (by kernel_rfl) (fun _ _ _ _ _ => pg_name (i := 1) nd rfl (Or.inl rfl)) (fun _ _ _ _ _ => (pts_one (pt_not (pt_chain opLe opLe pe_str (pv 1) pe_str)))) (fun _ _ _ _ _ => (pv 1))) (pe_lst pa_nil) (nomark _))))), ?r⟩
  case r =>
    have ht := ty_dat (K := K) hd
    have hk := kit_str (K := K) d
    cases d with
    | str z =>
      simp only [Dat] at hd
      subst hd
      obtain ⟨hl, zl⟩ := hz z rfl
      refine ⟨_, rfl, _, _, _, _, _, rfl, .ty _, ht, hk, _, rfl, iteF ?_⟩
      have q0 := q H (Same.refl H)
      refine ⟨_, rfl, .inr ⟨z, rfl, hl, rfl, _, rfl, ite2 (fun c1 => ?_) (fun c1 => ?_)⟩⟩
      · have l0 : z.length = 0 := by
          have h := V.int.inj (of_decide_eq_true c1)
          omega
        have e : isName (.str z) = false := by simp [isName, nameS, l0]
        dsimp only at q0
        rw [e] at q0
        exact q0
      · refine ⟨_, rfl, .inr ⟨z, rfl, hl, _, _, rfl, rfl, _, rfl, ite2 (fun c2 => ?_) (fun c2 => ?_)⟩⟩
        · have l9 := of_decide_eq_true c2
          have e : isName (.str z) = false := by
            have c3 : ¬ (z.length ≤ 8) := by omega
            simp [isName, nameS, c3]
          dsimp only at q0
          rw [e] at q0
          exact q0
        · have l1 : 1 ≤ z.length := by
            have h : ¬ z.length = 0 := fun h => c1 (decide_eq_true (by rw [h]; rfl))
            omega
          have l8 : z.length ≤ 8 := by
            have h : ¬ (8 : Int) < z.length := fun h => c2 (decide_eq_true h)
            omega
          have hlen : z.cps.toList.length = z.length := by simp [Str.length]
          refine ⟨_, rfl, z, rfl, fun D hD => lc_it walk_str (fun i H' => Same H H' ∧ H' D = some (.lst (((z.cps.toList.take i).filter fun c => !okc c).map fun c => V.str ⟨#[c]⟩)))
            ⟨same_new hD _, by rw [upd_same]; rfl⟩ (fun _ _ _ _ => trivial) ?_ ?_⟩
          · rintro i x H1 H2 hi ⟨s1, e1⟩ ⟨rfl, c, hc, rfl⟩
            have hc' : z.cps.toList[i]? = some c := by simpa using hc
            have yes : okc c = false → ∃ acc, H2 D = some (.lst acc) ∧ acc.length < sizeLine ∧
                (Same H (upd H2 D (.lst (acc ++ [V.str ⟨#[c]⟩]))) ∧ upd H2 D (.lst (acc ++ [V.str ⟨#[c]⟩])) D = some (.lst (((z.cps.toList.take (i + 1)).filter fun c => !okc c).map fun c => V.str ⟨#[c]⟩))) := by
              intro ho
              refine ⟨_, e1, ?_, same_mut s1 hD, ?_⟩
              · have : (((z.cps.toList.take i).filter fun c => !okc c).map fun c => V.str ⟨#[c]⟩).length ≤ 8 := by
                  rw [List.length_map]
                  refine Nat.le_trans (List.length_filter_le _ _) ?_
                  rw [List.length_take]
                  omega
                exact Nat.lt_of_le_of_lt this (by decide)
              · rw [upd_same, List.take_add_one, hc']
                simp [ho]
            have no : okc c = true → (Same H H2 ∧ H2 D = some (.lst (((z.cps.toList.take (i + 1)).filter fun c => !okc c).map fun c => V.str ⟨#[c]⟩))) := by
              intro ho
              refine ⟨s1, ?_⟩
              rw [List.take_add_one, hc', e1]
              simp [ho]
            refine ⟨rfl, ⟨_, rfl, .inr ⟨_, _, rfl, rfl, _, rfl, ite2 (fun c3 => .inr ⟨_, _, rfl, rfl, _, rfl, ite2 (fun c4 => ⟨_, rfl, yes ?_⟩) (fun c4 => no ?_)⟩) (fun c3 => ⟨_, rfl, ⟨_, rfl, yes ?_⟩⟩)⟩⟩⟩
            · rw [sgn_z, lt1] at c4
              unfold okc
              by_cases h : 122 < c
              · rw [decide_eq_false (by omega : ¬ c ≤ 122), Bool.and_false]
              · rw [decide_eq_false h] at c4
                exact absurd c4 (by decide)
            · rw [sgn_a, lt1] at c3
              rw [sgn_z, lt1] at c4
              unfold okc
              by_cases h : 122 < c
              · rw [decide_eq_true h] at c4
                exact absurd rfl c4
              · by_cases h2 : c < 97
                · rw [decide_eq_true h2] at c3
                  exact absurd c3 (by decide)
                · rw [decide_eq_true (by omega : 97 ≤ c), decide_eq_true (by omega : c ≤ 122)]
                  rfl
            · rw [sgn_a, lt1] at c3
              unfold okc
              by_cases h2 : c < 97
              · rw [decide_eq_false (by omega : ¬ 97 ≤ c), Bool.false_and]
              · rw [decide_eq_false h2] at c3
                exact absurd rfl c3
          · rintro H' ⟨s1, e1⟩
            have eall : (z.cps.toList.take z.cps.size) = z.cps.toList := List.take_of_length_le (by simp)
            rw [eall] at e1
            refine ⟨Nat.zero_le _, fun p hp => ?_⟩
            have pD : D ≠ p := ne_of_none e1 hp
            have sub : ∀ c ∈ z.cps.toList.filter (fun c => !okc c), c < 128 := fun c hc => zl c (List.mem_filter.mp hc).1
            refine ⟨_, _, .lst (SqL.of (by rw [upd_ne pD]; exact e1)) (strs_dp _), .lst (SqL.of upd_same) .nil, strs_shaped _ sub, rfl, ?_⟩
            have e : isName (.str z) = PyData.eqv (.list ((z.cps.toList.filter fun c => !okc c).map fun c => PyData.str ⟨#[c]⟩)) (.list []) := by
              have e2 : isName (.str z) = z.cps.toList.all okc := by simp [isName, nameS, lower, l1, l8]
              rw [e2]
              generalize z.cps.toList = l
              induction l with
              | nil => rfl
              | cons a r ih =>
                cases h : okc a with
                | true => simpa [h] using ih
                | false => simp [h, PyData.eqv, PyData.eqvAll]
            have q1 := q _ (s1.trans (same_new hp (.lst [])))
            dsimp only at q1
            rw [e] at q1
            exact q1
    | _ => exact ⟨_, rfl, _, _, _, _, _, rfl, .ty _, ht, hk, _, rfl, q H (Same.refl H)⟩
theorem sc__law_is_value : FnScope ["_law_it"] ["_law_it"] (defScope (top 16)) := ⟨rfl, rfl, rfl, by decide +kernel, rfl, by decide +kernel, by decide +kernel⟩
theorem ok__law_is_value (F : FnP K "_law_is_value" 16 f fd) (hS : ∃ o, base.get? sysModules = some o) (B : Blt mg)
    (c__law_is_name : Cal P w K mg base 1 "_law_is_name" ["_law_it"] (spPureL fun d => .bl (isName d))) :
    FnG P w K mg base CX0 2 f fd ["_law_it"] (spPureL fun d => .bl (isVal d)) := by
  refine okD F sc__law_is_value hS (fun vs H Q E h => ?_) (fun cdv A outer s H vs Q E R h => ?_)
  · obtain ⟨v, d, rfl, _⟩ := h
    rfl
  obtain ⟨v, d, rfl, hd, hz, q⟩ := h
  obtain ⟨m_isinstance, m_len, m_all, m_abs, m_repr, m_str, m_int, m_bool, m_list, m_tuple, m_range⟩ := B
  have nd := sc__law_is_value.nd
  refine ⟨_, (pss_cons (ps_if (PW.pt (pw_or (pt_cmpR op_isN (pv 0) pe_non (nomark _)) (pw_or1 (pt_val (cc c__law_is_name R (pa_cons (pv 0) pa_nil)))))) (pss_one (ps_ret pe_bl)) pss_nil) (pss_one (ps_ret (pe_and (pe_callB call_isi rfl m_isinstance bt_isinstance (pa_cons (pv 0) (pa_cons (pe_bltn (v := .ty "int") (u := .type "int") rfl m_int bt_int rfl) pa_nil))) (pe_and (pe_not (pe_callB call_isi rfl m_isinstance bt_isinstance (pa_cons (pv 0) (pa_cons (pe_bltn (v := .ty "bool") (u := .type "bool") rfl m_bool bt_bool rfl) pa_nil)))) (pe_one (pe_cmpR opLe (pe_callB call_abs rfl m_abs bt_abs (pa_cons (pv 0) pa_nil)) (pe_op op_pow pe_int pe_int) (nomark _)))))))), ?r⟩
  case r =>
    have ht := fun {H'} (s : Same H H') => ty_dat (K := K) (dat_same s _ _ hd)
    have hi := kit_int (K := K) d
    have hb := kit_bool (K := K) d
    refine ⟨_, rfl, rfl, _, rfl, ?_⟩
    rw [dat_non hd]
    have nm : ∀ (H1 : Hp), Same H H1 → ∀ b, isName d = b → isVal d = (match d with | .none => true | _ => isNum d || b) := fun _ _ b hb => by
      subst hb
      cases d <;> rfl
    cases d with
    | none => exact q H (Same.refl H)
    | str z =>
      refine ⟨_, rfl, v, _, rfl, hd, hz, fun H1 s1 => ⟨_, rfl, ?_⟩⟩
      refine ite2 (fun c => ?_) (fun c => ?_)
      · have q1 := q H1 s1
        dsimp only at q1 c
        have e : isVal (.str z) = true := by simp [isVal, isNum, c]
        rw [e] at q1
        exact q1
      · refine ⟨_, rfl, _, _, _, _, _, rfl, .ty _, ht s1, hi, _, rfl, ?_⟩
        have q1 := q H1 s1
        dsimp only at q1 c
        have e : isVal (.str z) = false := by
          have c' : isName (.str z) = false := by
            cases h : isName (.str z) with
            | false => rfl
            | true => exact absurd h c
          simp [isVal, isNum, c']
        rw [e] at q1
        exact q1
    | int i =>
      simp only [Dat] at hd
      subst hd
      refine ⟨_, rfl, _, .int i, rfl, (by simp only [Dat]), hz, fun H1 s1 => ⟨_, rfl, ?_⟩⟩
      refine ⟨_, rfl, _, _, _, _, _, rfl, .ty _, ht s1, hi, _, rfl, ?_⟩
      refine ⟨_, rfl, _, _, _, _, _, rfl, .ty _, ht s1, hb, _, rfl, _, rfl, ?_⟩
      refine ⟨_, rfl, _, rfl, _, _, rfl, rfl, ⟨by decide, by decide, by decide⟩, .inl ⟨_, _, rfl, rfl, ?_⟩⟩
      have e : isVal (.int i) = decide ((if i < 0 then -i else i) ≤ (10 : Int) ^ Int.toNat 12) := by
        have e12 : (10 : Int) ^ Int.toNat 12 = 10 ^ 12 := by decide
        simp only [isVal, isNum, isName, Bool.or_false, e12]
        by_cases h1 : -(10 ^ 12) ≤ i
        · by_cases h2 : i ≤ 10 ^ 12
          · rw [decide_eq_true h1, decide_eq_true h2]
            refine (decide_eq_true ?_).symm
            split <;> omega
          · rw [decide_eq_false h2, Bool.and_false]
            refine (decide_eq_false ?_).symm
            split <;> omega
        · rw [decide_eq_false h1, Bool.false_and]
          refine (decide_eq_false ?_).symm
          split <;> omega
      have q1 := q H1 s1
      dsimp only at q1
      rw [e] at q1
      exact q1
    | bool b =>
      refine ⟨_, rfl, v, _, rfl, hd, hz, fun H1 s1 => ⟨_, rfl, ?_⟩⟩
      refine ⟨_, rfl, _, _, _, _, _, rfl, .ty _, ht s1, hi, _, rfl, ?_⟩
      exact ⟨_, rfl, _, _, _, _, _, rfl, .ty _, ht s1, hb, _, rfl, _, rfl, q H1 s1⟩
    | _ =>
      refine ⟨_, rfl, v, _, rfl, hd, hz, fun H1 s1 => ⟨_, rfl, ?_⟩⟩
      exact ⟨_, rfl, _, _, _, _, _, rfl, .ty _, ht s1, hi, _, rfl, q H1 s1⟩

def rankV : PyData → List V
  | .none => [.int 0, .int 0, .str ""]
  | .str z => [.int 2, .int 0, .str z]
  | .int i => [.int 1, .int i, .str ""]
  | _ => []
def spRank : Sp := fun vs H Q _ => ∃ v d, vs = [v] ∧ Dat H d v ∧ isV d = true ∧ ∀ T H', H T = none → H' T = some (.tup (rankV d)) → Same H H' → Q (.ref T) H'
theorem sc__law_rank : FnScope ["_law_it"] ["_law_it"] (defScope (top 17)) := ⟨rfl, rfl, rfl, by decide +kernel, rfl, by decide +kernel, by decide +kernel⟩
theorem ok__law_rank (F : FnP K "_law_rank" 17 f fd) (hS : ∃ o, base.get? sysModules = some o) (B : Blt mg) :
    FnG P w K mg base CX0 1 f fd ["_law_it"] spRank := by
  refine okD F sc__law_rank hS (fun vs H Q E h => ?_) (fun cdv A outer s H vs Q E R h => ?_)
  · obtain ⟨v, d, rfl, _⟩ := h
    rfl
  obtain ⟨v, d, rfl, hd, hv, q⟩ := h
  obtain ⟨m_isinstance, m_len, m_all, m_abs, m_repr, m_str, m_int, m_bool, m_list, m_tuple, m_range⟩ := B
  have nd := sc__law_rank.nd
  refine ⟨_, (pss_cons (ps_if (pt_cmpR op_isN (pv 0) pe_non (nomark _)) (pss_one (ps_ret (pe_tup (pa_cons pe_int (pa_cons pe_int (pa_cons pe_str pa_nil)))))) pss_nil) (pss_one (ps_ret (pe_ifExp (pt_val (pe_callB call_isi rfl m_isinstance bt_isinstance (pa_cons (pv 0) (pa_cons (pe_bltn (v := .ty "str") (u := .type "str") rfl m_str bt_str rfl) pa_nil)))) (pe_tup (pa_cons pe_int (pa_cons pe_int (pa_cons (pv 0) pa_nil)))) (pe_tup (pa_cons pe_int (pa_cons (pv 0) (pa_cons pe_str pa_nil)))))))), ?r⟩
  case r =>
    have ht := ty_dat (K := K) hd
    have hk := kit_str (K := K) d
    have s3 : 3 ≤ sizeLine := by decide
    refine ⟨_, rfl, rfl, _, rfl, ?_⟩
    rw [dat_non hd]
    cases d with
    | none => exact ⟨s3, fun T hT => q T _ hT upd_same (same_new hT _)⟩
    | int i =>
      simp only [Dat] at hd
      subst hd
      exact ⟨_, rfl, _, _, _, _, _, rfl, .ty _, ht, hk, _, rfl, _, rfl, s3, fun T hT => q T _ hT upd_same (same_new hT _)⟩
    | str z =>
      simp only [Dat] at hd
      subst hd
      exact ⟨_, rfl, _, _, _, _, _, rfl, .ty _, ht, hk, _, rfl, _, rfl, s3, fun T hT => q T _ hT upd_same (same_new hT _)⟩
    | _ => cases hv
end
end K02
end

/-! K02h -/
section
open PySem PySem.Spec PyProof.Rows L2 FA
namespace K02
section
variable {P : Program} {w : World} {K : PySem.W.Frag} {mg : Str → Option Value} {base : Heap} {f : Addr} {fd : FuncData}
def same1 : ∀ {α : Type}, List α → List α := fun l => l
def swap1 : ∀ {α : Type}, List α → List α := fun l => l.reverse
def spRight : Sp := fun vs H Q _ => ∃ v d, vs = [v] ∧ Dat H d v ∧ Okd 60 270000 d ∧ ∀ H', Same H H' → Q (.bl true) H'
theorem isV_of {d : PyData} (h : isVal d = true) : isV d = true := by
  cases d with
  | none => rfl
  | int i => rfl
  | str z => rfl
  | _ => cases h
theorem kind_low (d : PyData) : Low (kindN d) ∧ (kindN d).length ≤ 100 := by
  cases d <;> exact ⟨low_of (by simp only [kindN]; decide), by simp only [kindN]; decide⟩
theorem sc__law_thing_right : FnScope ["_law_it", "_law_kept", "_law_told", "_law_due", "_law_kind"] ["_law_it"] (defScope (top 18)) := ⟨rfl, rfl, rfl, by decide +kernel, rfl, by decide +kernel, by decide +kernel⟩
theorem ok__law_thing_right (F : FnP K "_law_thing_right" 18 f fd) (hS : ∃ o, base.get? sysModules = some o) (B : Blt mg)
    (c_is_name : Cal P w K mg base 1 "is_name" ["thing"] (spPure fun d => .bl (isName d)))
    (k_is_name : CalK P w K mg base 1 "is_name" ["thing"] ["thing"] same1 (spPure fun d => .bl (isName d)))
    (c_is_value : Cal P w K mg base 2 "is_value" ["thing"] (spPure fun d => .bl (isVal d)))
    (k_is_value : CalK P w K mg base 2 "is_value" ["thing"] ["thing"] same1 (spPure fun d => .bl (isVal d)))
    (c_kind_of : Cal P w K mg base 1 "kind_of" ["value"] (spPure fun d => .str (kindN d)))
    (k_kind_of : CalK P w K mg base 1 "kind_of" ["value"] ["value"] same1 (spPure fun d => .str (kindN d)))
    (c__law_is_name : Cal P w K mg base 1 "_law_is_name" ["_law_it"] (spPureL fun d => .bl (isName d)))
    (c__law_is_value : Cal P w K mg base 2 "_law_is_value" ["_law_it"] (spPureL fun d => .bl (isVal d)))
    (c__law_rank : Cal P w K mg base 1 "_law_rank" ["_law_it"] spRank) :
    FnG P w K mg base CX0 3 f fd ["_law_it"] spRight := by
  refine okD F sc__law_thing_right hS (fun vs H Q E h => ?_) (fun cdv A outer s H vs Q E R h => ?_)
  · obtain ⟨v, d, rfl, _⟩ := h
    rfl
  obtain ⟨v, d, rfl, hd, ok, q⟩ := h
  obtain ⟨m_isinstance, m_len, m_all, m_abs, m_repr, m_str, m_int, m_bool, m_list, m_tuple, m_range⟩ := B
  have nd := sc__law_thing_right.nd
  refine ⟨_, (pss_cons (ps_set (i := 1) nd rfl (Or.inl rfl) (crepr R m_repr (pa_cons (pv 0) pa_nil))) (pss_cons (ps_set (i := 2) nd rfl (Or.inl rfl) (pe_lst (pa_cons (cc c_is_name R (pa_cons (pv 0) pa_nil)) (pa_cons (ck k_is_name R (pk_cons (pv 0) pk_nil)) (pa_cons (cc c_is_value R (pa_cons (pv 0) pa_nil)) (pa_cons (ck k_is_value R (pk_cons (pv 0) pk_nil)) pa_nil)))))) (pss_cons (ps_set (i := 3) nd rfl (Or.inl rfl) (pe_op opAdd (pe_op opMul (pe_lst (pa_cons (cc c__law_is_name R (pa_cons (pv 0) pa_nil)) pa_nil)) pe_int) (pe_op opMul (pe_lst (pa_cons (cc c__law_is_value R (pa_cons (pv 0) pa_nil)) pa_nil)) pe_int))) (pss_cons (ps_if (PW.pt (pw_or (pt_cmpR op_ne (crepr R m_repr (pa_cons (pv 2) pa_nil)) (crepr R m_repr (pa_cons (pv 3) pa_nil)) (nomark _)) (pw_or1 (pt_cmpR op_ne (crepr R m_repr (pa_cons (pv 0) pa_nil)) (pv 1) (nomark _))))) (pss_one (ps_ret pe_bl)) pss_nil) (pss_cons (ps_if (pt_not (pt_val (cc c__law_is_value R (pa_cons (pv 0) pa_nil)))) (pss_one (ps_ret pe_bl)) pss_nil) (pss_cons (ps_set (i := 4) nd rfl (Or.inl rfl) (pe_ix ixAny (pe_lst (pa_cons pe_str (pa_cons pe_str (pa_cons pe_str pa_nil)))) (pe_ix ixAny (cc c__law_rank R (pa_cons (pv 0) pa_nil)) pe_int (fun _ _ => rfl)) (fun _ _ => rfl))) (pss_one (ps_ret (pe_cmpR op_eq (crepr R m_repr (pa_cons (pe_lst (pa_cons (cc c_kind_of R (pa_cons (pv 0) pa_nil)) (pa_cons (ck k_kind_of R (pk_cons (pv 0) pk_nil)) pa_nil))) pa_nil)) (crepr R m_repr (pa_cons (pe_lst (pa_cons (pv 4) (pa_cons (pv 4) pa_nil))) pa_nil)) (nomark _)))))))))), ?r⟩
  case r =>
    have rp := ok.rp (Nat.le_refl _) (Nat.le_refl _)
    have hz : ∀ z, d = .str z → z.length ≤ sizeLine := fun z e => by
      subst e
      have := ok.strLen
      rw [sizeLine_eq]
      omega
    have hzl : ∀ z, d = .str z → z.length ≤ sizeLine ∧ Low z := fun z e => ⟨hz z e, ok.low z e⟩
    have dd : ∀ {H'}, Same H H' → Dat H' d v := fun s => dat_same s _ _ hd
    refine ⟨_, rfl, v, d, rfl, hd, rp.sh, rp.dp, rp.ln, ?_⟩
    -- told
    refine ⟨_, rfl, v, d, rfl, hd, hz, fun H1 s1 => ?_⟩
    refine ⟨_, rfl, rfl, v, d, rfl, dd s1, hz, fun H2 s2 => ?_⟩
    refine ⟨_, rfl, v, d, rfl, dd (s1.trans s2), hz, fun H3 s3 => ?_⟩
    refine ⟨_, rfl, rfl, v, d, rfl, dd ((s1.trans s2).trans s3), hz, fun H4 s4 => ?_⟩
    have t4 := ((s1.trans s2).trans s3).trans s4
    refine ⟨by show 4 ≤ sizeLine; decide, fun p1 hp1 => ?_⟩
    have t5 := t4.trans (same_new hp1 (.lst [.bl (isName d), .bl (isName d), .bl (isVal d), .bl (isVal d)]))
    have e5 : upd H4 p1 (.lst [.bl (isName d), .bl (isName d), .bl (isVal d), .bl (isVal d)]) p1 = some (.lst [.bl (isName d), .bl (isName d), .bl (isVal d), .bl (isVal d)]) := upd_same
    -- due
    refine ⟨_, rfl, v, d, rfl, dd t5, hzl, fun H6 s6 => ⟨by show 1 ≤ sizeLine; decide, fun p2 hp2 => .inl (.inr ⟨p2, 2, _, rfl, rfl, upd_same, by decide, by decide, by show 1 * 2 ≤ sizeLine; decide, fun p3 hp3 => ?_⟩)⟩⟩
    have s7 : Same H6 (upd (upd H6 p2 (.lst [.bl (isName d)])) p3 (.lst (List.replicate (Int.toNat 2) [V.bl (isName d)]).flatten)) := (same_new hp2 _).trans (same_new hp3 _)
    have e7 : upd (upd H6 p2 (.lst [.bl (isName d)])) p3 (.lst (List.replicate (Int.toNat 2) [V.bl (isName d)]).flatten) p3 = some (.lst [.bl (isName d), .bl (isName d)]) := upd_same
    refine ⟨_, rfl, v, d, rfl, dd ((t5.trans s6).trans s7), hzl, fun H8 s8 => ⟨by show 1 ≤ sizeLine; decide, fun p4 hp4 => .inl (.inr ⟨p4, 2, _, rfl, rfl, upd_same, by decide, by decide, by show 1 * 2 ≤ sizeLine; decide, fun p5 hp5 => ?_⟩)⟩⟩
    have s9 : Same H8 (upd (upd H8 p4 (.lst [.bl (isVal d)])) p5 (.lst (List.replicate (Int.toNat 2) [V.bl (isVal d)]).flatten)) := (same_new hp4 _).trans (same_new hp5 _)
    have e9 : upd (upd H8 p4 (.lst [.bl (isVal d)])) p5 (.lst (List.replicate (Int.toNat 2) [V.bl (isVal d)]).flatten) p5 = some (.lst [.bl (isVal d), .bl (isVal d)]) := upd_same
    have t9 := (((t5.trans s6).trans s7).trans s8).trans s9
    have e59 := (((s6.trans s7).trans s8).trans s9) _ _ e5
    have e79 := (s8.trans s9) _ _ e7
    generalize upd (upd H8 p4 (.lst [.bl (isVal d)])) p5 (.lst (List.replicate (Int.toNat 2) [V.bl (isVal d)]).flatten) = H9 at s9 e9 t9 e59 e79
    refine .inr ⟨p3, p5, _, _, rfl, rfl, e79, e9, by show 2 + 2 ≤ sizeLine; decide, fun p6 hp6 => ?_⟩
    have s10 : Same H9 (upd H9 p6 (.lst ([V.bl (isName d), V.bl (isName d)] ++ [V.bl (isVal d), V.bl (isVal d)]))) := same_new hp6 _
    have e10 : upd H9 p6 (.lst ([V.bl (isName d), V.bl (isName d)] ++ [V.bl (isVal d), V.bl (isVal d)])) p6 = some (.lst [.bl (isName d), .bl (isName d), .bl (isVal d), .bl (isVal d)]) := upd_same
    generalize upd H9 p6 (.lst ([V.bl (isName d), V.bl (isName d)] ++ [V.bl (isVal d), V.bl (isVal d)])) = HA at s10 e10
    have tA := t9.trans s10
    have lst4 : ∀ {p : Addr}, HA p = some (.lst [.bl (isName d), .bl (isName d), .bl (isVal d), .bl (isVal d)]) → Dat HA (.list [.bool (isName d), .bool (isName d), .bool (isVal d), .bool (isVal d)]) (.ref p) := fun {p} e => by
      simp only [Dat, DatAll]
      exact ⟨p, _, rfl, e, _, _, rfl, rfl, _, _, rfl, rfl, _, _, rfl, rfl, _, _, rfl, rfl, rfl⟩
    have rp4 := rp_bools (isName d) (isName d) (isVal d) (isVal d)
    refine ⟨_, rfl, _, _, rfl, lst4 (s10 _ _ e59), rp4.sh, rp4.dp, rp4.ln, _, rfl, _, _, rfl, lst4 e10, rp4.sh, rp4.dp, rp4.ln, rfl, _, rfl, ite2 (fun c => absurd (c.symm.trans (strEq rfl)) (by decide)) (fun _ => ?_)⟩
    refine ⟨_, rfl, v, d, rfl, dd tA, rp.sh, rp.dp, rp.ln, _, rfl, rfl, _, rfl, ite2 (fun c => absurd (c.symm.trans (strEq rfl)) (by decide)) (fun _ => ?_)⟩
    -- no value
    refine ⟨_, rfl, v, d, rfl, dd tA, hzl, fun HB sB => ⟨_, rfl, ?_⟩⟩
    have tB := tA.trans sB
    refine ite2 (fun _ => q _ tB) (fun c => ?_)
    have hv : isVal d = true := by
      cases h : isVal d with
      | true => rfl
      | false =>
        rw [h] at c
        exact absurd rfl c
    refine ⟨by show 3 ≤ sizeLine; decide, fun p7 hp7 => ?_⟩
    have e11 : upd HB p7 (.lst [.str "nothing", .str "number", .str "word"]) p7 = some (.lst [.str "nothing", .str "number", .str "word"]) := upd_same
    have s11 : Same HB (upd HB p7 (.lst [.str "nothing", .str "number", .str "word"])) := same_new hp7 _
    refine ⟨_, rfl, v, d, rfl, dd (tB.trans s11), isV_of hv, fun T HC hT eT sC => ?_⟩
    have tC := (tB.trans s11).trans sC
    have kind : ∃ r : Int, atI (rankV d) 0 = some (.int r) ∧ atI [V.str "nothing", V.str "number", V.str "word"] r = some (.str (kindN d)) := by
      have hV := isV_of hv
      cases d with
      | none => exact ⟨0, rfl, rfl⟩
      | int i => exact ⟨1, rfl, rfl⟩
      | str z => exact ⟨2, rfl, rfl⟩
      | _ => cases hV
    obtain ⟨r, r1, r2⟩ := kind
    refine .inr (.inl ⟨T, _, 0, _, rfl, rfl, SqT.of eT, r1, .inl ⟨p7, _, r, _, rfl, rfl, SqL.of (sC _ _ e11), r2, ?_⟩⟩)
    -- the kind, twice
    refine ⟨_, rfl, v, d, rfl, dd tC, hz, fun HD sD => ?_⟩
    refine ⟨_, rfl, rfl, v, d, rfl, dd (tC.trans sD), hz, fun HE sE => ?_⟩
    have tE := (tC.trans sD).trans sE
    refine ⟨by show 2 ≤ sizeLine; decide, fun p8 hp8 => ?_⟩
    obtain ⟨k1, k2⟩ := kind_low d
    have rp2 := rp_strs2 k1 k1 k2 k2
    have lst2 : ∀ {H' : Hp} {p : Addr}, H' p = some (.lst [.str (kindN d), .str (kindN d)]) → Dat H' (.list [.str (kindN d), .str (kindN d)]) (.ref p) := fun {H' p} e => by
      simp only [Dat, DatAll]
      exact ⟨p, _, rfl, e, _, _, rfl, rfl, _, _, rfl, rfl, rfl⟩
    refine ⟨_, _, rfl, lst2 upd_same, rp2.sh, rp2.dp, rp2.ln, ?_⟩
    refine ⟨_, rfl, _, rfl, by show 2 ≤ sizeLine; decide, fun p9 hp9 => ?_⟩
    refine ⟨_, _, rfl, lst2 upd_same, rp2.sh, rp2.dp, rp2.ln, rfl, ?_⟩
    have last := q _ ((tE.trans (same_new hp8 (.lst [.str (kindN d), .str (kindN d)]))).trans (same_new hp9 (.lst [.str (kindN d), .str (kindN d)])))
    rw [decide_eq_true rfl]
    exact last

def rankD : PyData → PyData
  | .none => .tuple [.int 0, .int 0, .str ""]
  | .str z => .tuple [.int 2, .int 0, .str z]
  | .int i => .tuple [.int 1, .int i, .str ""]
  | _ => .tuple []
theorem rank_dat {H : Hp} {T : Addr} {d : PyData} (h : isV d = true) (e : H T = some (.tup (rankV d))) : Dat H (rankD d) (.ref T) := by
  cases d with
  | none =>
    simp only [rankD, Dat, DatAll]
    exact ⟨T, _, rfl, e, _, _, rfl, rfl, _, _, rfl, rfl, _, _, rfl, rfl, rfl⟩
  | int i =>
    simp only [rankD, Dat, DatAll]
    exact ⟨T, _, rfl, e, _, _, rfl, rfl, _, _, rfl, rfl, _, _, rfl, rfl, rfl⟩
  | str z =>
    simp only [rankD, Dat, DatAll]
    exact ⟨T, _, rfl, e, _, _, rfl, rfl, _, _, rfl, rfl, _, _, rfl, rfl, rfl⟩
  | _ => cases h
theorem rank_alike {d e : PyData} (h : isV d = true) (h2 : isV e = true) : PySem.W.alike (rankD d) (rankD e) = true ∧ rankD d ≠ .none ∧ (rankD d).depth ≤ 60 := by
  cases d <;> cases e <;> first | (cases h; done) | (cases h2; done) | exact ⟨by simp only [rankD, PySem.W.alike, PySem.W.alikeAll, Bool.and_self], nofun, by simp only [rankD, PyData.depth, PyData.depthAll]; decide⟩
open PySem.W in
theorem two_no {a b : Int} {xs ys : List PyData} (h : a ≠ b) : dataLt (.tuple (.int a :: xs)) (.tuple (.int b :: ys)) = decide (a < b) := by
  rw [dataLt_tuple, dataLt_all_no (by simp only [alike]) (by simp only [PyData.eqv]; exact beq_eq_false_iff_ne.mpr h), dataLt_int]
open PySem.W in
theorem two_yes {a : Int} {xs ys : List PyData} : dataLt (.tuple (.int a :: xs)) (.tuple (.int a :: ys)) = dataLt (.tuple xs) (.tuple ys) := by
  rw [dataLt_tuple, dataLt_all_yes (by simp only [alike]) (by simp only [PyData.eqv]; exact beq_self_eq_true a), ← dataLt_tuple]
open PySem.W in
theorem last_str {x y : Str} : dataLt (.tuple [.str x]) (.tuple [.str y]) = decide (x.cps.toList < y.cps.toList) := by
  by_cases h : x = y
  · subst h
    rw [dataLt_tuple, dataLt_all_yes (by simp only [alike]) (by simp only [PyData.eqv]; exact beq_self_eq_true x)]
    have : ¬ x.cps.toList < x.cps.toList := List.lt_irrefl _
    rw [decide_eq_false this]
    rfl
  · rw [dataLt_tuple, dataLt_all_no (by simp only [alike]) (by simp only [PyData.eqv]; exact beq_eq_false_iff_ne.mpr h), dataLt_str]
theorem no_less (x : Str) : decide (x.cps.toList < x.cps.toList) = false := decide_eq_false (List.lt_irrefl _)
theorem rank_lt {d e : PyData} (h : isV d = true) (h2 : isV e = true) : PySem.W.dataLt (rankD d) (rankD e) = before d e := by
  cases d with
  | none =>
    cases e with
    | none => simp only [rankD, before, two_yes, last_str, no_less]
    | int j => simp only [rankD, before]; rw [two_no (by decide)]; rfl
    | str y => simp only [rankD, before]; rw [two_no (by decide)]; rfl
    | _ => cases h2
  | int i =>
    cases e with
    | none => simp only [rankD, before]; rw [two_no (by decide)]; rfl
    | int j =>
      simp only [rankD, before, two_yes]
      by_cases q : i = j
      · subst q
        rw [two_yes, last_str, no_less, decide_eq_false (Int.lt_irrefl _)]
      · rw [two_no q]
    | str y => simp only [rankD, before]; rw [two_no (by decide)]; rfl
    | _ => cases h2
  | str x =>
    cases e with
    | none => simp only [rankD, before]; rw [two_no (by decide)]; rfl
    | int j => simp only [rankD, before]; rw [two_no (by decide)]; rfl
    | str y => simp only [rankD, before, two_yes, last_str]
    | _ => cases h2
  | _ => cases h
/-- a value that hangs on no heap -/
def Vd (v : V) : Prop := ∃ d, (∀ H0, Dat H0 d v) ∧ isV d = true ∧ ∀ z, d = .str z → z.length ≤ sizeLine
def spPair : Sp := fun vs H Q _ => ∃ v u, vs = [v, u] ∧ Vd v ∧ Vd u ∧ ∀ H', Same H H' → Q (.bl true) H'
theorem sc__law_pair_right : FnScope ["_law_first", "_law_second", "_law_left", "_law_right", "_law_told"] ["_law_first", "_law_second"] (defScope (top 19)) := ⟨rfl, rfl, rfl, by decide +kernel, rfl, by decide +kernel, by decide +kernel⟩
theorem ok__law_pair_right (F : FnP K "_law_pair_right" 19 f fd) (hS : ∃ o, base.get? sysModules = some o) (B : Blt mg)
    (c_is_before : Cal P w K mg base 3 "is_before" ["one", "other"] spBefore)
    (k_is_before : CalK P w K mg base 3 "is_before" ["one", "other"] ["other", "one"] swap1 spBefore)
    (c__law_rank : Cal P w K mg base 1 "_law_rank" ["_law_it"] spRank) :
    FnG P w K mg base CX0 4 f fd ["_law_first", "_law_second"] spPair := by
  refine okD F sc__law_pair_right hS (fun vs H Q E h => ?_) (fun cdv A outer s H vs Q E R h => ?_)
  · obtain ⟨v, u, rfl, _⟩ := h
    rfl
  obtain ⟨v, u, rfl, ⟨d, hd, vd, zd⟩, ⟨e, he, ve, ze⟩, q⟩ := h
  obtain ⟨m_isinstance, m_len, m_all, m_abs, m_repr, m_str, m_int, m_bool, m_list, m_tuple, m_range⟩ := B
  have nd := sc__law_pair_right.nd
  refine ⟨_, (pss_cons (ps_par (i := 2) (j := 3) rfl nd rfl rfl (by decide) rfl rfl (pa_cons (cc c__law_rank R (pa_cons (pv 0) pa_nil)) (pa_cons (cc c__law_rank R (pa_cons (pv 1) pa_nil)) pa_nil)) rfl) (pss_cons (ps_set (i := 4) nd rfl (Or.inl rfl) (pe_lst (pa_cons (cc c_is_before R (pa_cons (pv 0) (pa_cons (pv 1) pa_nil))) (pa_cons (cc c_is_before R (pa_cons (pv 1) (pa_cons (pv 0) pa_nil))) (pa_cons (ck k_is_before R (pk_cons (pv 1) (pk_cons (pv 0) pk_nil))) pa_nil))))) (pss_one (ps_ret (pe_cmpR op_eq (crepr R m_repr (pa_cons (pv 4) pa_nil)) (crepr R m_repr (pa_cons (pe_lst (pa_cons (pe_cmpR (opLtD R.room) (pv 2) (pv 3) (nomark _)) (pa_cons (pe_cmpR (opLtD R.room) (pv 3) (pv 2) (nomark _)) (pa_cons (pe_cmpR (opLtD R.room) (pv 2) (pv 3) (nomark _)) pa_nil)))) pa_nil)) (nomark _)))))), ?r⟩
  case r =>
    refine ⟨_, rfl, v, d, rfl, hd _, vd, fun T1 H1 hT1 e1 s1 => ⟨_, rfl, u, e, rfl, he _, ve, fun T2 H2 hT2 e2 s2 => ⟨_, _, rfl, ?_⟩⟩⟩
    refine ⟨_, rfl, _, rfl, v, d, u, e, rfl, hd _, he _, vd, ve, zd, ze, fun H3 s3 => ?_⟩
    refine ⟨_, rfl, _, rfl, u, e, v, d, rfl, he _, hd _, ve, vd, ze, zd, fun H4 s4 => ?_⟩
    refine ⟨_, rfl, _, rfl, rfl, v, d, u, e, rfl, hd _, he _, vd, ve, zd, ze, fun H5 s5 => ?_⟩
    refine ⟨by show 3 ≤ sizeLine; decide, fun p hp => ?_⟩
    have s25 := (s3.trans s4).trans s5
    have s26 := s25.trans (same_new hp (.lst [.bl (before d e), .bl (before e d), .bl (before d e)]))
    have e6 : upd H5 p (.lst [.bl (before d e), .bl (before e d), .bl (before d e)]) p = some (.lst [.bl (before d e), .bl (before e d), .bl (before d e)]) := upd_same
    have a1 := s26 _ _ (s2 _ _ e1)
    have a2 := s26 _ _ e2
    have tot := (s1.trans s2).trans s26
    generalize upd H5 p (.lst [.bl (before d e), .bl (before e d), .bl (before d e)]) = H6 at e6 a1 a2 tot
    have lst3 : ∀ {H' : Hp} {x : Addr}, H' x = some (.lst [.bl (before d e), .bl (before e d), .bl (before d e)]) → Dat H' (.list [.bool (before d e), .bool (before e d), .bool (before d e)]) (.ref x) := fun {H' x} z => by
      simp only [Dat, DatAll]
      exact ⟨x, _, rfl, z, _, _, rfl, rfl, _, _, rfl, rfl, _, _, rfl, rfl, rfl⟩
    have rp := rp_bools3 (before d e) (before e d) (before d e)
    have de := rank_alike vd ve
    have ed := rank_alike ve vd
    refine ⟨_, rfl, _, _, rfl, lst3 e6, rp.sh, rp.dp, rp.ln, ?_⟩
    refine ⟨_, rfl, _, rfl, _, _, rank_dat vd a1, rank_dat ve a2, de.1, de.2.1, de.2.2, ?_⟩
    refine ⟨_, rfl, _, rfl, _, _, rank_dat ve a2, rank_dat vd a1, ed.1, ed.2.1, ed.2.2, ?_⟩
    refine ⟨_, rfl, _, rfl, _, _, rank_dat vd a1, rank_dat ve a2, de.1, de.2.1, de.2.2, ?_⟩
    rw [rank_lt vd ve, rank_lt ve vd]
    refine ⟨by show 3 ≤ sizeLine; decide, fun p2 hp2 => ?_⟩
    refine ⟨_, _, rfl, lst3 upd_same, rp.sh, rp.dp, rp.ln, rfl, ?_⟩
    have last := q _ (tot.trans (same_new hp2 (.lst [.bl (before d e), .bl (before e d), .bl (before d e)])))
    rw [decide_eq_true rfl]
    exact last
end
end K02
end

/-! K02i -/
section
open PySem PySem.Spec PyProof.Rows L2 FA
namespace K02
section
variable {P : Program} {w : World} {K : PySem.W.Frag} {mg : Str → Option Value} {base : Heap} {f : Addr} {fd : FuncData}
def spFixed : Sp := fun vs H Q _ => vs = [] ∧ ∀ (a : Addr) (xs : List V) (ds : List PyData) (H' : Hp), H' a = some (.lst xs) → xs.length ≤ 100 → DatAll H' ds xs → (∀ d ∈ ds, Okd 60 270000 d) →
  H a = none → Same H H' → Q (.ref a) H'
theorem e12 : (10 : Int) ^ Int.toNat 12 = 1000000000000 := by decide
theorem e39 : (10 : Int) ^ Int.toNat 39 = 10 ^ 39 := by decide
def ds1 : List PyData := [.none, .int 0, .int 1, .int (-1), .int (10 ^ Int.toNat 12), .int (-(10 ^ Int.toNat 12)), .int (10 ^ Int.toNat 12 + 1), .int (-(10 ^ Int.toNat 12) - 1), .bool true, .bool false,
  .str "", .str "a", .str "z", .str "abcdefgh"]
def ds2 : List PyData := [.str "abcdefghi", .str "A", .str "aB", .str "a b", .str " a", .str "a ", .str "a\n", .str "0", .str "1", .str "none", .str "nothing", .str "-1", .str "a-b", .str "`", .str "{"]
def ds3 : List PyData := [.tuple [], .tuple [.str "a"], .tuple [.none], .list [], .list [.str "a"], .dict [], .dict [(.str "a", .int 1)], .list [.int 0], .tuple [.int 0],
  .str (Txt.mul "a" 2000), .int (10 ^ Int.toNat 39), .int (-(10 ^ Int.toNat 39))]
def xs1 : List V := [.non, .int 0, .int 1, .int (-1), .int (10 ^ Int.toNat 12), .int (-(10 ^ Int.toNat 12)), .int (10 ^ Int.toNat 12 + 1), .int (-(10 ^ Int.toNat 12) - 1), .bl true, .bl false,
  .str "", .str "a", .str "z", .str "abcdefgh"]
def xs2 : List V := [.str "abcdefghi", .str "A", .str "aB", .str "a b", .str " a", .str "a ", .str "a\n", .str "0", .str "1", .str "none", .str "nothing", .str "-1", .str "a-b", .str "`", .str "{"]
theorem ok_small {i : Int} (h : i.natAbs < 10 ^ 40) : Okd 60 270000 (.int i) := okd_int h (by decide)
theorem ok_text {z : Str} (h : z.cps.toList.all (fun c => decide (c < 128)) = true) (hl : z.length ≤ 270000) : Okd 60 270000 (.str z) := okd_str (low_of h) hl
theorem ok_ds1 : ∀ d ∈ ds1, Okd 60 270000 d := by
  intro d hd
  simp only [ds1, List.mem_cons, List.not_mem_nil, or_false] at hd
  rcases hd with rfl | rfl | rfl | rfl | rfl | rfl | rfl | rfl | rfl | rfl | rfl | rfl | rfl | rfl
  · exact okd_non
  · exact ok_small (by decide)
  · exact ok_small (by decide)
  · exact ok_small (by decide)
  · exact ok_small (by decide)
  · exact ok_small (by decide)
  · exact ok_small (by decide)
  · exact ok_small (by decide)
  · exact okd_bool
  · exact okd_bool
  · exact ok_text (by decide) (by decide)
  · exact ok_text (by decide) (by decide)
  · exact ok_text (by decide) (by decide)
  · exact ok_text (by decide) (by decide)
theorem ok_ds2 : ∀ d ∈ ds2, Okd 60 270000 d := by
  intro d hd
  simp only [ds2, List.mem_cons, List.not_mem_nil, or_false] at hd
  rcases hd with rfl | rfl | rfl | rfl | rfl | rfl | rfl | rfl | rfl | rfl | rfl | rfl | rfl | rfl | rfl <;> exact ok_text (by decide) (by decide)
theorem ok_ds3 : ∀ d ∈ ds3, Okd 60 270000 d := by
  intro d hd
  simp only [ds3, List.mem_cons, List.not_mem_nil, or_false] at hd
  have up1 : ∀ {x : PyData}, Okd 1 300 x → Okd 60 270000 x := fun h => h.mono (by decide) (by decide)
  have sa : Okd 0 1 (.str "a") := okd_str (low_of (by decide)) (by decide)
  have i0 : Okd 0 140 (.int 0) := okd_int (by decide) (by decide)
  have i1 : Okd 0 140 (.int 1) := okd_int (by decide) (by decide)
  rcases hd with rfl | rfl | rfl | rfl | rfl | rfl | rfl | rfl | rfl | rfl | rfl | rfl
  · exact up1 (okd_tuple oks_nil)
  · exact up1 (okd_tuple ((oks_cons sa (oks_nil (W := 0))).mono (Nat.le_refl _) (by decide)))
  · exact up1 (okd_tuple ((oks_cons (W := 0) okd_non (oks_nil (W := 0))).mono (Nat.le_refl _) (by decide)))
  · exact up1 (okd_list oks_nil)
  · exact up1 (okd_list ((oks_cons sa (oks_nil (W := 0))).mono (Nat.le_refl _) (by decide)))
  · exact up1 okd_dict0
  · exact up1 ((okd_dict1 sa i1).mono (Nat.le_refl _) (by decide))
  · exact up1 (okd_list ((oks_cons i0 (oks_nil (W := 0))).mono (Nat.le_refl _) (by decide)))
  · exact up1 (okd_tuple ((oks_cons i0 (oks_nil (W := 0))).mono (Nat.le_refl _) (by decide)))
  · have e := len_mul_k (x := "a") (n := 2000) 1 (by decide)
    rw [if_neg (by decide)] at e
    exact okd_str (low_mul (low_of (by decide)) _) (by omega)
  · exact ok_small (by decide)
  · exact ok_small (by decide)
theorem datAll_app {H : Hp} : ∀ {ds es : List PyData} {xs ys : List V}, DatAll H ds xs → DatAll H es ys → DatAll H (ds ++ es) (xs ++ ys)
  | [], es, xs, ys, h, q => by
    simp only [DatAll] at h
    subst h
    exact q
  | d :: ds, es, xs, ys, h, q => by
    simp only [DatAll] at h
    obtain ⟨z, zs, rfl, h1, h2⟩ := h
    simp only [List.cons_append, DatAll]
    exact ⟨z, zs ++ ys, rfl, h1, datAll_app h2 q⟩
theorem datAll_get {H : Hp} : ∀ {ds : List PyData} {xs : List V} {i : Nat} {v : V}, DatAll H ds xs → xs[i]? = some v → ∃ d ∈ ds, Dat H d v
  | [], xs, i, v, h, e => by
    simp only [DatAll] at h
    subst h
    simp at e
  | d :: ds, xs, 0, v, h, e => by
    simp only [DatAll] at h
    obtain ⟨z, zs, rfl, h1, h2⟩ := h
    have : z = v := by simpa using e
    subst this
    exact ⟨d, List.mem_cons_self, h1⟩
  | d :: ds, xs, i + 1, v, h, e => by
    simp only [DatAll] at h
    obtain ⟨z, zs, rfl, h1, h2⟩ := h
    obtain ⟨d', m, h'⟩ := datAll_get (i := i) h2 (by simpa using e)
    exact ⟨d', List.mem_cons_of_mem _ m, h'⟩
section
variable {H : Hp}
theorem dnil : DatAll H [] [] := by simp only [DatAll]
theorem dcons {d : PyData} {y : V} {ds : List PyData} {ys : List V} (h : Dat H d y) (r : DatAll H ds ys) : DatAll H (d :: ds) (y :: ys) := by
  simp only [DatAll]
  exact ⟨y, ys, rfl, h, r⟩
theorem dknil : DatKv H [] [] := by simp only [DatKv]
theorem dkcons {k d : PyData} {c : Key} {y : V} {ds : List (PyData × PyData)} {ys : List (Key × V)} (e : k = keyD c) (h : Dat H d y) (r : DatKv H ds ys) : DatKv H ((k, d) :: ds) ((c, y) :: ys) := by
  simp only [DatKv]
  exact ⟨c, y, ys, rfl, e, h, r⟩
theorem dlst {a : Addr} {ds : List PyData} {ys : List V} (e : H a = some (.lst ys)) (h : DatAll H ds ys) : Dat H (.list ds) (.ref a) := by
  simp only [Dat]
  exact ⟨a, ys, rfl, e, h⟩
theorem dtup {a : Addr} {ds : List PyData} {ys : List V} (e : H a = some (.tup ys)) (h : DatAll H ds ys) : Dat H (.tuple ds) (.ref a) := by
  simp only [Dat]
  exact ⟨a, ys, rfl, e, h⟩
theorem ddic {a : Addr} {ds : List (PyData × PyData)} {ys : List (Key × V)} (e : H a = some (.dK ys)) (h : DatKv H ds ys) : Dat H (.dict ds) (.ref a) := by
  simp only [Dat]
  exact ⟨a, ys, rfl, e, h⟩
theorem ds_ {z : Str} : Dat H (.str z) (.str z) := by simp only [Dat]
theorem di_ {i : Int} : Dat H (.int i) (.int i) := by simp only [Dat]
theorem db_ {b : Bool} : Dat H (.bool b) (.bl b) := by simp only [Dat]
theorem dn_ : Dat H .none .non := by simp only [Dat]
theorem flat14 : DatAll H ds1 xs1 := dcons dn_ (dcons di_ (dcons di_ (dcons di_ (dcons di_ (dcons di_ (dcons di_ (dcons di_ (dcons db_ (dcons db_ (dcons ds_ (dcons ds_ (dcons ds_ (dcons ds_ dnil)))))))))))))
theorem flat15 : DatAll H ds2 xs2 := dcons ds_ (dcons ds_ (dcons ds_ (dcons ds_ (dcons ds_ (dcons ds_ (dcons ds_ (dcons ds_ (dcons ds_ (dcons ds_ (dcons ds_ (dcons ds_ (dcons ds_ (dcons ds_ (dcons ds_ dnil))))))))))))))
end
theorem sc__law_fixed : FnScope ["_law_some"] [] (defScope (top 20)) := ⟨rfl, rfl, rfl, by decide +kernel, rfl, by decide +kernel, by decide +kernel⟩
theorem ok__law_fixed (F : FnP K "_law_fixed" 20 f fd) (hS : ∃ o, base.get? sysModules = some o) (B : Blt mg) :
    FnG P w K mg base CX0 1 f fd [] spFixed := by
  refine okD F sc__law_fixed hS (fun vs H Q E h => ?_) (fun cdv A outer s H vs Q E R h => ?_)
  · obtain ⟨rfl, _⟩ := h
    rfl
  obtain ⟨rfl, q⟩ := h
  obtain ⟨m_isinstance, m_len, m_all, m_abs, m_repr, m_str, m_int, m_bool, m_list, m_tuple, m_range⟩ := B
  have nd := sc__law_fixed.nd
  refine ⟨_, (pss_cons (ps_set (i := 0) nd rfl (Or.inl rfl) (pe_lst (pa_cons pe_non (pa_cons pe_int (pa_cons pe_int (pa_cons (pe_un un_neg pe_int) (pa_cons (pe_op op_pow pe_int pe_int) (pa_cons (pe_un un_neg (pe_op op_pow pe_int pe_int)) (pa_cons (pe_op opAdd (pe_op op_pow pe_int pe_int) pe_int) (pa_cons (pe_op op_sub (pe_un un_neg (pe_op op_pow pe_int pe_int)) pe_int) (pa_cons pe_bl (pa_cons pe_bl (pa_cons pe_str (pa_cons pe_str (pa_cons pe_str (pa_cons pe_str pa_nil)))))))))))))))) (pss_cons (ps_set (i := 0) nd rfl (Or.inl rfl) (pe_op opAdd (pv 0) (pe_lst (pa_cons pe_str (pa_cons pe_str (pa_cons pe_str (pa_cons pe_str (pa_cons pe_str (pa_cons pe_str (pa_cons pe_str (pa_cons pe_str (pa_cons pe_str (pa_cons pe_str (pa_cons pe_str (pa_cons pe_str (pa_cons pe_str (pa_cons pe_str (pa_cons pe_str pa_nil)))))))))))))))))) (pss_one (ps_ret (pe_op opAdd (pv 0) (pe_lst (pa_cons (pe_tup pa_nil) (pa_cons (pe_tup (pa_cons pe_str pa_nil)) (pa_cons (pe_tup (pa_cons pe_non pa_nil)) (pa_cons (pe_lst pa_nil) (pa_cons (pe_lst (pa_cons pe_str pa_nil)) (pa_cons pe_dnewK (pa_cons (pe_disp (pps_cons pe_str pe_int pps_nil) rfl rfl (by decide) (by decide)) (pa_cons (pe_lst (pa_cons pe_int pa_nil)) (pa_cons (pe_tup (pa_cons pe_int pa_nil)) (pa_cons (pe_op opMul pe_str pe_int) (pa_cons (pe_op op_pow pe_int pe_int) (pa_cons (pe_un un_neg (pe_op op_pow pe_int pe_int)) pa_nil)))))))))))))))))), ?r⟩
  case r =>
    have cp12 : CPow 10 12 := ⟨by decide, by decide, by decide⟩
    have cp39 : CPow 10 39 := ⟨by decide, by decide, by decide⟩
    refine ⟨_, rfl, _, _, rfl, rfl, cp12, _, _, rfl, rfl, cp12, _, rfl, _, _, rfl, rfl, cp12, .inl (.inl ⟨_, _, rfl, rfl, ?_⟩)⟩
    refine ⟨_, _, rfl, rfl, cp12, _, rfl, _, _, rfl, rfl, by show 14 ≤ sizeLine; decide, fun p1 hp1 => ?_⟩
    have rest2 : ∀ (p : Addr) (H1 : Hp), H1 p = some (.lst (xs1 ++ xs2)) → Same H H1 → (tRet (tOp rAddA (tVar 0) (tLst (tCons (tTup tNil) (tCons (tTup (tCons (tC (V.str "a")) tNil)) (tCons (tTup (tCons (tC V.non) tNil)) (tCons (tLst tNil) (tCons (tLst (tCons (tC (V.str "a")) tNil)) (tCons tDNewK (tCons (tDisp [((tC (V.str "a")), (tC (V.int 1)))]) (tCons (tLst (tCons (tC (V.int 0)) tNil)) (tCons (tTup (tCons (tC (V.int 0)) tNil)) (tCons (tOp rMulA (tC (V.str "a")) (tC (V.int 2000))) (tCons (tOp rPowA (tC (V.int 10)) (tC (V.int 39))) (tCons (tUn (rU fun i => V.int (-i)) (tOp rPowA (tC (V.int 10)) (tC (V.int 39)))) tNil))))))))))))))) { nx := fun _ H' => Q .non H', rt := Q } [some (.ref p)] H1 := by
      intro p H1 e1 s1
      have n0 : 0 ≤ sizeLine := Nat.zero_le _
      have n1 : 1 ≤ sizeLine := by decide
      refine ⟨_, rfl, ?_⟩
      refine ⟨n0, fun q1 hq1 => ?_⟩
      have t1 : Same H1 (upd H1 q1 (.tup [])) := same_new hq1 _
      have f1 : upd H1 q1 (.tup []) q1 = some (.tup []) := upd_same
      generalize upd H1 q1 (.tup []) = G1 at t1 f1
      refine ⟨n1, fun q2 hq2 => ?_⟩
      have t2 : Same G1 (upd G1 q2 (.tup [.str "a"])) := same_new hq2 _
      have f2 : upd G1 q2 (.tup [.str "a"]) q2 = some (.tup [.str "a"]) := upd_same
      generalize upd G1 q2 (.tup [.str "a"]) = G2 at t2 f2
      refine ⟨n1, fun q3 hq3 => ?_⟩
      have t3 : Same G2 (upd G2 q3 (.tup [.non])) := same_new hq3 _
      have f3 : upd G2 q3 (.tup [.non]) q3 = some (.tup [.non]) := upd_same
      generalize upd G2 q3 (.tup [.non]) = G3 at t3 f3
      refine ⟨n0, fun q4 hq4 => ?_⟩
      have t4 : Same G3 (upd G3 q4 (.lst [])) := same_new hq4 _
      have f4 : upd G3 q4 (.lst []) q4 = some (.lst []) := upd_same
      generalize upd G3 q4 (.lst []) = G4 at t4 f4
      refine ⟨n1, fun q5 hq5 => ?_⟩
      have t5 : Same G4 (upd G4 q5 (.lst [.str "a"])) := same_new hq5 _
      have f5 : upd G4 q5 (.lst [.str "a"]) q5 = some (.lst [.str "a"]) := upd_same
      generalize upd G4 q5 (.lst [.str "a"]) = G5 at t5 f5
      intro q6 hq6
      have t6 : Same G5 (upd G5 q6 (.dK [])) := same_new hq6 _
      have f6 : upd G5 q6 (.dK []) q6 = some (.dK []) := upd_same
      generalize upd G5 q6 (.dK []) = G6 at t6 f6
      intro q7 hq7
      refine ⟨upd_same, [(Sum.inr "a", .int 1)], rfl, by show 1 ≤ 15; decide, ?_⟩
      rw [upd_upd]
      have t7 : Same G6 (upd G6 q7 (.dK (mergeK [] [(Sum.inr "a", V.int 1)]))) := same_new hq7 _
      have f7 : upd G6 q7 (.dK (mergeK [] [(Sum.inr "a", V.int 1)])) q7 = some (.dK [(Sum.inr "a", V.int 1)]) := upd_same
      generalize upd G6 q7 (.dK (mergeK [] [(Sum.inr "a", V.int 1)])) = G7 at t7 f7
      refine ⟨n1, fun q8 hq8 => ?_⟩
      have t8 : Same G7 (upd G7 q8 (.lst [.int 0])) := same_new hq8 _
      have f8 : upd G7 q8 (.lst [.int 0]) q8 = some (.lst [.int 0]) := upd_same
      generalize upd G7 q8 (.lst [.int 0]) = G8 at t8 f8
      refine ⟨n1, fun q9 hq9 => ?_⟩
      have t9 : Same G8 (upd G8 q9 (.tup [.int 0])) := same_new hq9 _
      have f9 : upd G8 q9 (.tup [.int 0]) q9 = some (.tup [.int 0]) := upd_same
      generalize upd G8 q9 (.tup [.int 0]) = G9 at t9 f9
      refine .inr ⟨_, _, rfl, rfl, mul_ok (by decide) (by decide) (by decide), ?_⟩
      refine ⟨_, _, rfl, rfl, cp39, _, _, rfl, rfl, cp39, _, rfl, by show 12 ≤ sizeLine; decide, fun q10 h10 => .inr ⟨p, q10, xs1 ++ xs2, _, rfl, rfl, ?_, upd_same, by show 29 + 12 ≤ sizeLine; decide, fun q11 h11 => ?_⟩⟩
      · exact (((((((((t1.trans t2).trans t3).trans t4).trans t5).trans t6).trans t7).trans t8).trans t9).trans (same_new h10 _)) _ _ e1
      have w10 : Same G9 (upd G9 q10 (.lst [.ref q1, .ref q2, .ref q3, .ref q4, .ref q5, .ref q6, .ref q7, .ref q8, .ref q9, .str (Txt.mul "a" 2000), .int (10 ^ Int.toNat 39), .int (-(10 ^ Int.toNat 39))])) := same_new h10 _
      have w11 : Same G9 (upd (upd G9 q10 (.lst [.ref q1, .ref q2, .ref q3, .ref q4, .ref q5, .ref q6, .ref q7, .ref q8, .ref q9, .str (Txt.mul "a" 2000), .int (10 ^ Int.toNat 39), .int (-(10 ^ Int.toNat 39))])) q11 (.lst (xs1 ++ xs2 ++ [.ref q1, .ref q2, .ref q3, .ref q4, .ref q5, .ref q6, .ref q7, .ref q8, .ref q9, .str (Txt.mul "a" 2000), .int (10 ^ Int.toNat 39), .int (-(10 ^ Int.toNat 39))]))) := w10.trans (same_new h11 _)
      have tot : Same H1 G9 := ((((((((t1.trans t2).trans t3).trans t4).trans t5).trans t6).trans t7).trans t8).trans t9)
      have na : H q11 = none := (s1.trans (tot.trans w10)).free h11
      refine q q11 _ (ds1 ++ ds2 ++ ds3) _ upd_same (by show 41 ≤ 100; decide) ?_ ?_ na (s1.trans (tot.trans w11))
      · refine datAll_app (datAll_app ?_ ?_) ?_
        · unfold ds1 xs1
          exact flat14
        · unfold ds2 xs2
          exact flat15
        · unfold ds3
          have g1 := ((((((((t2.trans t3).trans t4).trans t5).trans t6).trans t7).trans t8).trans t9).trans w11) _ _ f1
          have g2 := (((((((t3.trans t4).trans t5).trans t6).trans t7).trans t8).trans t9).trans w11) _ _ f2
          have g3 := ((((((t4.trans t5).trans t6).trans t7).trans t8).trans t9).trans w11) _ _ f3
          have g4 := (((((t5.trans t6).trans t7).trans t8).trans t9).trans w11) _ _ f4
          have g5 := ((((t6.trans t7).trans t8).trans t9).trans w11) _ _ f5
          have g6 := (((t7.trans t8).trans t9).trans w11) _ _ f6
          have g7 := ((t8.trans t9).trans w11) _ _ f7
          have g8 := (t9.trans w11) _ _ f8
          have g9 := ((Same.refl _).trans w11) _ _ f9
          exact dcons (dtup g1 dnil) (dcons (dtup g2 (dcons ds_ dnil)) (dcons (dtup g3 (dcons dn_ dnil)) (dcons (dlst g4 dnil) (dcons (dlst g5 (dcons ds_ dnil)) (dcons (ddic g6 dknil)
            (dcons (ddic g7 (dkcons (by rfl) di_ dknil)) (dcons (dlst g8 (dcons di_ dnil)) (dcons (dtup g9 (dcons di_ dnil)) (dcons ds_ (dcons di_ (dcons di_ dnil)))))))))))
      · intro d hd
        rcases List.mem_append.mp hd with hd | hd
        · rcases List.mem_append.mp hd with hd | hd
          · exact ok_ds1 d hd
          · exact ok_ds2 d hd
        · exact ok_ds3 d hd
    have rest1 : ∀ (p : Addr) (H1 : Hp), H1 p = some (.lst xs1) → Same H H1 → (tSeq (tAsg (tOp rAddA (tVar 0) (tLst (tCons (tC (V.str "abcdefghi")) (tCons (tC (V.str "A")) (tCons (tC (V.str "aB")) (tCons (tC (V.str "a b")) (tCons (tC (V.str " a")) (tCons (tC (V.str "a ")) (tCons (tC (V.str "a\n")) (tCons (tC (V.str "0")) (tCons (tC (V.str "1")) (tCons (tC (V.str "none")) (tCons (tC (V.str "nothing")) (tCons (tC (V.str "-1")) (tCons (tC (V.str "a-b")) (tCons (tC (V.str "`")) (tCons (tC (V.str "{")) tNil))))))))))))))))) (gName 0)) (tRet (tOp rAddA (tVar 0) (tLst (tCons (tTup tNil) (tCons (tTup (tCons (tC (V.str "a")) tNil)) (tCons (tTup (tCons (tC V.non) tNil)) (tCons (tLst tNil) (tCons (tLst (tCons (tC (V.str "a")) tNil)) (tCons tDNewK (tCons (tDisp [((tC (V.str "a")), (tC (V.int 1)))]) (tCons (tLst (tCons (tC (V.int 0)) tNil)) (tCons (tTup (tCons (tC (V.int 0)) tNil)) (tCons (tOp rMulA (tC (V.str "a")) (tC (V.int 2000))) (tCons (tOp rPowA (tC (V.int 10)) (tC (V.int 39))) (tCons (tUn (rU fun i => V.int (-i)) (tOp rPowA (tC (V.int 10)) (tC (V.int 39)))) tNil)))))))))))))))) { nx := fun _ H' => Q .non H', rt := Q } [some (.ref p)] H1 := by
      intro p H1 e1 s1
      refine ⟨_, rfl, by show 15 ≤ sizeLine; decide, fun p2 hp2 => .inr ⟨p, p2, xs1, xs2, rfl, rfl, ?_, upd_same, by show 14 + 15 ≤ sizeLine; decide, fun p3 hp3 => ?_⟩⟩
      · rw [upd_ne (ne_of_none e1 hp2)]
        exact e1
      · exact rest2 p3 _ upd_same ((s1.trans (same_new hp2 _)).trans (same_new hp3 _))
    exact rest1 p1 _ upd_same (same_new hp1 _)
end
end K02
end

/-! K02j -/
section
open PySem PySem.Spec PyProof.Rows L2 FA
namespace K02
section
variable {P : Program} {w : World} {K : PySem.W.Frag} {mg : Str → Option Value} {base : Heap} {f : Addr} {fd : FuncData}
theorem free_dat {H : Hp} {d : PyData} {v : V} (h : Dat H d v) (hv : isV d = true) : ∀ H0, Dat H0 d v := fun H0 => by
  cases d with
  | none => simp only [Dat] at h ⊢; exact h
  | int i => simp only [Dat] at h ⊢; exact h
  | str z => simp only [Dat] at h ⊢; exact h
  | _ => cases hv
def spLaw (K : PySem.W.Frag) : Sp := fun vs H Q _ => ∃ (a : Addr) (ns : List Int), vs = [.ref a] ∧ SqL K H a (ns.map V.int) ∧ ns.length ≤ 63 ∧ ∀ H', Q (.bl true) H'
theorem rp_int : Rp (.int (10 ^ 12)) := Okd.rp (D := 60) (W := 270000) (okd_int (by decide) (by decide)) (Nat.le_refl _) (Nat.le_refl _)
theorem shown_R : (PyData.int (10 ^ 12)).shown = "1000000000000" := by decide
theorem sc_law : FnScope ["_law_script", "_law_deck_here", "_law_turn", "_law_some", "_law_first", "_law_second", "_law_it", "_law_k"] ["_law_script"] (defScope (top 21)) := ⟨rfl, rfl, rfl, by decide +kernel, rfl, by decide +kernel, by decide +kernel⟩
theorem ok_law {tR : Tok} (F : FnP K "law" 21 f fd) (hS : ∃ o, base.get? sysModules = some o) (B : Blt mg) (m_RANGE : mg "RANGE" = some (.int (10 ^ 12) tR))
    (c__law_deck : Cal P w K mg base 1 "_law_deck" ["_law_script"] (spDeck K))
    (c__law_fixed : Cal P w K mg base 1 "_law_fixed" [] spFixed)
    (c__law_thing_right : Cal P w K mg base 3 "_law_thing_right" ["_law_it"] spRight)
    (c__law_thing : Cal P w K mg base 8 "_law_thing" ["_law_deck_here", "_law_deep"] (spThing 3))
    (c__law_is_value : Cal P w K mg base 2 "_law_is_value" ["_law_it"] (spPureL fun d => .bl (isVal d)))
    (c__law_value : Cal P w K mg base 4 "_law_value" ["_law_deck_here"] spValue)
    (c__law_pair_right : Cal P w K mg base 4 "_law_pair_right" ["_law_first", "_law_second"] spPair) :
    FnG P w K mg base CX0 9 f fd ["_law_script"] (spLaw K) := by
  refine okD F sc_law hS (fun vs H Q E h => ?_) (fun cdv A outer s H vs Q E R h => ?_)
  · obtain ⟨a, ns, rfl, _⟩ := h
    rfl
  obtain ⟨a, ns, rfl, hS, hl, q⟩ := h
  obtain ⟨m_isinstance, m_len, m_all, m_abs, m_repr, m_str, m_int, m_bool, m_list, m_tuple, m_range⟩ := B
  have nd := sc_law.nd
  refine ⟨_, (pss_cons (ps_set (i := 1) nd rfl (Or.inr rfl) (cc c__law_deck R (pa_cons (pv 0) pa_nil))) (pss_cons (ps_if (PW.pt (pw_or (pt_cmpR op_ne (crepr R m_repr (pa_cons (pe_glob (v := .int _) rfl m_RANGE ⟨_, rfl⟩) pa_nil)) pe_str (nomark _)) (pw_or1 (pt_cmpR (op_neD R.room.units) (pe_lc1 6 rfl nd (pi_list (cc0 c__law_fixed R)) (by kernel_rfl) (fun _ _ _ _ _ => pg_name (i := 6) nd rfl (Or.inl rfl)) (fun _ _ _ _ _ => (pts_one (pt_not (pt_val (cc c__law_thing_right (R.blk _ _ _ _ _) (pa_cons (pv 6) pa_nil)))))) (fun _ _ _ _ _ => (pv 6))) (pe_lst pa_nil) (nomark _))))) (pss_one (ps_ret pe_bl)) pss_nil) (pss_cons (ps_for PassesOwn.never rfl (pi_range1 rfl m_range (pa_cons pe_int pa_nil)) (pg_name (i := 2) nd rfl (Or.inl rfl)) (pss_one (ps_if (pt_not (pt_val (cc c__law_thing_right R (pa_cons (cc c__law_thing R (pa_cons (pv 1) (pa_cons pe_int pa_nil))) pa_nil)))) (pss_one (ps_ret pe_bl)) pss_nil))) (pss_cons (ps_set (i := 3) nd rfl (Or.inl rfl) (pe_op opAdd (pe_lc1 6 rfl nd (pi_list (cc0 c__law_fixed R)) (by kernel_rfl) (fun _ _ _ _ _ => pg_name (i := 6) nd rfl (Or.inl rfl)) (fun _ _ _ _ _ => (pts_one (pt_val (cc c__law_is_value (R.blk _ _ _ _ _) (pa_cons (pv 6) pa_nil))))) (fun _ _ _ _ _ => (pv 6))) (pe_lc1 7 rfl nd (pi_range1 rfl m_range (pa_cons pe_int pa_nil)) (by kernel_rfl) (fun _ _ _ _ _ => pg_name (i := 7) nd rfl (Or.inl rfl)) (fun _ _ _ _ _ => pts_nil) (fun _ _ _ _ _ => (cc c__law_value (R.blk _ _ _ _ _) (pa_cons (pv 1) pa_nil)))))) (pss_cons (ps_for PassesOwn.never rfl (pi_list (pv 3)) (pg_name (i := 4) nd rfl (Or.inl rfl)) (pss_one (ps_for PassesOwn.never rfl (pi_list (pv 3)) (pg_name (i := 5) nd rfl (Or.inl rfl)) (pss_one (ps_if (pt_not (pt_val (cc c__law_pair_right R (pa_cons (pv 4) (pa_cons (pv 5) pa_nil))))) (pss_one (ps_ret pe_bl)) pss_nil))))) (pss_one (ps_ret pe_bl))))))), ?r⟩
  case r =>
    refine ⟨_, rfl, a, ns, rfl, hS, hl, fun d c H1 hd hc D1 s1 => ?_⟩
    -- RANGE, what is fixed
    refine ⟨_, .int (10 ^ 12), rfl, by simp only [Dat], rp_int.sh, rp_int.dp, rp_int.ln, rfl, _, rfl, ite2 (fun c => absurd (c.symm.trans (strEq shown_R)) (by decide)) (fun _ => ?_)⟩
    refine ⟨rfl, fun a2 xs ds H2 e2 l2 dat2 ok2 n2 s2 => ⟨a2, rfl, ⟨xs, SqL.of e2⟩, fun L hL => ?_⟩⟩
    have D2 := D1.same s2
    refine lc_list (K := K) (a := a2) (xs := xs) (fun i H' => Same H2 H' ∧ H' L = some (.lst [])) ⟨same_new hL _, upd_same⟩ (fun i H' _ ⟨z, _⟩ => SqL.of (z _ _ e2)) ?_ ?_
    · rintro i x H3 hx ⟨s3, e3⟩
      obtain ⟨y, hy, dy⟩ := datAll_get dat2 hx
      refine ⟨rfl, _, rfl, x, y, rfl, dat_same s3 _ _ dy, ok2 y hy, fun H4 s4 => ⟨_, rfl, s3.trans s4, s4 _ _ e3⟩⟩
    rintro H3 ⟨s3, e3⟩
    refine ⟨Nat.zero_le _, fun p hp => ?_⟩
    have pL : L ≠ p := ne_of_none e3 hp
    refine ⟨.list [], .list [], .lst (SqL.of (by rw [upd_ne pL]; exact e3)) .nil, .lst (SqL.of upd_same) .nil, rfl, rfl, _, rfl, ite2 (fun c => absurd c (by decide)) (fun _ => ?_)⟩
    have D4 : Deck (upd H3 p (.lst [])) d c 0 := (D2.same s3).same (same_new hp _)
    -- forty things
    refine ⟨40, rfl, by decide, by decide, for_range (n := 40) (fun i σ H' => ∃ t, σ = [some (.ref a), some (.ref d), t, none, none, none, none, none] ∧ Deck H' d c (i * 600))
      ⟨none, rfl, by simpa using D4⟩ ?_ ?_⟩
    · rintro i σ H' hi ⟨t, rfl, D5⟩
      have hi6 : i * 600 ≤ 39 * 600 := Nat.mul_le_mul_right _ (by omega)
      have hi7 : (i + 1) * 600 = i * 600 + 600 := by rw [Nat.add_mul, Nat.one_mul]
      have t3 : TT 3 = 600 := rfl
      refine ⟨_, rfl, d, c, i * 600, rfl, D5, by rw [t3]; omega, fun v x H6 hx ox D6 s6 => ?_⟩
      refine ⟨v, x, rfl, dat_same frs_sub _ _ hx, ox.mono (by decide) (by decide), fun H7 s7 => ⟨_, rfl, ?_⟩⟩
      exact ⟨_, rfl, by rw [hi7]; exact D6.same s7⟩
    rintro σ H5 ⟨t, rfl, D5⟩
    -- the values
    refine ⟨rfl, fun a6 xs6 ds6 H6 e6 l6 dat6 ok6 n6 s6 => ⟨a6, rfl, ⟨xs6, SqL.of e6⟩, fun L6 hL6 => ?_⟩⟩
    have D6 := D5.same s6
    refine lc_list (K := K) (a := a6) (xs := xs6) (fun i H' => ∃ ys, H' L6 = some (.lst ys) ∧ ys.length ≤ i ∧ (∀ y ∈ ys, Vd y) ∧ Same H6 H')
      ⟨[], upd_same, Nat.le_refl _, fun _ h => (nomatch h), same_new hL6 _⟩ (fun i H' _ ⟨_, _, _, _, z⟩ => SqL.of (z _ _ e6)) ?_ ?_
    · rintro i x H7 hx ⟨ys, e7, l7, v7, s7⟩
      obtain ⟨y, hy, dy⟩ := datAll_get dat6 hx
      have oy := ok6 y hy
      have zy : ∀ z, y = .str z → z.length ≤ sizeLine ∧ Low z := fun z e => by
        refine ⟨?_, oy.low z e⟩
        subst e
        have := oy.strLen
        rw [sizeLine_eq]
        omega
      refine ⟨rfl, _, rfl, x, y, rfl, dat_same s7 _ _ dy, zy, fun H8 s8 => ⟨_, rfl, ite2 (fun c8 => ?_) (fun c8 => ?_)⟩⟩
      · have hv := isV_of c8
        have hi : i < xs6.length := (List.getElem?_eq_some_iff.mp hx).1
        refine ⟨_, rfl, ys, s8 _ _ e7, Nat.lt_of_le_of_lt l7 (Nat.lt_of_lt_of_le hi (Nat.le_trans l6 (by decide))), ys ++ [x], upd_same, by rw [List.length_append]; exact Nat.succ_le_succ l7, ?_, same_mut (s7.trans s8) hL6⟩
        intro u hu
        rcases List.mem_append.mp hu with hu | hu
        · exact v7 u hu
        · have : u = x := by simpa using hu
          subst this
          exact ⟨y, free_dat dy hv, hv, fun z e => (zy z e).1⟩
      · exact ⟨ys, s8 _ _ e7, Nat.le_succ_of_le l7, v7, s7.trans s8⟩
    rintro H7 ⟨ys, e7, l7, v7, s7⟩
    have D7 : Deck H7 d c (40 * 600) := D6.same s7
    have L6n := D6.ne hL6
    have hy7 : hid d c H7 L6 = some (.lst ys) := by rw [hid_ne L6n.1 L6n.2]; exact e7
    refine ⟨20, rfl, by decide, by decide, fun L8 hL8 => ?_⟩
    obtain ⟨L8d, L8c⟩ := D7.ne hL8
    refine lc_it walk_range (fun i H' => ∃ zs, H' L8 = some (.lst zs) ∧ zs.length = i ∧ (∀ z ∈ zs, Vd z) ∧ Deck H' d c (40 * 600 + i * 20) ∧ Same (hid d c H7) (hid d c H'))
      ⟨[], upd_same, rfl, fun _ h => (nomatch h), by simpa using D7.upd L8d L8c, hid_same (same_new hL8 _)⟩ (fun _ _ _ _ => trivial) ?_ ?_
    · rintro i x H8 H9 hi ⟨zs, e8, l8, v8, D8, s8⟩ ⟨rfl, rfl⟩
      have hi20 : i < 20 := hi
      have hi7 : (i + 1) * 20 = i * 20 + 20 := by rw [Nat.add_mul, Nat.one_mul]
      refine ⟨rfl, _, rfl, d, c, 40 * 600 + i * 20, rfl, D8, by omega, fun v y HA hy oy vy DA sA => ?_⟩
      refine ⟨zs, ?_, ?_, zs ++ [v], upd_same, by rw [List.length_append, l8]; rfl, ?_, ?_, hid_mut (s8.trans sA) hL8 L8d L8c⟩
      · rw [← hid_ne L8d L8c (H := HA)]
        exact sA _ _ (by rw [hid_ne L8d L8c]; exact e8)
      · rw [l8]
        exact Nat.lt_trans hi20 (by decide)
      · intro u hu
        rcases List.mem_append.mp hu with hu | hu
        · exact v8 u hu
        · have : u = v := by simpa using hu
          subst this
          refine ⟨y, hy, vy, fun z e => ?_⟩
          subst e
          have := oy.strLen
          rw [sizeLine_eq]
          omega
      · rw [hi7, ← Nat.add_assoc]
        exact DA.upd L8d L8c
    rintro H8 ⟨zs, e8, l8, v8, D8, s8⟩
    have e7' : H8 L6 = some (.lst ys) := hid_sub _ _ (s8 _ _ hy7)
    have l20 : zs.length = 20 := l8
    refine .inr ⟨L6, L8, ys, zs, rfl, rfl, e7', e8, ?_, fun p9 hp9 => ?_⟩
    · rw [l20]
      have : ys.length ≤ 100 := Nat.le_trans l7 l6
      rw [sizeLine_eq]
      omega
    have all : ∀ y ∈ ys ++ zs, Vd y := fun y hy => (List.mem_append.mp hy).elim (v7 y) (v8 y)
    have e9 : upd H8 p9 (.lst (ys ++ zs)) p9 = some (.lst (ys ++ zs)) := upd_same
    generalize ys ++ zs = all9 at e9 all
    generalize upd H8 p9 (.lst all9) = H9 at e9
    -- the pairs
    refine ⟨_, rfl, p9, rfl, ⟨_, SqL.of e9⟩, for_list (K := K) (a := p9) (xs := all9)
      (fun i σ H' => ∃ t t1 t2, σ = [some (.ref a), some (.ref d), t, some (.ref p9), t1, t2, none, none] ∧ H' p9 = some (.lst all9))
      ⟨_, none, none, rfl, e9⟩ (fun i σ H' _ ⟨_, _, _, _, e⟩ => SqL.of e) ?_ ?_⟩
    · rintro i x σ H' hx ⟨t, t1, t2, rfl, e10⟩
      have vx := all x (List.mem_of_getElem? hx)
      refine ⟨_, rfl, p9, rfl, ⟨_, SqL.of e10⟩, for_list (K := K) (a := p9) (xs := all9)
        (fun i σ H' => ∃ t t2, σ = [some (.ref a), some (.ref d), t, some (.ref p9), some x, t2, none, none] ∧ H' p9 = some (.lst all9))
        ⟨_, _, rfl, e10⟩ (fun i σ H' _ ⟨_, _, _, e⟩ => SqL.of e) ?_ ?_⟩
      · rintro j y σ H'' hy ⟨t', t2', rfl, e11⟩
        have vy := all y (List.mem_of_getElem? hy)
        exact ⟨_, rfl, _, rfl, x, y, rfl, vx, vy, fun H12 s12 => ⟨_, rfl, _, _, rfl, s12 _ _ e11⟩⟩
      · rintro σ H'' ⟨t', t2', rfl, e11⟩
        exact ⟨_, _, _, rfl, e11⟩
    · rintro σ H' ⟨t, t1, t2, rfl, e10⟩
      exact q _
end
end K02
end

/-! K02k -/
section
namespace K02
open PySem PySem.Spec PyProof.Rows L2 FA

def dd_is_name : He.DefD := ⟨("is_name", none), "is_name", "is_name", defArgs (top 2), defBody (top 2), defScope (top 2), [], []⟩
def dd_is_number : He.DefD := ⟨("is_number", none), "is_number", "is_number", defArgs (top 3), defBody (top 3), defScope (top 3), [], []⟩
def dd_is_value : He.DefD := ⟨("is_value", none), "is_value", "is_value", defArgs (top 4), defBody (top 4), defScope (top 4), [], []⟩
def dd_kind_of : He.DefD := ⟨("kind_of", none), "kind_of", "kind_of", defArgs (top 5), defBody (top 5), defScope (top 5), [], []⟩
def dd_rank_of : He.DefD := ⟨("rank_of", none), "rank_of", "rank_of", defArgs (top 6), defBody (top 6), defScope (top 6), [], []⟩
def dd_is_before : He.DefD := ⟨("is_before", none), "is_before", "is_before", defArgs (top 7), defBody (top 7), defScope (top 7), [], []⟩
def dd__law_deck : He.DefD := ⟨("_law_deck", none), "_law_deck", "_law_deck", defArgs (top 9), defBody (top 9), defScope (top 9), [], []⟩
def dd__law_draw : He.DefD := ⟨("_law_draw", none), "_law_draw", "_law_draw", defArgs (top 10), defBody (top 10), defScope (top 10), [], []⟩
def dd__law_pick : He.DefD := ⟨("_law_pick", none), "_law_pick", "_law_pick", defArgs (top 11), defBody (top 11), defScope (top 11), [], []⟩
def dd__law_word : He.DefD := ⟨("_law_word", none), "_law_word", "_law_word", defArgs (top 12), defBody (top 12), defScope (top 12), [], []⟩
def dd__law_value : He.DefD := ⟨("_law_value", none), "_law_value", "_law_value", defArgs (top 13), defBody (top 13), defScope (top 13), [], []⟩
def dd__law_thing : He.DefD := ⟨("_law_thing", none), "_law_thing", "_law_thing", defArgs (top 14), defBody (top 14), defScope (top 14), [], []⟩
def dd__law_is_name : He.DefD := ⟨("_law_is_name", none), "_law_is_name", "_law_is_name", defArgs (top 15), defBody (top 15), defScope (top 15), [], []⟩
def dd__law_is_value : He.DefD := ⟨("_law_is_value", none), "_law_is_value", "_law_is_value", defArgs (top 16), defBody (top 16), defScope (top 16), [], []⟩
def dd__law_rank : He.DefD := ⟨("_law_rank", none), "_law_rank", "_law_rank", defArgs (top 17), defBody (top 17), defScope (top 17), [], []⟩
def dd__law_thing_right : He.DefD := ⟨("_law_thing_right", none), "_law_thing_right", "_law_thing_right", defArgs (top 18), defBody (top 18), defScope (top 18), [], []⟩
def dd__law_pair_right : He.DefD := ⟨("_law_pair_right", none), "_law_pair_right", "_law_pair_right", defArgs (top 19), defBody (top 19), defScope (top 19), [], []⟩
def dd__law_fixed : He.DefD := ⟨("_law_fixed", none), "_law_fixed", "_law_fixed", defArgs (top 20), defBody (top 20), defScope (top 20), [], []⟩
def dd_law : He.DefD := ⟨("law", none), "law", "law", defArgs (top 21), defBody (top 21), defScope (top 21), [], []⟩
def fn : List He.DefD := [dd_is_name, dd_is_number, dd_is_value, dd_kind_of, dd_rank_of, dd_is_before, dd__law_deck, dd__law_draw, dd__law_pick, dd__law_word, dd__law_value, dd__law_thing, dd__law_is_name, dd__law_is_value, dd__law_rank, dd__law_thing_right, dd__law_pair_right, dd__law_fixed, dd_law]
def fa : List He.Fa := [.glo "is_name", .glo "is_number", .glo "is_value", .glo "kind_of", .glo "rank_of", .glo "is_before", .glo "_law_deck", .glo "_law_draw", .glo "_law_pick", .glo "_law_word", .glo "_law_value", .glo "_law_thing", .glo "_law_is_name", .glo "_law_is_value", .glo "_law_rank", .glo "_law_thing_right", .glo "_law_pair_right", .glo "_law_fixed", .glo "law", .int "RANGE" (10 ^ 12), .free "isinstance", .free "len", .free "all", .free "abs", .free "repr", .free "str", .free "int", .free "bool", .free "list", .free "tuple", .free "range"]
abbrev R : PySem.W.OpenRow := PySem.W.OpenLaw.row PySem.Challenge.rw_failsalike_k02_values_and_kinds
abbrev hk : PySem.W.Hook := hookS 4 fa fn
def ob (s : PySem.W.SharedT) : He.AlD × Bool := (He.obsDG 4 fa fn (HandSHeadRun.getT s), sysB (HandSHeadRun.getT s))
theorem ob_eq (s : PySem.W.SharedT) : ob s = hk.obs s.abs := Prod.ext (He.obsDG_eq (HandSHeadRun.getT_eq s)) (congrArg sysB (funext (HandSHeadRun.getT_eq s)))
def loose : List Str := ["RANGE", "is_name", "is_number", "is_value", "kind_of", "rank_of", "is_before", "_law_deck", "_law_draw", "_law_pick", "_law_word", "_law_value", "_law_thing", "_law_is_name", "_law_is_value", "_law_rank", "_law_thing_right", "_law_pair_right", "_law_fixed"]
theorem run (w : World) : HandSHeadRun.RunEq R (PySem.W.view R.prog [21]) hk ob 3000 loose w := by
  intro os
  kernel_rfl

theorem rel_same1 {zs : List V} {ws : List Value} (h : Vals zs ws) : Vals (same1 zs) (same1 ws) := h
theorem rel_swap1 {zs : List V} {ws : List Value} (h : Vals zs ws) : Vals (swap1 zs) (swap1 ws) := by
  induction h with
  | nil => exact .nil
  | cons r _ ih =>
    show Vals (List.reverse (_ :: _)) (List.reverse (_ :: _))
    rw [List.reverse_cons, List.reverse_cons]
    exact Vals.append ih (.cons r .nil)
theorem facts {P : Program} {w : World} {K : PySem.W.Frag} {h : Heap} {mg : Str → Option Value} {f : Addr} (X : K.In h) (G : h.Ns mainGlobals mg) (hfa : mg ("law" : Str) = some (.ref f)) (c : He.SaysD fa fn K) :
    ∃ fd : FuncData, (∀ (s : Shared) (v : Value), BindsTo s fd ⟨[v], []⟩ [("_law_script", v)]) ∧ ∀ base : Heap, K.In base → base.Ns mainGlobals mg → (∃ o, base.get? sysModules = some o) → FnG P w K mg base CX0 9 f fd ["_law_script"] (spLaw K) := by
  obtain ⟨q_is_name, F_is_name⟩ := c.def_ 0 (d := dd_is_name) rfl
  have g_is_name := He.glo_ok X G (c.fact 0 (f := .glo "is_name") rfl)
  have b_is_name : Binds K q_is_name ["thing"] [] := FunD.bindsN F_is_name fun _ _ _ _ _ _ us hl => match us, hl with | [_], _ => rfl
  obtain ⟨q_is_number, F_is_number⟩ := c.def_ 1 (d := dd_is_number) rfl
  have g_is_number := He.glo_ok X G (c.fact 1 (f := .glo "is_number") rfl)
  have b_is_number : Binds K q_is_number ["thing"] [] := FunD.bindsN F_is_number fun _ _ _ _ _ _ us hl => match us, hl with | [_], _ => rfl
  obtain ⟨q_is_value, F_is_value⟩ := c.def_ 2 (d := dd_is_value) rfl
  have g_is_value := He.glo_ok X G (c.fact 2 (f := .glo "is_value") rfl)
  have b_is_value : Binds K q_is_value ["thing"] [] := FunD.bindsN F_is_value fun _ _ _ _ _ _ us hl => match us, hl with | [_], _ => rfl
  obtain ⟨q_kind_of, F_kind_of⟩ := c.def_ 3 (d := dd_kind_of) rfl
  have g_kind_of := He.glo_ok X G (c.fact 3 (f := .glo "kind_of") rfl)
  have b_kind_of : Binds K q_kind_of ["value"] [] := FunD.bindsN F_kind_of fun _ _ _ _ _ _ us hl => match us, hl with | [_], _ => rfl
  obtain ⟨q_rank_of, F_rank_of⟩ := c.def_ 4 (d := dd_rank_of) rfl
  have g_rank_of := He.glo_ok X G (c.fact 4 (f := .glo "rank_of") rfl)
  have b_rank_of : Binds K q_rank_of ["value"] [] := FunD.bindsN F_rank_of fun _ _ _ _ _ _ us hl => match us, hl with | [_], _ => rfl
  obtain ⟨q_is_before, F_is_before⟩ := c.def_ 5 (d := dd_is_before) rfl
  have g_is_before := He.glo_ok X G (c.fact 5 (f := .glo "is_before") rfl)
  have b_is_before : Binds K q_is_before ["one", "other"] [] := FunD.bindsN F_is_before fun _ _ _ _ _ _ us hl => match us, hl with | [_, _], _ => rfl
  obtain ⟨q__law_deck, F__law_deck⟩ := c.def_ 6 (d := dd__law_deck) rfl
  have g__law_deck := He.glo_ok X G (c.fact 6 (f := .glo "_law_deck") rfl)
  have b__law_deck : Binds K q__law_deck ["_law_script"] [] := FunD.bindsN F__law_deck fun _ _ _ _ _ _ us hl => match us, hl with | [_], _ => rfl
  obtain ⟨q__law_draw, F__law_draw⟩ := c.def_ 7 (d := dd__law_draw) rfl
  have g__law_draw := He.glo_ok X G (c.fact 7 (f := .glo "_law_draw") rfl)
  have b__law_draw : Binds K q__law_draw ["_law_deck_here", "_law_many"] [] := FunD.bindsN F__law_draw fun _ _ _ _ _ _ us hl => match us, hl with | [_, _], _ => rfl
  obtain ⟨q__law_pick, F__law_pick⟩ := c.def_ 8 (d := dd__law_pick) rfl
  have g__law_pick := He.glo_ok X G (c.fact 8 (f := .glo "_law_pick") rfl)
  have b__law_pick : Binds K q__law_pick ["_law_deck_here", "_law_some"] [] := FunD.bindsN F__law_pick fun _ _ _ _ _ _ us hl => match us, hl with | [_, _], _ => rfl
  obtain ⟨q__law_word, F__law_word⟩ := c.def_ 9 (d := dd__law_word) rfl
  have g__law_word := He.glo_ok X G (c.fact 9 (f := .glo "_law_word") rfl)
  have b__law_word : Binds K q__law_word ["_law_deck_here"] [] := FunD.bindsN F__law_word fun _ _ _ _ _ _ us hl => match us, hl with | [_], _ => rfl
  obtain ⟨q__law_value, F__law_value⟩ := c.def_ 10 (d := dd__law_value) rfl
  have g__law_value := He.glo_ok X G (c.fact 10 (f := .glo "_law_value") rfl)
  have b__law_value : Binds K q__law_value ["_law_deck_here"] [] := FunD.bindsN F__law_value fun _ _ _ _ _ _ us hl => match us, hl with | [_], _ => rfl
  obtain ⟨q__law_thing, F__law_thing⟩ := c.def_ 11 (d := dd__law_thing) rfl
  have g__law_thing := He.glo_ok X G (c.fact 11 (f := .glo "_law_thing") rfl)
  have b__law_thing : Binds K q__law_thing ["_law_deck_here", "_law_deep"] [] := FunD.bindsN F__law_thing fun _ _ _ _ _ _ us hl => match us, hl with | [_, _], _ => rfl
  obtain ⟨q__law_is_name, F__law_is_name⟩ := c.def_ 12 (d := dd__law_is_name) rfl
  have g__law_is_name := He.glo_ok X G (c.fact 12 (f := .glo "_law_is_name") rfl)
  have b__law_is_name : Binds K q__law_is_name ["_law_it"] [] := FunD.bindsN F__law_is_name fun _ _ _ _ _ _ us hl => match us, hl with | [_], _ => rfl
  obtain ⟨q__law_is_value, F__law_is_value⟩ := c.def_ 13 (d := dd__law_is_value) rfl
  have g__law_is_value := He.glo_ok X G (c.fact 13 (f := .glo "_law_is_value") rfl)
  have b__law_is_value : Binds K q__law_is_value ["_law_it"] [] := FunD.bindsN F__law_is_value fun _ _ _ _ _ _ us hl => match us, hl with | [_], _ => rfl
  obtain ⟨q__law_rank, F__law_rank⟩ := c.def_ 14 (d := dd__law_rank) rfl
  have g__law_rank := He.glo_ok X G (c.fact 14 (f := .glo "_law_rank") rfl)
  have b__law_rank : Binds K q__law_rank ["_law_it"] [] := FunD.bindsN F__law_rank fun _ _ _ _ _ _ us hl => match us, hl with | [_], _ => rfl
  obtain ⟨q__law_thing_right, F__law_thing_right⟩ := c.def_ 15 (d := dd__law_thing_right) rfl
  have g__law_thing_right := He.glo_ok X G (c.fact 15 (f := .glo "_law_thing_right") rfl)
  have b__law_thing_right : Binds K q__law_thing_right ["_law_it"] [] := FunD.bindsN F__law_thing_right fun _ _ _ _ _ _ us hl => match us, hl with | [_], _ => rfl
  obtain ⟨q__law_pair_right, F__law_pair_right⟩ := c.def_ 16 (d := dd__law_pair_right) rfl
  have g__law_pair_right := He.glo_ok X G (c.fact 16 (f := .glo "_law_pair_right") rfl)
  have b__law_pair_right : Binds K q__law_pair_right ["_law_first", "_law_second"] [] := FunD.bindsN F__law_pair_right fun _ _ _ _ _ _ us hl => match us, hl with | [_, _], _ => rfl
  obtain ⟨q__law_fixed, F__law_fixed⟩ := c.def_ 17 (d := dd__law_fixed) rfl
  have g__law_fixed := He.glo_ok X G (c.fact 17 (f := .glo "_law_fixed") rfl)
  have b__law_fixed : Binds K q__law_fixed [] [] := FunD.bindsN F__law_fixed fun _ _ _ _ _ _ us hl => match us, hl with | [], _ => rfl
  obtain ⟨q_law, F_law⟩ := c.def_ 18 (d := dd_law) rfl
  have e := hfa.symm.trans (He.glo_ok X G (c.fact 18 (f := .glo "law") rfl))
  cases e
  obtain ⟨tR, m_RANGE⟩ := He.int_ok X G (c.fact 19 (f := .int "RANGE" (10 ^ 12)) rfl)
  have B : Blt mg := ⟨He.free_ok X G (c.fact 20 (f := .free "isinstance") rfl), He.free_ok X G (c.fact 21 (f := .free "len") rfl), He.free_ok X G (c.fact 22 (f := .free "all") rfl), He.free_ok X G (c.fact 23 (f := .free "abs") rfl), He.free_ok X G (c.fact 24 (f := .free "repr") rfl), He.free_ok X G (c.fact 25 (f := .free "str") rfl), He.free_ok X G (c.fact 26 (f := .free "int") rfl), He.free_ok X G (c.fact 27 (f := .free "bool") rfl), He.free_ok X G (c.fact 28 (f := .free "list") rfl), He.free_ok X G (c.fact 29 (f := .free "tuple") rfl), He.free_ok X G (c.fact 30 (f := .free "range") rfl)⟩
  have b := FunD.bindsA (ps := ["_law_script"]) F_law fun _ _ _ _ _ _ us hl => match us, hl with | [_], _ => rfl
  have w_is_name : KwTo K q_is_name ["thing"] ["thing"] same1 := kwTo F_is_name (fun _ _ _ _ _ _ us hl => match us, hl with | [_], _ => rfl) rel_same1
  have w_is_value : KwTo K q_is_value ["thing"] ["thing"] same1 := kwTo F_is_value (fun _ _ _ _ _ _ us hl => match us, hl with | [_], _ => rfl) rel_same1
  have w_kind_of : KwTo K q_kind_of ["value"] ["value"] same1 := kwTo F_kind_of (fun _ _ _ _ _ _ us hl => match us, hl with | [_], _ => rfl) rel_same1
  have w_is_before : KwTo K q_is_before ["one", "other"] ["other", "one"] swap1 := kwTo F_is_before (fun _ _ _ _ _ _ us hl => match us, hl with | [_, _], _ => rfl) rel_swap1
  refine ⟨_, fun s v => b s [v] rfl, fun base _ _ hS => ?_⟩
  have G_is_name := ok_is_name (P := P) (w := w) (base := base) F_is_name hS B
  have c_is_name : Cal P w K mg base _ "is_name" ["thing"] _ := ⟨⟨_, _, G_is_name, g_is_name, F_is_name.kp, b_is_name⟩⟩
  have k_is_name : CalK P w K mg base _ "is_name" ["thing"] ["thing"] same1 _ := ⟨⟨_, _, G_is_name, g_is_name, F_is_name.kp, w_is_name⟩⟩
  have G_is_number := ok_is_number (P := P) (w := w) (base := base) F_is_number hS B m_RANGE
  have c_is_number : Cal P w K mg base _ "is_number" ["thing"] _ := ⟨⟨_, _, G_is_number, g_is_number, F_is_number.kp, b_is_number⟩⟩
  have G_is_value := ok_is_value (P := P) (w := w) (base := base) F_is_value hS c_is_number c_is_name
  have c_is_value : Cal P w K mg base _ "is_value" ["thing"] _ := ⟨⟨_, _, G_is_value, g_is_value, F_is_value.kp, b_is_value⟩⟩
  have k_is_value : CalK P w K mg base _ "is_value" ["thing"] ["thing"] same1 _ := ⟨⟨_, _, G_is_value, g_is_value, F_is_value.kp, w_is_value⟩⟩
  have G_kind_of := ok_kind_of (P := P) (w := w) (base := base) F_kind_of hS B
  have c_kind_of : Cal P w K mg base _ "kind_of" ["value"] _ := ⟨⟨_, _, G_kind_of, g_kind_of, F_kind_of.kp, b_kind_of⟩⟩
  have k_kind_of : CalK P w K mg base _ "kind_of" ["value"] ["value"] same1 _ := ⟨⟨_, _, G_kind_of, g_kind_of, F_kind_of.kp, w_kind_of⟩⟩
  have G_rank_of := ok_rank_of (P := P) (w := w) (base := base) F_rank_of hS c_kind_of
  have c_rank_of : Cal P w K mg base _ "rank_of" ["value"] _ := ⟨⟨_, _, G_rank_of, g_rank_of, F_rank_of.kp, b_rank_of⟩⟩
  have G_is_before := ok_is_before (P := P) (w := w) (base := base) F_is_before hS c_rank_of
  have c_is_before : Cal P w K mg base _ "is_before" ["one", "other"] _ := ⟨⟨_, _, G_is_before, g_is_before, F_is_before.kp, b_is_before⟩⟩
  have k_is_before : CalK P w K mg base _ "is_before" ["one", "other"] ["other", "one"] swap1 _ := ⟨⟨_, _, G_is_before, g_is_before, F_is_before.kp, w_is_before⟩⟩
  have G__law_deck := ok__law_deck (P := P) (w := w) (base := base) F__law_deck hS B
  have c__law_deck : Cal P w K mg base _ "_law_deck" ["_law_script"] _ := ⟨⟨_, _, G__law_deck, g__law_deck, F__law_deck.kp, b__law_deck⟩⟩
  have G__law_draw := ok__law_draw (P := P) (w := w) (base := base) F__law_draw hS B
  have c__law_draw : Cal P w K mg base _ "_law_draw" ["_law_deck_here", "_law_many"] _ := ⟨⟨_, _, G__law_draw, g__law_draw, F__law_draw.kp, b__law_draw⟩⟩
  have G__law_pick := ok__law_pick (P := P) (w := w) (base := base) F__law_pick hS B c__law_draw
  have c__law_pick : Cal P w K mg base _ "_law_pick" ["_law_deck_here", "_law_some"] _ := ⟨⟨_, _, G__law_pick, g__law_pick, F__law_pick.kp, b__law_pick⟩⟩
  have G__law_word := ok__law_word (P := P) (w := w) (base := base) F__law_word hS B c__law_draw c__law_pick
  have c__law_word : Cal P w K mg base _ "_law_word" ["_law_deck_here"] _ := ⟨⟨_, _, G__law_word, g__law_word, F__law_word.kp, b__law_word⟩⟩
  have G__law_value := ok__law_value (P := P) (w := w) (base := base) F__law_value hS B c__law_draw c__law_pick c__law_word
  have c__law_value : Cal P w K mg base _ "_law_value" ["_law_deck_here"] _ := ⟨⟨_, _, G__law_value, g__law_value, F__law_value.kp, b__law_value⟩⟩
  have t0 : FnG P w K mg base CX0 4 (He.fAd K dd__law_thing.at_) q__law_thing ["_law_deck_here", "_law_deep"] (spThingP 0) := ⟨fun _ _ _ _ z => z.elim, fun _ _ _ _ _ _ _ _ _ _ _ _ _ _ z => z.elim⟩
  have t1 := ok__law_thing (P := P) (w := w) (base := base) 0 F__law_thing hS B c__law_draw c__law_pick c__law_word c__law_value ⟨⟨_, _, t0, g__law_thing, F__law_thing.kp, b__law_thing⟩⟩
  have t2 := ok__law_thing (P := P) (w := w) (base := base) 1 F__law_thing hS B c__law_draw c__law_pick c__law_word c__law_value ⟨⟨_, _, t1, g__law_thing, F__law_thing.kp, b__law_thing⟩⟩
  have t3 := ok__law_thing (P := P) (w := w) (base := base) 2 F__law_thing hS B c__law_draw c__law_pick c__law_word c__law_value ⟨⟨_, _, t2, g__law_thing, F__law_thing.kp, b__law_thing⟩⟩
  have t4 := ok__law_thing (P := P) (w := w) (base := base) 3 F__law_thing hS B c__law_draw c__law_pick c__law_word c__law_value ⟨⟨_, _, t3, g__law_thing, F__law_thing.kp, b__law_thing⟩⟩
  have c__law_thing : Cal P w K mg base 8 "_law_thing" ["_law_deck_here", "_law_deep"] (spThing 3) := ⟨⟨_, _, t4, g__law_thing, F__law_thing.kp, b__law_thing⟩⟩
  have G__law_is_name := ok__law_is_name (P := P) (w := w) (base := base) F__law_is_name hS B
  have c__law_is_name : Cal P w K mg base _ "_law_is_name" ["_law_it"] _ := ⟨⟨_, _, G__law_is_name, g__law_is_name, F__law_is_name.kp, b__law_is_name⟩⟩
  have G__law_is_value := ok__law_is_value (P := P) (w := w) (base := base) F__law_is_value hS B c__law_is_name
  have c__law_is_value : Cal P w K mg base _ "_law_is_value" ["_law_it"] _ := ⟨⟨_, _, G__law_is_value, g__law_is_value, F__law_is_value.kp, b__law_is_value⟩⟩
  have G__law_rank := ok__law_rank (P := P) (w := w) (base := base) F__law_rank hS B
  have c__law_rank : Cal P w K mg base _ "_law_rank" ["_law_it"] _ := ⟨⟨_, _, G__law_rank, g__law_rank, F__law_rank.kp, b__law_rank⟩⟩
  have G__law_thing_right := ok__law_thing_right (P := P) (w := w) (base := base) F__law_thing_right hS B c_is_name k_is_name c_is_value k_is_value c_kind_of k_kind_of c__law_is_name c__law_is_value c__law_rank
  have c__law_thing_right : Cal P w K mg base _ "_law_thing_right" ["_law_it"] _ := ⟨⟨_, _, G__law_thing_right, g__law_thing_right, F__law_thing_right.kp, b__law_thing_right⟩⟩
  have G__law_pair_right := ok__law_pair_right (P := P) (w := w) (base := base) F__law_pair_right hS B c_is_before k_is_before c__law_rank
  have c__law_pair_right : Cal P w K mg base _ "_law_pair_right" ["_law_first", "_law_second"] _ := ⟨⟨_, _, G__law_pair_right, g__law_pair_right, F__law_pair_right.kp, b__law_pair_right⟩⟩
  have G__law_fixed := ok__law_fixed (P := P) (w := w) (base := base) F__law_fixed hS B
  have c__law_fixed : Cal P w K mg base _ "_law_fixed" [] _ := ⟨⟨_, _, G__law_fixed, g__law_fixed, F__law_fixed.kp, b__law_fixed⟩⟩
  exact ok_law F_law hS B m_RANGE c__law_deck c__law_fixed c__law_thing_right c__law_thing c__law_is_value c__law_value c__law_pair_right
end K02
open PySem PySem.W PySem.Calls PyProof.Rows
theorem PySem.Challenge.cw_failsalike_k02_values_and_kinds_holds : PySem.Challenge.rw_failsalike_k02_values_and_kinds.Holds := by
  w_on; o_law
  refine HandSHeadRun.head_any (r := OpenLaw.row PySem.Challenge.rw_failsalike_k02_values_and_kinds) (q := view (OpenLaw.row PySem.Challenge.rw_failsalike_k02_values_and_kinds).prog [21]) (H := K02.hk) (ob := K02.ob) (M := 3000) (loose := K02.loose) (d := HandSHeadRun.topDef (OpenLaw.row PySem.Challenge.rw_failsalike_k02_values_and_kinds).prog 21) (kwd := []) K02.ob_eq
    (by kernel_rfl) (fun s => by kernel_rfl) K02.run (by kernel_rfl) (by kernel_rfl) (by kernel_rfl) (by rfl) (by first | assumption | decide +kernel) (by decide +kernel) ⟨rfl, rfl, rfl, rfl, rfl, by decide +kernel⟩ ?hw ?hc
  case hw => w_witness2
  case hc =>
    refine FA.walkE (l := PySem.Challenge.rw_failsalike_k02_values_and_kinds) (n := 63) (k := 9) (x := "_law_script") (CX := L2.CX0) rfl (by decide) (by kernel_rfl) ⟨rfl, by decide, by decide⟩ ?F (fun _ _ _ _ z => z)
    intro w mg fa h Y G hmg0
    obtain ⟨⟨K, KX, c⟩, hsys⟩ := Y
    have hmg : mg ("law" : PySem.Str) = some (.ref fa) := by
      have e : (HandSHeadRun.topDef (OpenLaw.row PySem.Challenge.rw_failsalike_k02_values_and_kinds).prog 21).name = ("law" : PySem.Str) := by kernel_rfl
      rw [← e]
      exact hmg0
    obtain ⟨fd, hb, hF⟩ := K02.facts (P := (PySem.Challenge.rw_failsalike_k02_values_and_kinds).prog) (w := w) KX G hmg c
    exact ⟨K, fd, K02.spLaw K, KX, hsys, hb, fun H a ns hl _ hS => ⟨a, ns, rfl, hS, hl, fun _ => rfl⟩, hF⟩
end
