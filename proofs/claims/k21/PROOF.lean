import PyProof.Rows.All
import Wide.All
import OpenK.AllK
import Wide.FinOn
import HandS.Base
import HandS.Call
import HandS.List
import HandS.Dict
import HandS.Ends
import HandS.Words
import PyProof.ReprRoads
import HandS.Defaults
import HandS.Comp
import HandS.Head0
import HandS.Head1
import HandS.Head2
import HandS.HeadEnd
import HandS.HeadHook1
import HandS.HeadHook2
import HandS.IsInst
import HandS.Text
import HandS.Conv
import HandS.Iter
import HandS.Walk
import HandS.Wide
import HandS.Style
import PyProof.StrBlock2
import KE.LtData
import HandS.TupAny
import HandS.Deep
import KE.GoesEnum
import PyProof.WalksMore
import KE.SortData
import HandS.HeadHook3
import HandS.More
import PySem.Challenge.RW_failsalike_k21_places_and_main_parts
set_option Elab.async false
set_option linter.all false
set_option maxRecDepth 100000
set_option maxHeartbeats 0
/-! G1 -/
section
namespace FA
open PySem PySem.Spec PyProof.Rows L2

/-! data that stand in the abstract heap -/
def keyD : Key → PyData
  | .inl i => .int i
  | .inr z => .str z
mutual
def Dat (H : Hp) : PyData → V → Prop
  | .none, v => v = .non
  | .bool b, v => v = .bl b
  | .int i, v => v = .int i
  | .str x, v => v = .str x
  | .list ds, v => ∃ a xs, v = .ref a ∧ H a = some (.lst xs) ∧ DatAll H ds xs
  | .tuple ds, v => ∃ a xs, v = .ref a ∧ H a = some (.tup xs) ∧ DatAll H ds xs
  | .dict kvs, v => ∃ a es, v = .ref a ∧ H a = some (.dK es) ∧ DatKv H kvs es
def DatAll (H : Hp) : List PyData → List V → Prop
  | [], xs => xs = []
  | d :: ds, xs => ∃ y ys, xs = y :: ys ∧ Dat H d y ∧ DatAll H ds ys
def DatKv (H : Hp) : List (PyData × PyData) → List (Key × V) → Prop
  | [], xs => xs = []
  | (k, d) :: ds, xs => ∃ c y ys, xs = (c, y) :: ys ∧ k = keyD c ∧ Dat H d y ∧ DatKv H ds ys
end

section
variable {P : Program} {w : World} {H : Hp} {h : Heap}
theorem reads_key {c : Key} {u : Value} (q : keyIs c u = true) : Reads h u (keyD c) [] := by
  rcases keyIs_shape q with ⟨i, t, rfl, rfl⟩ | ⟨z, t, rfl, rfl⟩
  · exact .int i t
  · exact .str z t
mutual
theorem reads_of (ok : HOk P w H h) : ∀ (d : PyData) (v : V) (u : Value), Dat H d v → RelV v u → ∃ as, Reads h u d as ∧ ∀ b ∈ as, H b ≠ none
  | .none, v, u, e, r => by
    simp only [Dat] at e; subst e
    obtain rfl : u = .none := r
    exact ⟨[], .none, by simp⟩
  | .bool b, v, u, e, r => by
    simp only [Dat] at e; subst e
    obtain rfl : u = .bool b := r
    exact ⟨[], .bool b, by simp⟩
  | .int i, v, u, e, r => by
    simp only [Dat] at e; subst e
    obtain ⟨t, rfl⟩ : ∃ t, u = .int i t := r
    exact ⟨[], .int i t, by simp⟩
  | .str x, v, u, e, r => by
    simp only [Dat] at e; subst e
    obtain ⟨t, rfl⟩ : ∃ t, u = .str x t := r
    exact ⟨[], .str x t, by simp⟩
  | .list ds, v, u, e, r => by
    simp only [Dat] at e
    obtain ⟨a, xs, rfl, ha, hd⟩ := e
    obtain rfl : u = .ref a := r
    obtain ⟨_, its, n, rv, g⟩ := ok a _ ha
    obtain ⟨as, h1, h2⟩ := readsAll_of ok ds xs its hd rv
    refine ⟨a :: as, .list g rfl rfl (by simpa using h1), fun b hb => ?_⟩
    rcases List.mem_cons.mp hb with rfl | hb
    · rw [ha]; simp
    · exact h2 b hb
  | .tuple ds, v, u, e, r => by
    simp only [Dat] at e
    obtain ⟨a, xs, rfl, ha, hd⟩ := e
    obtain rfl : u = .ref a := r
    obtain ⟨_, its, rv, o, g, hc, n, hn⟩ := ok a _ ha
    obtain ⟨as, h1, h2⟩ := readsAll_of ok ds xs its hd rv
    exact ⟨as, .tuple g hc hn (by simpa using h1), h2⟩
  | .dict kvs, v, u, e, r => by
    simp only [Dat] at e
    obtain ⟨a, es, rfl, ha, hd⟩ := e
    obtain rfl : u = .ref a := r
    obtain ⟨_, _, vs, rel, o, ents, ep, g, hx, hdat, _, prs, _⟩ := ok a _ ha
    obtain ⟨as, bs, h1, h2, h3, h4⟩ := readsKv_of ok kvs es vs ents.toList hd rel prs
    refine ⟨a :: as ++ bs, .dict g (by first | exact hx.1 | exact hx.cls) hdat h1 h2, fun b hb => ?_⟩
    rcases List.mem_append.mp hb with hb | hb
    · rcases List.mem_cons.mp hb with rfl | hb
      · rw [ha]; simp
      · exact h3 b hb
    · exact h4 b hb
theorem readsAll_of (ok : HOk P w H h) : ∀ (ds : List PyData) (xs : List V) (us : List Value), DatAll H ds xs → Vals xs us → ∃ as, ReadsAll h us ds as ∧ ∀ b ∈ as, H b ≠ none
  | [], xs, us, e, r => by
    simp only [DatAll] at e; subst e
    cases r
    exact ⟨[], .nil, by simp⟩
  | d :: ds, xs, us, e, r => by
    simp only [DatAll] at e
    obtain ⟨y, ys, rfl, hy, hys⟩ := e
    cases r with
    | cons r1 r2 =>
      obtain ⟨as, h1, h2⟩ := reads_of ok d y _ hy r1
      obtain ⟨bs, h3, h4⟩ := readsAll_of ok ds ys _ hys r2
      exact ⟨as ++ bs, .cons h1 h3, fun b hb => (List.mem_append.mp hb).elim (h2 b) (h4 b)⟩
theorem readsKv_of (ok : HOk P w H h) : ∀ (kvs : List (PyData × PyData)) (es : List (Key × V)) (vs : List (Key × Value)) (ents : List DictEntry), DatKv H kvs es → KV es vs → PySem.Pairs (mixKind P w) ents vs →
    ∃ as bs, ReadsAll h (ents.map (·.key)) (kvs.map (·.1)) as ∧ ReadsAll h (ents.map (·.val)) (kvs.map (·.2)) bs ∧ (∀ b ∈ as, H b ≠ none) ∧ ∀ b ∈ bs, H b ≠ none
  | [], es, vs, ents, e, r, p => by
    simp only [DatKv] at e; subst e
    cases r
    cases p
    exact ⟨[], [], .nil, .nil, by simp, by simp⟩
  | (k, d) :: ds, es, vs, ents, e, r, p => by
    simp only [DatKv] at e
    obtain ⟨c, y, ys, rfl, rfl, hy, hys⟩ := e
    cases r with
    | cons r1 r2 =>
      cases p with
      | cons p1 p2 p3 =>
        obtain ⟨e1, e2⟩ := r1
        dsimp only at e1 e2
        obtain ⟨as, h1, h2⟩ := reads_of ok d y _ hy e2
        obtain ⟨cs, bs, h3, h4, h5, h6⟩ := readsKv_of ok ds ys _ _ hys r2 p3
        refine ⟨[] ++ cs, as ++ bs, .cons ?_ h3, .cons ?_ h4, by simpa using h5, fun b hb => (List.mem_append.mp hb).elim (h2 b) (h6 b)⟩
        · show Reads h _ (keyD c) []
          rw [e1]
          exact reads_key p1
        · rw [← p2] at h1
          exact h1
end
end

section
variable {X : Cx}
/-- what repr asks of the program's text: the table of modules is no object of the law's own -/
def NoSys (X : Cx) : Prop := ∃ o, X.base.get? sysModules = some o
theorem repr_any {prog : Program} {w : World} {A : Around} {E : Value → Shared → Prop} {s : Shared} {Q : Value → Shared → Prop} {u : Value} {d : PyData} {as : List Addr}
    (r : Reads s.heap u d as) (hs : d.showable = true) (hsm : d.hasDict = true → sysModules ∉ as) (hg : A.guards = some []) (hu : A.units + (d.depth + 1) < cLine)
    (hQ : ∀ h' t tk, (∀ b o, s.heap.get? b = some o → h'.get? b = some o) → Q (.str d.shown t) { s with heap := h', toks := tk })
    (hsz : d.shown.length ≤ sizeLine) : wpAny (model prog w) A (call (.builtin "repr") [u]) Q E s := by
  cases u with
  | ref a => exact repr_of_reads' r hs hsm hg hu (fun _ _ e => e) hQ hsz
  | none => cases r; exact PySem.P.repr_of_none (hQ s.heap _ _ fun _ _ e => e)
  | bool b => cases r; exact PySem.P.repr_of_bool (by
      have z := hQ s.heap s.toks (s.toks + 1) fun _ _ e => e
      cases b <;> exact z)
  | int i t => cases r; exact PySem.P.repr_of_int (by simpa [PyData.showable] using hs) (hQ s.heap _ _ fun _ _ e => e)
  | str x t => cases r; exact PySem.P.repr_of_str (hQ s.heap _ _ fun _ _ e => e) hsz
  | _ => cases r
def rRepr : List V → Hp → VK → Prop := fun xs H Q => ∃ v d, xs = [v] ∧ Dat H d v ∧ d.showable = true ∧ d.depth ≤ 60 ∧ d.shown.length ≤ sizeLine ∧ Q (.str d.shown) H
theorem call_reprA {k : Nat} (hg : X.A.guards = some []) (hr : Room k X.A) (hS : NoSys X) : CallR X (.builtin "repr") rRepr := by
  intro pins s σ H xs us Q I r h
  obtain ⟨v, d, rfl, hd, hs, hdp, hz, q⟩ := h
  obtain ⟨u, rfl, ru⟩ := vals1 r
  obtain ⟨as, hR, hT⟩ := reads_of I.hok d _ _ hd ru
  have hsm : d.hasDict = true → sysModules ∉ as := fun _ hm => by
    obtain ⟨o, ho⟩ := hS
    exact hT _ hm (I.bs _ _ ho).2
  have hu := hr.units
  exact repr_any hR hs hsm hg (by omega) (fun h' t tk hk => ⟨.str _, H, I.kept hk, ⟨t, rfl⟩, q⟩) hz
end
end FA
end

/-! G2 -/
section
namespace FA
open PySem PySem.Spec PyProof.Rows L2

/-- a def's promise where no repr is under way around it -/
structure FnG (P : Program) (w : World) (K : PySem.W.Frag) (mg : Str → Option Value)
    (base : Heap) (CX : CXT) (k : Nat) (f : Addr) (fd : FuncData) (ps : List Str) (sp : Sp) : Prop where
  size : ∀ vs H Q E, sp vs H Q E → vs.length = ps.length
  go : ∀ (A : Around) (outer : List Env) (s : Shared) (H : Hp) (args : Args) (us : List Value) (vs : List V)
    (Q : VK) (E : XK), Room k A → A.guards = some [] → Env0 P w K mg base A outer s H →
    BindsTo s fd args (ps.zip us) → Vals vs us → sp vs H Q E →
    codeAny (model P w) A (.call (.ref f) args) (CR CX outer P w H s Q E) s
section
variable {P : Program} {w : World} {K : PySem.W.Frag} {mg : Str → Option Value} {base : Heap} {CX : CXT}
  {f : Addr} {fd : FuncData} {ps : List Str} {sp sp' : Sp}
theorem FnG.more {j k : Nat} (F : FnG P w K mg base CX j f fd ps sp) (h : j ≤ k) : FnG P w K mg base CX k f fd ps sp where
  size := F.size
  go := fun A outer s H args us vs Q E hr hg e b v z => F.go A outer s H args us vs Q E (hr.mono h) hg e b v z
theorem FnG.weak {k : Nat} (F : FnG P w K mg base CX k f fd ps sp) (h : ∀ vs H Q E, sp' vs H Q E → sp vs H Q E) :
    FnG P w K mg base CX k f fd ps sp' where
  size := fun vs H Q E z => F.size vs H Q E (h _ _ _ _ z)
  go := fun A outer s H args us vs Q E hr hg e b v z => F.go A outer s H args us vs Q E hr hg e b v (h _ _ _ _ z)
theorem FnG.of {k : Nat} (F : FnOk P w K mg base CX k f fd ps sp) : FnG P w K mg base CX k f fd ps sp where
  size := F.len
  go := fun A outer s H args us vs Q E hr _ e b v z => F.run A outer s H args us vs Q E hr e b v z

/-- a def by its body -/
theorem fnG_of {k : Nat} {name qual : Str} {params : Arguments} {body : List Stmt} {scope : Scope}
    {dV kV doc pm cdv ct oc : Value} {an od : Option Addr} {osl : Array (Option Value)} {N : List Str}
    (lk : K.lookup f = some ⟨oc, od, .func (PySem.W.fnOf name qual params body scope dV kV doc pm an cdv ct), osl⟩)
    (hcd : PySem.W.codeIn K cdv qual = true) (S : FnScope N ps scope)
    (size : ∀ vs H Q E, sp vs H Q E → vs.length = ps.length)
    (hb : ∀ (A : Around) (outer : List Env) (s : Shared) (H : Hp) (vs : List V) (Q : VK) (E : XK),
      Room k (A.deeper (envOfC qual scope s.heap.objs.size f cdv)) → A.guards = some [] → sp vs H Q E →
      ∃ t, PSs (cxOf CX P w K mg base N qual scope f cdv A outer s H E) body t ∧
        t { nx := fun _ H' => Q .non H', rt := Q } (start N vs) H) :
    FnG P w K mg base CX (k + 1) f (PySem.W.fnOf name qual params body scope dV kV doc pm an cdv ct) ps sp where
  size := size
  go := by
    intro A outer s H args us vs Q E hr hg e0 bnd rv hsp
    have len := size _ _ _ _ hsp
    have kin : K.In s.heap := e0.mod.kin.keeps (fun b o z => (e0.bs b o z).1)
    have nolim : s.heap.NoLimit := e0.mod.nolimit.keeps (fun b o z => (e0.bs b o z).1)
    have names : ∀ y ∈ ps.zip us, scope.names.lookup y.1 = some .local ∨
        (scope.names.lookup y.1 = some .cell ∧
          ((cellsFrom (s.heap.objs.size + 1) scope.names []).lookup y.1).isSome = true) := by
      rintro ⟨n, v⟩ hy
      have hn := (List.of_mem_zip hy).1
      rcases S.par n hn with z | z
      · exact Or.inl z
      · exact Or.inr ⟨z, PySem.W.cellsFrom_some _ _ _ (Or.inl z)⟩
    apply codeAny_call_function hr.depth (kin _ _ lk) rfl S.co S.gen rfl (PySem.W.codeRec_of kin hcd) (bnd _ _ _ _ ?_)
    apply wpAny_newFunctionEnv_cells S.kind names
    intro env he s1 x
    subst he
    refine ⟨nolim.keeps x.toInCall.keep, codeAny_func ?_⟩
    obtain ⟨t, ht, hq⟩ := hb A outer s H vs Q E (hr.deeper _) hg hsp
    have I := inv_start (CX := CX) (P := P) (w := w) (K := K) (mg := mg) (base := base) (E := E) (cd := cdv) S hr.hd e0 len rv x
    refine wpAny_mono (ht.run [] s1 (start N vs) H _ I hq) ?_ (fun e s' z => z)
    intro fl s' hs
    cases fl with
    | brk =>
      obtain ⟨_, _, _, z⟩ := hs
      exact z.elim
    | cont =>
      obtain ⟨_, _, _, z⟩ := hs
      exact z.elim
    | ret u =>
      obtain ⟨v, σ', H', J, r1, z⟩ := hs
      exact ⟨v, H', J.os, J.bare, J.base, J.hok, r1, z⟩
    | next =>
      obtain ⟨σ', H', J, z⟩ := hs
      exact ⟨V.non, H', J.os, J.bare, J.base, J.hok, (rfl : Value.none = Value.none), z⟩
/-- .. that lets no exception out -/
theorem okG {x qual : Str} {st : Stmt} {N : List Str} {k : Nat} (F : Fun K x qual st f fd) (S : FnScope N ps (defScope st))
    (size : ∀ vs H Q E, sp vs H Q E → vs.length = ps.length)
    (hb : ∀ (cdv : Value) (A : Around) (outer : List Env) (s : Shared) (H : Hp) (vs : List V) (Q : VK) (E : XK),
      Room k (A.deeper (envOfC qual (defScope st) s.heap.objs.size f cdv)) → A.guards = some [] → sp vs H Q E →
      ∃ t, PSs (cxOf CX0 P w K mg base N qual (defScope st) f cdv A outer s H E).nox (defBody st) t ∧
        t { nx := fun _ H' => Q .non H', rt := Q } (start N vs) H) : FnG P w K mg base CX0 (k + 1) f fd ps sp := by
  obtain ⟨oc, od, kV, doc, pm, an, cdv, ct, osl, rfl, lk, hcd⟩ := F.ex
  refine fnG_of lk hcd S size ?_
  intro A outer s H vs Q E hr hg hsp
  obtain ⟨t, h, q⟩ := hb cdv A outer s H vs Q E hr hg hsp
  exact ⟨t, h.nox, q⟩
end

section
variable {X : Cx} {CX : CXT} {k : Nat} {f : Addr} {fd : FuncData} {ps : List Str} {sp : Sp} {dvs : List V} {ds : List Value}
  {E : XK} {x : Str} {p pos : Pos} {e : Expr} {es : List Expr} {t : TA}
/-- what a call hands back -/
theorem endG {pins : List (Addr × Obj)} {σ : L2.St} {H : Hp} {s : Shared} {Q : VK} {args : Args}
    (hx : Passes CX X E) (I : Inv X pins σ H s) (h : codeAny (model X.prog X.w) X.A (.call (.ref f) args) (CR CX X.stack X.prog X.w H s Q E) s) :
    codeAny (model X.prog X.w) X.A (.call (.ref f) args) (fun r s' => match r with
      | .ok (.ret u) => EP X pins σ Q u s'
      | .ok _ => False
      | .error e => X.xe e s') s := by
  refine codeAny_mono h ?_
  intro r s' hq
  cases r with
  | error e => exact hx pins σ H s e s' I hq
  | ok fl =>
    cases fl with
    | ret u => exact I.after hq
    | brk => exact hq.elim
    | cont => exact hq.elim
    | next => exact hq.elim
theorem runG {pins : List (Addr × Obj)} {σ : L2.St} {H : Hp} {s : Shared} {Q : VK} {us : List Value} {vs : List V}
    (F : FnG X.prog X.w X.K X.mg X.base CX k f fd ps sp) (hg : X.A.guards = some []) (hr : Room k X.A) (hb : Binds X.K fd ps ds)
    (hd : Vals dvs ds) (hx : Passes CX X E) (I : Inv X pins σ H s) (r : Vals vs us) (h : sp (vs ++ dvs) H Q E) :
    wpAny (model X.prog X.w) X.A (call (.ref f) us) (EP X pins σ Q) X.xe s := by
  have r2 := r.append hd
  have hl : (us ++ ds).length = ps.length := r2.length.symm.trans (F.size _ _ _ _ h)
  have z := F.go X.A X.stack s H ⟨us, []⟩ (us ++ ds) (vs ++ dvs) Q E hr hg I.env0 (hb s us I.kIn hl) r2 h
  refine wpAny_call (codeAny_mono (endG (pins := pins) (σ := σ) hx I z) ?_)
  intro r s' hq
  cases r with
  | error e => exact hq
  | ok fl =>
    cases fl with
    | ret u => exact hq
    | brk => exact hq.elim
    | cont => exact hq.elim
    | next => exact hq.elim
theorem callG (F : FnG X.prog X.w X.K X.mg X.base CX k f fd ps sp) (hgd : X.A.guards = some []) (hr : Room k X.A)
    (hm : X.mg x = some (.ref f)) (hk : PySem.W.keepIn X.K (.ref f) = true) (hb : Binds X.K fd ps ds) (hd : Vals dvs ds)
    (hx : Passes CX X E) (ha : PA X (e :: es) t) (hg : Gl X x := by rfl) (hdb : (x == ("__debug__" : Str)) = false := by decide)
    (he : starEach (e :: es) X.env = (false, eval e X.env) :: starEach es X.env := by rfl)
    (hpl : (backTo pos (starEach es X.env)).any (·.1) = false := by rfl) :
    PE X (.Call (.Name x p) (e :: es) [] pos) (tCall sp dvs E t) := by
  constructor
  intro pins s σ H Q I h
  apply wpAny_Call_Name_kw (ld_glob I hg hm ?_ hdb)
  have z := ha.run pos pins s σ H _ I h
  refine PySem.W.callWith_K (h₀ := X.base) I.ok.mod.kin hk (thn z ?_) he hpl
  rintro us s1 ⟨vs, H1, I1, r, q⟩
  exact ⟨I1.kIn, runG F hgd hr hb hd hx I1 r q⟩
theorem callG0 (F : FnG X.prog X.w X.K X.mg X.base CX k f fd ps sp) (hgd : X.A.guards = some []) (hr : Room k X.A)
    (hm : X.mg x = some (.ref f)) (hk : PySem.W.keepIn X.K (.ref f) = true) (hb : Binds X.K fd ps ds) (hd : Vals dvs ds)
    (hx : Passes CX X E) (hg : Gl X x := by rfl) (hdb : (x == ("__debug__" : Str)) = false := by decide) :
    PE X (.Call (.Name x p) [] [] pos) (tCall sp dvs E tNil) := by
  constructor
  intro pins s σ H Q I h
  apply wpAny_Call_Name_kw (ld_glob I hg hm ?_ hdb)
  exact PySem.W.callWith_K0 I.kIn hk (runG (us := []) F hgd hr hb hd hx I .nil h)

/-- f(k = v, ..): keywords alone; g puts their values in the parameters' order -/
structure KwTo (K : PySem.W.Frag) (fd : FuncData) (ps ks : List Str) (g : ∀ {α : Type}, List α → List α) : Prop where
  to : ∀ (s : Shared) (ws : List Value), K.In s.heap → ws.length = ks.length → BindsTo s fd ⟨[], ks.zip ws⟩ (ps.zip (g ws))
  rel : ∀ {zs : List V} {ws : List Value}, Vals zs ws → Vals (g zs) (g ws)
def tKw (n : Nat) (sp : Sp) (g : List V → List V) (E : XK) (tk : TA) : TE := fun σ H Q => tk σ H fun zs H1 => zs.length = n ∧ sp (g zs) H1 Q E
variable {ks : List Str} {kws : List Keyword} {tk : TA} {g : ∀ {α : Type}, List α → List α}
theorem callKw (F : FnG X.prog X.w X.K X.mg X.base CX k f fd ps sp) (hgd : X.A.guards = some []) (hr : Room k X.A)
    (hm : X.mg x = some (.ref f)) (hk : PySem.W.keepIn X.K (.ref f) = true) (hb : KwTo X.K fd ps ks g)
    (hx : Passes CX X E) (hkw : PK X kws tk) (hg : Gl X x := by rfl)
    (hall : (backToKw pos (keywordEach kws X.env)).all (·.1.isSome) = true := by rfl)
    (hks : (backToKw pos (keywordEach kws X.env)).filterMap (·.1) = ks := by rfl) (hdb : (x == ("__debug__" : Str)) = false := by decide)
    (hpl : ((backTo pos (starEach [] X.env)).any (·.1) || (backToKw pos (keywordEach kws X.env)).any (·.1.isNone)) = false := by rfl) :
    PE X (.Call (.Name x p) [] kws pos) (tKw ks.length sp g E tk) := by
  constructor
  intro pins s σ H Q I h
  apply wpAny_Call_Name_kw (ld_glob I hg hm ?_ hdb)
  refine PySem.W.callWith_KW0 (h₀ := X.base) I.ok.mod.kin hk hall ?_ hpl
  refine thn (hkw.run pos pins s σ H _ I h) ?_
  rintro ws s2 ⟨zs, H2, I2, rz, l2, q2⟩
  refine ⟨I2.kIn, ?_⟩
  rw [hks]
  have z := F.go X.A X.stack s2 H2 ⟨[], ks.zip ws⟩ (g ws) (g zs) _ E hr hgd I2.env0 (hb.to s2 ws I2.kIn (rz.length.symm.trans l2)) (hb.rel rz) q2
  refine wpAny_call (codeAny_mono (endG (pins := pins) (σ := σ) hx I2 z) ?_)
  intro r s' hq
  cases r with
  | error e => exact hq
  | ok fl =>
    cases fl with
    | ret u => exact hq
    | brk => exact hq.elim
    | cont => exact hq.elim
    | next => exact hq.elim
end
end FA
end

/-! G3 -/
section
namespace FA
open PySem PySem.Spec PyProof.Rows L2

/-- the one tracked thing at a law's entry: the script, as it is -/
def entry (a : Addr) (o : Obj) (xs : List V) : Hp := fun b => if b = a then some (.frz o (.lst xs)) else none
theorem entry_at {a : Addr} {o : Obj} {xs : List V} : entry a o xs a = some (.frz o (.lst xs)) := if_pos rfl
theorem entry_ne {a b : Addr} {o : Obj} {xs : List V} (h : b ≠ a) : entry a o xs b = none := if_neg h
def Lone (H : Hp) : Prop := (∀ b, H b = none) ∨ ∃ a o xs, H = entry a o xs

theorem endLaw {P : Program} {w : World} {K : PySem.W.Frag} {mg mb : Str → Option Value} {CX : CXT} {k : Nat} {fa a : Addr}
    {fd : FuncData} {x : Str} {sp : Sp} {s₁ : Shared} {H : Hp} {ns : List Int} {so : Obj}
    (kin : K.In s₁.heap) (n1 : s₁.heap.Ns mainGlobals mg) (n2 : s₁.heap.Ns builtinsNs mb)
    (bt : ∀ z : Str, z ≠ "__name__" → mb z = bootBuiltins z) (lim : s₁.heap.NoLimit) (gens : s₁.gens = #[])
    (hr : Room k callerA) (hso : ∃ vs : List Value, so = { cls := .type "list", data := .seq vs.toArray }) (obj : s₁.heap.get? a = some so)
    (hH : (∀ b, H b = none) ∨ (K.lookup a = none ∧ H = entry a so (ns.map V.int))) (hok : HOk P w H s₁.heap)
    (F : ∀ base : Heap, K.In base → base.Ns mainGlobals mg → (∀ b o, s₁.heap.get? b = some o → b ≠ a ∨ K.lookup a ≠ none → base.get? b = some o) →
      FnG P w K mg base CX k fa fd [x] sp)
    (bnd : ∀ (s : Shared) (u : Value), BindsTo s fd ⟨[u], []⟩ [(x, u)])
    (hsp : sp [.ref a] H (fun v _ => v = .bl true) fun _ _ _ => False)
    (noE : ∀ e s', CX [] H s₁ (fun _ _ _ => False) e s' → False) :
    codeAny (model P w) callerA (.call (.ref fa) ⟨[.ref a], []⟩)
      (fun r s' => r = .ok (.ret (.bool true)) ∧ OldK s₁.heap s'.heap ∧ s'.os = s₁.os ∧ AllBare s'.gens) s₁ := by
  obtain ⟨vs, rfl⟩ := hso
  have only : ∀ b, H b ≠ none → b = a ∧ K.lookup a = none := by
    intro b hb
    rcases hH with z | ⟨z, rfl⟩
    · exact absurd (z b) hb
    · refine ⟨?_, z⟩
      by_cases c : b = a
      · exact c
      · exact absurd (entry_ne c) hb
  have free : ∀ b, b ≠ a ∨ K.lookup a ≠ none → H b = none := by
    intro b hb
    cases q : H b with
    | none => rfl
    | some u =>
      obtain ⟨z1, z2⟩ := only b (by rw [q]; simp)
      rcases hb with hb | hb
      · exact absurd z1 hb
      · exact absurd z2 hb
  have keep : ∀ b o, s₁.heap.get? b = some o → b ≠ a ∨ K.lookup a ≠ none → (hidT s₁.heap H).get? b = some o :=
    fun b o e c => hidT_get e (free b c)
  have dictNe : ∀ b o es ep, s₁.heap.get? b = some o → o.data = Data.dict es ep → b ≠ a := by
    rintro b o es ep e d rfl
    rw [obj] at e
    cases e
    have d' : Data.seq vs.toArray _ = Data.dict es ep := d
    cases d'
  have nsB : ∀ {b : Addr} {m : Str → Option Value}, s₁.heap.Ns b m → (hidT s₁.heap H).Ns b m := by
    rintro b m ⟨o, es, ep, e, d, r⟩
    exact ⟨o, es, ep, keep b o e (Or.inl (dictNe b o es ep e d)), d, r⟩
  have kinB : K.In (hidT s₁.heap H) := by
    intro b o e
    refine keep b o (kin b o e) ?_
    by_cases c : b = a
    · right
      rw [← c, e]
      simp
    · exact Or.inl c
  obtain ⟨mc, l1, l2⟩ := lim
  have md : Mod K mg (hidT s₁.heap H) := ⟨kinB, nsB n1, ⟨mb, nsB n2, bt⟩, ⟨mc, nsB l1, l2⟩⟩
  have e0 : Env0 P w K mg (hidT s₁.heap H) callerA [] s₁ H :=
    { frames := rfl, mod := md, bs := fun b o e => of_hidT e, bsz := Nat.le_of_eq (hidT_size _ _), funs := trivial,
      frf := fun b hb => absurd (show b ∈ ([] : List Addr) from hb) (by simp), hok := hok, bare := .of_eq gens }
  have run := (F _ kinB (nsB n1) keep).go callerA [] s₁ H ⟨[.ref a], []⟩ [.ref a] [.ref a] _ _ hr rfl e0 (bnd s₁ (.ref a)) (.cons rfl .nil) hsp
  refine codeAny_mono run ?_
  intro r s' h
  cases r with
  | error e => exact (noE e s' h).elim
  | ok fl =>
    cases fl with
    | brk => exact h.elim
    | cont => exact h.elim
    | next => exact h.elim
    | ret u =>
      obtain ⟨v, H', os, bare, un, hok', r', q⟩ := h
      obtain rfl : v = V.bl true := q
      obtain rfl : u = Value.bool true := r'
      refine ⟨rfl, OldK.of_keep ?_, os, bare⟩
      intro b o e
      cases c : H b with
      | none => exact un.keep b o e c (by intro z; exact absurd (show b ∈ ([] : List Addr) from z) (by simp)) (by simp)
      | some u =>
        rcases hH with z | ⟨_, rfl⟩
        · rw [z b] at c; cases c
        · have hb : b = a := by
            by_cases y : b = a
            · exact y
            · rw [entry_ne y] at c; cases c
          subst hb
          obtain ⟨e2, _⟩ := hok' b _ (un.frzs b _ _ entry_at)
          rw [obj] at e
          cases e
          exact e2

/-- a law's end, over a head by facts -/
theorem walkE {l : PySem.W.OpenLaw} {n k : Nat} {q : Program} {loose : List Str} {XP : (Str → Option Value) → Heap → Prop}
    {YP : World → Heap → Prop} {d : DefRec} {CX : CXT} {x : Str}
    (hn : l.most = some n) (hn2 : n ≤ sizeLine) (hdf : d.params.defaults = []) (hr : Room k callerA)
    (F : ∀ (w : World) (mg : Str → Option Value) (fa : Addr) (h : Heap), YP w h → h.Ns mainGlobals mg → mg d.name = some (.ref fa) →
      ∃ (K : PySem.W.Frag) (fd : FuncData) (sp : Sp), K.In h ∧ (∃ o es m, h.get? sysModules = some o ∧ o.data = Data.dict es m) ∧
        (∀ (s : Shared) (u : Value), BindsTo s fd ⟨[u], []⟩ [(x, u)]) ∧
        (∀ (H : Hp) (a : Addr) (ns : List Int), ns.length ≤ n → Lone H → SqL K H a (ns.map V.int) →
          sp [.ref a] H (fun v _ => v = .bl true) fun _ _ _ => False) ∧
        ∀ base : Heap, K.In base → base.Ns mainGlobals mg → (∃ o, base.get? sysModules = some o) →
          FnG l.prog w K mg base CX k fa fd [x] sp)
    (noE : ∀ (H : Hp) (s : Shared) (e : Value) (s' : Shared), CX [] H s (fun _ _ _ => False) e s' → False) :
    PySem.W.WalkO q loose XP YP l.row.toRowW d [] (fun f vs => PySem.call f vs) := by
  apply Att.attach_call hn hdf
  intro w s₀ s₁ mg mb fa o pm cd doc a vs ns G Y ho hd hcd hmg hobj hints hlen hg
  obtain ⟨K, fd, sp, kin, ⟨so, es, sm, hso, hsd⟩, hb, hsp, hF⟩ := F w mg fa _ Y G.T.g hmg
  have rel : Vals (ns.map V.int) vs := vals_ints hints
  have len : (ns.map V.int).length ≤ sizeLine := by
    rw [List.length_map]
    exact Nat.le_trans hlen hn2
  have sysNe : sysModules ≠ a := by
    intro z
    rw [z, hobj] at hso
    cases hso
    have d' : Data.seq vs.toArray _ = Data.dict es sm := hsd
    cases d'
  cases hk : K.lookup a with
  | some o1 =>
    have e := kin a o1 hk
    rw [hobj] at e
    cases e
    refine endLaw (ns := ns) (H := fun _ => none) kin G.T.g G.T.b G.T.builtins G.T.nolimit hg hr ⟨vs, rfl⟩ hobj (Or.inl fun _ => rfl)
      (fun b u z => by have z' : (none : Option HO) = some u := z; cases z')
      (fun base h1 h2 h3 => hF base h1 h2 ⟨_, h3 _ _ hso (Or.inl sysNe)⟩) hb ?_ (fun e s' => noE _ s₁ e s')
    refine hsp _ a ns hlen (Or.inl fun _ => rfl) (Or.inr ⟨_, vs.toArray, _, hk, rfl, rfl, rfl, ?_, by simpa using rel⟩)
    rw [List.size_toArray, hints.length]
    exact Nat.le_trans hlen hn2
  | none =>
    refine endLaw (ns := ns) (H := entry a _ (ns.map V.int)) kin G.T.g G.T.b G.T.builtins G.T.nolimit hg hr ⟨vs, rfl⟩ hobj (Or.inr ⟨hk, rfl⟩)
      ?_ (fun base h1 h2 h3 => hF base h1 h2 ⟨_, h3 _ _ hso (Or.inl sysNe)⟩) hb ?_ (fun e s' => noE _ s₁ e s')
    · intro b u z
      by_cases c : b = a
      · subst c
        rw [entry_at] at z
        cases z
        exact ⟨hobj, len, vs, _, rel, hobj⟩
      · rw [entry_ne c] at z
        cases z
    · exact hsp _ a ns hlen (Or.inr ⟨_, _, _, rfl⟩) (Or.inl (Or.inr ⟨_, entry_at⟩))

/-- what stands around a body -/
structure Rdy (k : Nat) (X : Cx) : Prop where
  room : Room k X.A
  gd : X.A.guards = some []
  sys : NoSys X
theorem Rdy.blk {k : Nat} {X : Cx} (R : Rdy k X) (s : Shared) (H : Hp) (sc : Scope) (env : Env) (fp : List Addr) : Rdy k (X.blk s H sc env fp) := ⟨R.room, R.gd, R.sys⟩
/-! the head's facts, and the table of modules -/
def sysB (g : Addr → Option Obj) : Bool := match g sysModules with
  | some ⟨_, _, .dict _ _, _⟩ => true
  | _ => false
theorem sysB_ok {g : Addr → Option Obj} (h : sysB g = true) : ∃ o es m, g sysModules = some o ∧ o.data = Data.dict es m := by
  unfold sysB at h
  split at h
  · rename_i es m _ e
    exact ⟨_, es, m, e, rfl⟩
  · cases h
def hookS (n : Nat) (fa : List He.Fa) (fn : List He.DefD) : PySem.W.Hook where
  α := He.AlD × Bool
  obs := fun s => ((He.hookD n fa fn).obs s, sysB s.heap.get?)
  val := fun w => ((He.hookD n fa fn).val w, true)
  says := fun w h => (He.hookD n fa fn).says w h ∧ ∃ o es m, h.get? sysModules = some o ∧ o.data = Data.dict es m
  of := fun w s e => ⟨(He.hookD n fa fn).of w s (congrArg Prod.fst e), sysB_ok (congrArg Prod.snd e)⟩
  keeps := fun w h h' z k => ⟨(He.hookD n fa fn).keeps w h h' z.1 k, let ⟨o, es, m, e, d⟩ := z.2; ⟨o, es, m, k _ _ e, d⟩⟩

section
variable {P : Program} {w : World} {K : PySem.W.Frag} {mg : Str → Option Value} {base : Heap} {x qual : Str} {params : Arguments}
  {body : List Stmt} {scope : Scope} {dvs : List V} {kws : List (Str × V)} {f : Addr} {fd : FuncData}
/-- a def of the head's facts, by its body -/
theorem okD {N ps : List Str} {k : Nat} {sp : Sp} (F : FunD K x qual params body scope dvs kws f fd) (S : FnScope N ps scope)
    (hS : ∃ o, base.get? sysModules = some o)
    (size : ∀ vs H Q E, sp vs H Q E → vs.length = ps.length)
    (hb : ∀ (cdv : Value) (A : Around) (outer : List Env) (s : Shared) (H : Hp) (vs : List V) (Q : VK) (E : XK),
      Rdy k (cxOf CX0 P w K mg base N qual scope f cdv A outer s H E).nox → sp vs H Q E →
      ∃ t, PSs (cxOf CX0 P w K mg base N qual scope f cdv A outer s H E).nox body t ∧
        t { nx := fun _ H' => Q .non H', rt := Q } (start N vs) H) : FnG P w K mg base CX0 (k + 1) f fd ps sp := by
  obtain ⟨oc, od, dV, kV, doc, pm, an, cdv, ct, osl, rfl, lk, hcd, _, _⟩ := F.ex
  refine fnG_of lk hcd S size ?_
  intro A outer s H vs Q E hr hg hsp
  obtain ⟨t, h, q⟩ := hb cdv A outer s H vs Q E ⟨hr, hg, hS⟩ hsp
  exact ⟨t, h.nox, q⟩
end

/-! what a caller needs -/
structure Cal (P : Program) (w : World) (K : PySem.W.Frag) (mg : Str → Option Value) (base : Heap) (k : Nat) (x : Str) (ps : List Str) (sp : Sp) : Prop where
  ex : ∃ (f : Addr) (fd : FuncData), FnG P w K mg base CX0 k f fd ps sp ∧ mg x = some (.ref f) ∧ PySem.W.keepIn K (.ref f) = true ∧ Binds K fd ps []
structure CalK (P : Program) (w : World) (K : PySem.W.Frag) (mg : Str → Option Value) (base : Heap) (k : Nat) (x : Str) (ps ks : List Str)
    (g : ∀ {α : Type}, List α → List α) (sp : Sp) : Prop where
  ex : ∃ (f : Addr) (fd : FuncData), FnG P w K mg base CX0 k f fd ps sp ∧ mg x = some (.ref f) ∧ PySem.W.keepIn K (.ref f) = true ∧ KwTo K fd ps ks g
section
variable {X : Cx} {k j : Nat} {x : Str} {ps ks : List Str} {sp : Sp} {p pos : Pos} {e : Expr} {es : List Expr} {t : TA}
  {kws : List Keyword} {tk : TA} {g : ∀ {α : Type}, List α → List α}
theorem cc (c : Cal X.prog X.w X.K X.mg X.base k x ps sp) (R : Rdy j X) (ha : PA X (e :: es) t) (hk : k ≤ j := by omega) (hg : Gl X x := by rfl)
    (hdb : (x == ("__debug__" : Str)) = false := by decide)
    (he : starEach (e :: es) X.env = (false, eval e X.env) :: starEach es X.env := by rfl)
    (hpl : (backTo pos (starEach es X.env)).any (·.1) = false := by rfl) (hx : ∀ E, Passes CX0 X E := by intro _ _ _ _ _ _ _ _ z; exact z.elim) :
    PE X (.Call (.Name x p) (e :: es) [] pos) (tCall sp [] E0 t) := by
  obtain ⟨f, fd, F, hm, hkp, hb⟩ := c.ex
  exact callG F R.gd (R.room.mono hk) hm hkp hb .nil (hx _) ha hg hdb he hpl
theorem cc0 (c : Cal X.prog X.w X.K X.mg X.base k x ps sp) (R : Rdy j X) (hk : k ≤ j := by omega) (hg : Gl X x := by rfl)
    (hdb : (x == ("__debug__" : Str)) = false := by decide) (hx : ∀ E, Passes CX0 X E := by intro _ _ _ _ _ _ _ _ z; exact z.elim) :
    PE X (.Call (.Name x p) [] [] pos) (tCall sp [] E0 tNil) := by
  obtain ⟨f, fd, F, hm, hkp, hb⟩ := c.ex
  exact callG0 F R.gd (R.room.mono hk) hm hkp hb .nil (hx _) hg hdb
theorem ck (c : CalK X.prog X.w X.K X.mg X.base k x ps ks g sp) (R : Rdy j X) (hkw : PK X kws tk) (hk : k ≤ j := by omega) (hg : Gl X x := by rfl)
    (hall : (backToKw pos (keywordEach kws X.env)).all (·.1.isSome) = true := by rfl)
    (hks : (backToKw pos (keywordEach kws X.env)).filterMap (·.1) = ks := by rfl) (hdb : (x == ("__debug__" : Str)) = false := by decide)
    (hpl : ((backTo pos (starEach [] X.env)).any (·.1) || (backToKw pos (keywordEach kws X.env)).any (·.1.isNone)) = false := by rfl)
    (hx : ∀ E, Passes CX0 X E := by intro _ _ _ _ _ _ _ _ z; exact z.elim) :
    PE X (.Call (.Name x p) [] kws pos) (tKw ks.length sp g E0 tk) := by
  obtain ⟨f, fd, F, hm, hkp, hb⟩ := c.ex
  exact callKw F R.gd (R.room.mono hk) hm hkp hb (hx _) hkw hg hall hks hdb hpl
theorem bt_repr : bootBuiltins "repr" = some (.builtin "repr") := by decide +kernel
/-- repr(e) -/
theorem crepr (R : Rdy j X) (hm : X.mg ("repr" : Str) = none) (ha : PA X [e] t) (hg : Gl X "repr" := by rfl)
    (he : starEach [e] X.env = (false, eval e X.env) :: starEach [] X.env := by rfl) (hpl : (backTo pos (starEach [] X.env)).any (·.1) = false := by rfl) :
    PE X (.Call (.Name "repr" p) [e] [] pos) (tCB rRepr t) :=
  pe_callB (call_reprA R.gd R.room R.sys) hg hm bt_repr ha (by decide) (by decide) he hpl
end
section
variable {K : PySem.W.Frag} {x qual : Str} {params : Arguments} {body : List Stmt} {scope : Scope} {f : Addr} {fd : FuncData} {kws : List (Str × V)}
theorem kwTo {ps ks : List Str} {g : ∀ {α : Type}, List α → List α} (F : FunD K x qual params body scope [] kws f fd)
    (h : ∀ (kV doc pm : Value) (an : Option Addr) (cdv ct : Value) (ws : List Value), ws.length = ks.length →
      bindArgs (PySem.W.fnOf x qual params body scope .none kV doc pm an cdv ct) ⟨[], ks.zip ws⟩ = pure (ps.zip (g ws)))
    (rel : ∀ {zs : List V} {ws : List Value}, Vals zs ws → Vals (g zs) (g ws)) : KwTo K fd ps ks g := by
  obtain ⟨oc, od, dV, kV, doc, pm, an, cdv, ct, osl, rfl, lk, hcd, hd, _⟩ := F.ex
  rcases hd with ⟨_, rfl⟩ | ⟨z, _⟩
  · exact ⟨fun s ws _ hl => .of_eq (h kV doc pm an cdv ct ws hl), rel⟩
  · exact absurd rfl z
end
end FA
end

/-! G4 -/
section
namespace FA
open PySem PySem.Spec PyProof.Rows L2

theorem bt_isinstance : bootBuiltins "isinstance" = some (.builtin "isinstance") := by decide +kernel
theorem bt_len : bootBuiltins "len" = some (.builtin "len") := by decide +kernel
theorem bt_all : bootBuiltins "all" = some (.builtin "all") := by decide +kernel
theorem bt_any : bootBuiltins "any" = some (.builtin "any") := by decide +kernel
theorem bt_abs : bootBuiltins "abs" = some (.builtin "abs") := by decide +kernel
theorem bt_min : bootBuiltins "min" = some (.builtin "min") := by decide +kernel
theorem bt_max : bootBuiltins "max" = some (.builtin "max") := by decide +kernel
theorem bt_str : bootBuiltins "str" = some (.type "str") := by decide +kernel
theorem bt_int : bootBuiltins "int" = some (.type "int") := by decide +kernel
theorem bt_bool : bootBuiltins "bool" = some (.type "bool") := by decide +kernel
theorem bt_list : bootBuiltins "list" = some (.type "list") := by decide +kernel
theorem bt_tuple : bootBuiltins "tuple" = some (.type "tuple") := by decide +kernel
theorem bt_dict : bootBuiltins "dict" = some (.type "dict") := by decide +kernel
theorem bt_range : bootBuiltins "range" = some (.type "range") := by decide +kernel
section
variable {X : Cx}
/-! operators for values of any kind that meet -/
theorem opMulStr : OpR X (binaryOp .Mult) (fun x y H Q => ∃ z k, x = .str z ∧ y = .int k ∧ PySem.MulOk z k ∧ Q (.str (Txt.mul z k)) H) := by
  intro pins s σ H x y u v Q I r1 r2 h
  obtain ⟨z, k, rfl, rfl, hz, q⟩ := h
  obtain ⟨t1, rfl⟩ : ∃ t, u = .str z t := r1
  obtain ⟨t2, rfl⟩ : ∃ t, v = .int k t := r2
  exact PySem.SB.mul hz fun t k => ⟨.str _, H, I.tok _, ⟨_, rfl⟩, q⟩
abbrev rAddA : R2 := fun x y H Q => (rI0 (fun i j => .int (i + j)) x y H Q ∨
    (∃ i j, x = .str i ∧ y = .str j ∧ i.length + j.length ≤ sizeLine ∧ Q (.str (i ++ j)) H)) ∨ rCat x y H Q
theorem opAdd : OpR X (binaryOp .Add) rAddA := OpR.or (OpR.or op_add op_add_str) op_cat
abbrev rMulA : R2 := fun x y H Q => (rI CMul (fun i j => .int (i * j)) x y H Q ∨ rRep x y H Q) ∨
    ∃ z k, x = .str z ∧ y = .int k ∧ PySem.MulOk z k ∧ Q (.str (Txt.mul z k)) H
theorem opMul : OpR X (binaryOp .Mult) rMulA := OpR.or (OpR.or op_mul op_rep) opMulStr
abbrev rLtA : R2 := fun x y H Q => rI0 (fun i j => .bl (decide (i < j))) x y H Q ∨
    ∃ i j, x = .str i ∧ y = .str j ∧ Q (.bl (decide (i.cps.toList < j.cps.toList))) H
theorem opLt : OpR X (compareOp .Lt) rLtA := OpR.or op_lt op_lt_str
abbrev rLeA : R2 := fun x y H Q => rI0 (fun i j => .bl (decide (i ≤ j))) x y H Q ∨
    ∃ i j, x = .str i ∧ y = .str j ∧ Q (.bl (!decide (j.cps.toList < i.cps.toList))) H
theorem opLe : OpR X (compareOp .LtE) rLeA := OpR.or op_le op_le_str
abbrev rGeA : R2 := rI0 fun i j => .bl (decide (j ≤ i))
abbrev rGtA : R2 := rI0 fun i j => .bl (decide (j < i))
abbrev rSubA : R2 := rI0 fun i j => .int (i - j)
abbrev rModA : R2 := rI (fun _ j => 0 < j) fun i j => .int (i % j)
abbrev rDivA : R2 := rI CDivW fun i j => .int (i / j)
abbrev rPowA : R2 := rI CPow fun i j => .int (i ^ j.toNat)
abbrev rIsN : R2 := fun x y H Q => y = .non ∧ Q (.bl (decide (x = .non))) H
abbrev rNotN : R2 := fun x y H Q => y = .non ∧ Q (.bl (!decide (x = .non))) H
abbrev rIxA (K : PySem.W.Frag) : R2 := fun x y H Q => rIxL K x y H Q ∨ rIxT K x y H Q ∨ rIxS x y H Q
theorem ixAny : IxR X (rIxA X.K) := ix_seq
abbrev rSlA (K : PySem.W.Frag) : V → Option Int → Option Int → Hp → VK → Prop := fun x lo hi H Q => rSlL K x lo hi H Q ∨ rSlS x lo hi H Q
theorem slAny : SlR X (rSlA X.K) := SlR.or sl_list sl_str
abbrev rLenA (K : PySem.W.Frag) : List V → Hp → VK → Prop := fun xs H Q => (∃ p ys, xs = [.ref p] ∧ (SqL K H p ys ∨ SqT K H p ys) ∧ Q (.int ys.length) H) ∨
    ∃ z, xs = [.str z] ∧ z.length ≤ sizeLine ∧ Q (.int z.length) H
abbrev rListOf (K : PySem.W.Frag) : List V → Hp → VK → Prop := fun xs H Q => ∃ p ys, xs = [.ref p] ∧ (SqL K H p ys ∨ SqT K H p ys) ∧ ∀ l, H l = none → Q (.ref l) (upd H l (.lst ys))
abbrev rAbs : List V → Hp → VK → Prop := fun xs H Q => ∃ i, xs = [.int i] ∧ Q (.int (if i < 0 then -i else i)) H
theorem call_lenA : CallR X (.builtin "len") (rLenA X.K) := CallR.or call_len_seq call_len_str

/-- a comprehension of one name -/
theorem pe_lc1 (i : Nat) {x : Str} {p : Pos} {elt iter : Expr} {ifs : List Expr} {scope : Scope} {pos : Pos} {wi : TI} {tt : TT} {te : TE}
    (hc : X.calm = true) (hN : X.N.Nodup) (hi : PI X (.Name x p) iter wi) (ok : blkC X.N X.env.scope scope [(x, i)] = true)
    (hg : ∀ (s : Shared) (H : Hp) (C : Addr) (cl : List (Str × Addr)) (fp : List Addr), PG (X.blk s H scope (compEnvC scope cl C X.env) fp) (.Name x p) (gName i))
    (ht : ∀ (s : Shared) (H : Hp) (C : Addr) (cl : List (Str × Addr)) (fp : List Addr), PTs (X.blk s H scope (compEnvC scope cl C X.env) fp) ifs tt)
    (he : ∀ (s : Shared) (H : Hp) (C : Addr) (cl : List (Str × Addr)) (fp : List Addr), PE (X.blk s H scope (compEnvC scope cl C X.env) fp) elt te)
    (hs : ∀ z, foldedSetIterable iter X.env z = pure z := by intro _; rfl) :
    PE X (.ListComp elt [⟨.Name x p, iter, ifs, 0⟩] scope pos) (tLc wi (gName i) tt te [i]) :=
  pe_lc (own := [(x, i)]) hc hN hi (blkOk_by ok) hg ht he hs
end
end FA
end

/-! G5 -/
section
namespace FA
open PySem PySem.Spec PyProof.Rows L2
/-! the mathematics -/
def okc (c : Nat) : Bool := decide (97 ≤ c) && decide (c ≤ 122)
theorem lt1 (a b : Nat) : decide (([a] : List Nat) < [b]) = decide (a < b) := by
  by_cases h : a < b
  · rw [decide_eq_true h]
    exact decide_eq_true (List.cons_lt_cons_iff.mpr (Or.inl h))
  · rw [decide_eq_false h]
    refine decide_eq_false fun q => ?_
    rcases List.cons_lt_cons_iff.mp q with q | ⟨_, q⟩
    · exact h q
    · exact List.not_lt_nil _ q
theorem sgn_a : (Str.ofString "a").cps.toList = [97] := by decide
theorem sgn_z : (Str.ofString "z").cps.toList = [122] := by decide
theorem same_new {H : Hp} {p : Addr} (h : H p = none) (o : HO) : Same H (upd H p o) := fun b u q => by rw [upd_ne (ne_of_none q h)]; exact q
theorem same_mut {H H1 : Hp} {p : Addr} {o : HO} (s : Same H H1) (h : H p = none) : Same H (upd H1 p o) := fun b u q => by rw [upd_ne (ne_of_none q h)]; exact s b u q
def lower (z : Str) : Bool := z.cps.toList.all okc
def nameS (z : Str) : Bool := decide (1 ≤ z.length) && decide (z.length ≤ 8) && lower z
def isName : PyData → Bool
  | .str z => nameS z
  | _ => false
def isNum : PyData → Bool
  | .int i => decide (-(10 ^ 12) ≤ i) && decide (i ≤ 10 ^ 12)
  | _ => false
def isVal (d : PyData) : Bool := match d with
  | .none => true
  | d => isNum d || isName d
def isStr : PyData → Bool
  | .str _ => true
  | _ => false


section
variable {K : PySem.W.Frag}
def tyN : PyData → String
  | .none => "NoneType"
  | .bool _ => "bool"
  | .int _ => "int"
  | .str _ => "str"
  | .list _ => "list"
  | .tuple _ => "tuple"
  | .dict _ => "dict"
theorem ty_dat {H : Hp} {d : PyData} {v : V} (h : Dat H d v) : TyX K H v (.type (tyN d)) := by
  cases d with
  | none => simp only [Dat] at h; subst h; exact .base .non
  | bool x => simp only [Dat] at h; subst h; exact .base (.bl x)
  | int i => simp only [Dat] at h; subst h; exact .base (.int i)
  | str x => simp only [Dat] at h; subst h; exact .base (.str x)
  | list ds => simp only [Dat] at h; obtain ⟨a, xs, rfl, e, _⟩ := h; exact .base (.lst e)
  | tuple ds => simp only [Dat] at h; obtain ⟨a, xs, rfl, e, _⟩ := h; exact .base (.tup e)
  | dict kvs => simp only [Dat] at h; obtain ⟨a, xs, rfl, e, _⟩ := h; exact .base (.dK e)
theorem kit_str (d : PyData) : PySem.W.kitOne K (.type (tyN d)) (.type "str") = some (isStr d) := by
  cases d <;> exact kit_ty (by simp only [tyN, isStr]; decide +kernel)
def isInt : PyData → Bool
  | .int _ => true
  | .bool _ => true
  | _ => false
def isBool : PyData → Bool
  | .bool _ => true
  | _ => false
theorem kit_int (d : PyData) : PySem.W.kitOne K (.type (tyN d)) (.type "int") = some (isInt d) := by
  cases d <;> exact kit_ty (by simp only [tyN, isInt]; decide +kernel)
theorem kit_bool (d : PyData) : PySem.W.kitOne K (.type (tyN d)) (.type "bool") = some (isBool d) := by
  cases d <;> exact kit_ty (by simp only [tyN, isBool]; decide +kernel)
theorem dat_non {H : Hp} {d : PyData} {v : V} (h : Dat H d v) : decide (v = .non) = (match d with | .none => true | _ => false) := by
  cases d with
  | none => simp only [Dat] at h; subst h; rfl
  | bool x => simp only [Dat] at h; subst h; rfl
  | int i => simp only [Dat] at h; subst h; rfl
  | str x => simp only [Dat] at h; subst h; rfl
  | list ds => simp only [Dat] at h; obtain ⟨a, xs, rfl, e, _⟩ := h; rfl
  | tuple ds => simp only [Dat] at h; obtain ⟨a, xs, rfl, e, _⟩ := h; rfl
  | dict kvs => simp only [Dat] at h; obtain ⟨a, xs, rfl, e, _⟩ := h; rfl
mutual
theorem dat_same {H H' : Hp} (s : Same H H') : ∀ (d : PyData) (v : V), Dat H d v → Dat H' d v
  | .none, v, h => by simp only [Dat] at h ⊢; exact h
  | .bool _, v, h => by simp only [Dat] at h ⊢; exact h
  | .int _, v, h => by simp only [Dat] at h ⊢; exact h
  | .str _, v, h => by simp only [Dat] at h ⊢; exact h
  | .list ds, v, h => by
    simp only [Dat] at h ⊢
    obtain ⟨a, xs, e, ha, hd⟩ := h
    exact ⟨a, xs, e, s _ _ ha, datAll_same s ds xs hd⟩
  | .tuple ds, v, h => by
    simp only [Dat] at h ⊢
    obtain ⟨a, xs, e, ha, hd⟩ := h
    exact ⟨a, xs, e, s _ _ ha, datAll_same s ds xs hd⟩
  | .dict kvs, v, h => by
    simp only [Dat] at h ⊢
    obtain ⟨a, xs, e, ha, hd⟩ := h
    exact ⟨a, xs, e, s _ _ ha, datKv_same s kvs xs hd⟩
theorem datAll_same {H H' : Hp} (s : Same H H') : ∀ (ds : List PyData) (xs : List V), DatAll H ds xs → DatAll H' ds xs
  | [], xs, h => by simp only [DatAll] at h ⊢; exact h
  | d :: ds, xs, h => by
    simp only [DatAll] at h ⊢
    obtain ⟨y, ys, e, h1, h2⟩ := h
    exact ⟨y, ys, e, dat_same s d y h1, datAll_same s ds ys h2⟩
theorem datKv_same {H H' : Hp} (s : Same H H') : ∀ (ds : List (PyData × PyData)) (xs : List (Key × V)), DatKv H ds xs → DatKv H' ds xs
  | [], xs, h => by simp only [DatKv] at h ⊢; exact h
  | (k, d) :: ds, xs, h => by
    simp only [DatKv] at h ⊢
    obtain ⟨c, y, ys, e, ek, h1, h2⟩ := h
    exact ⟨c, y, ys, e, ek, dat_same s d y h1, datKv_same s ds ys h2⟩
end

end

/-- the built-ins stand as they are -/
structure Blt (mg : Str → Option Value) : Prop where
  isinstance : mg "isinstance" = none
  len : mg "len" = none
  all : mg "all" = none
  abs : mg "abs" = none
  repr : mg "repr" = none
  str : mg "str" = none
  int : mg "int" = none
  bool : mg "bool" = none
  list : mg "list" = none
  tuple : mg "tuple" = none
  range : mg "range" = none

/-! data of no great size -/
structure Okd (D W : Nat) (x : PyData) : Prop where
  sh : x.showable = true
  lv : x.leavesShort 60 = true
  dp : x.depth ≤ D
  wt : x.weight ≤ W
  low : ∀ z, x = .str z → ∀ c ∈ z.cps.toList, c < 128
theorem Okd.len {D W : Nat} {x : PyData} (h : Okd D W x) : x.shown.length ≤ 62 * W + 60 := by
  have q := PyData.shown_le 60 (by decide) x h.lv
  have w := Nat.mul_le_mul_left 62 h.wt
  omega
theorem Okd.fits {D W : Nat} {x : PyData} (h : Okd D W x) (hW : W ≤ 270000) : x.shown.length ≤ sizeLine := by
  have q := h.len
  rw [sizeLine_eq]
  omega
theorem Okd.mono {D W D' W' : Nat} {x : PyData} (h : Okd D W x) (hD : D ≤ D') (hW : W ≤ W') : Okd D' W' x := ⟨h.sh, h.lv, Nat.le_trans h.dp hD, Nat.le_trans h.wt hW, h.low⟩
theorem okd_non {D W : Nat} : Okd D W .none := ⟨rfl, rfl, by simp [PyData.depth], by simp [PyData.weight], fun _ h => nomatch h⟩
theorem okd_bool {D W : Nat} {b : Bool} : Okd D W (.bool b) := ⟨rfl, rfl, by simp [PyData.depth], by simp [PyData.weight], fun _ h => nomatch h⟩
def Low (z : Str) : Prop := ∀ c ∈ z.cps.toList, c < 128
theorem okd_str {D W : Nat} {z : Str} (h : Low z) (hW : z.length ≤ W) : Okd D W (.str z) := by
  refine ⟨rfl, ?_, by simp [PyData.depth], ?_, fun y e => by cases e; exact h⟩
  · simp only [PyData.leavesShort, List.all_eq_true, decide_eq_true_eq]
    intro c hc
    exact Nat.lt_of_lt_of_le (h c hc) (by decide)
  · simp only [PyData.weight]
    exact hW
theorem Okd.strLen {D W : Nat} {z : Str} (h : Okd D W (.str z)) : z.length ≤ W := by
  have q := h.wt
  simp only [PyData.weight] at q
  exact q
end FA
end

/-! G6 -/
section
namespace FA
open PySem PySem.Spec PyProof.Rows L2

theorem okd_int {D W : Nat} {i : Int} (h : i.natAbs < 10 ^ 40) (hW : 140 ≤ W) : Okd D W (.int i) := by
  have hl : i.natAbs.log2 < 133 := by
    by_cases z : i.natAbs = 0
    · rw [z]; decide
    · exact (Nat.log2_lt z).mpr (Nat.lt_of_lt_of_le h (by decide))
  refine ⟨?_, ?_, by simp [PyData.depth], ?_, fun _ h => nomatch h⟩
  · simp only [PyData.showable, decide_eq_true_eq]
    omega
  · simp only [PyData.leavesShort, decide_eq_true_eq]
    have e := int_text_length_le10 (k := 40) (by decide) h
    have e2 : (PyData.shown (.int i)).length = (toString i).length := by
      show (Str.ofString (toString i)).length = _
      rw [PySem.ofString_length]
      try rfl
    rw [e2]
    omega
  · simp only [PyData.weight]
    split <;> omega
/-- lists, tuples of such -/
structure Oks (D W : Nat) (xs : List PyData) : Prop where
  sh : PyData.showableAll xs = true
  lv : PyData.leavesShortAll 60 xs = true
  dp : PyData.depthAll xs ≤ D
  wt : PyData.weightAll xs ≤ W
theorem oks_nil {D W : Nat} : Oks D W [] := ⟨rfl, rfl, by simp [PyData.depthAll], by simp [PyData.weightAll]⟩
theorem oks_cons {D W V : Nat} {x : PyData} {xs : List PyData} (h : Okd D W x) (r : Oks D V xs) : Oks D (W + 1 + V) (x :: xs) := by
  refine ⟨?_, ?_, ?_, ?_⟩
  · simp only [PyData.showableAll, h.sh, r.sh, Bool.and_self]
  · simp only [PyData.leavesShortAll, h.lv, r.lv, Bool.and_self]
  · simp only [PyData.depthAll]
    exact Nat.max_le.mpr ⟨h.dp, r.dp⟩
  · simp only [PyData.weightAll]
    have := h.wt
    have := r.wt
    omega
theorem Oks.mono {D W D' W' : Nat} {x : List PyData} (h : Oks D W x) (hD : D ≤ D') (hW : W ≤ W') : Oks D' W' x := ⟨h.sh, h.lv, Nat.le_trans h.dp hD, Nat.le_trans h.wt hW⟩
theorem oks_all {D W : Nat} : ∀ {xs : List PyData}, (∀ x ∈ xs, Okd D W x) → Oks D ((W + 1) * xs.length) xs
  | [], _ => oks_nil
  | x :: xs, h => by
    have r := oks_all (xs := xs) (fun y hy => h y (List.mem_cons_of_mem _ hy))
    refine (oks_cons (h x List.mem_cons_self) r).mono (Nat.le_refl _) ?_
    rw [List.length_cons, Nat.mul_add, Nat.mul_one]
    omega
theorem okd_list {D W : Nat} {xs : List PyData} (h : Oks D W xs) : Okd (D + 1) W (.list xs) := by
  refine ⟨by simpa [PyData.showable] using h.sh, by simpa [PyData.leavesShort] using h.lv, ?_, ?_, fun _ h => nomatch h⟩
  · simp only [PyData.depth]
    exact Nat.succ_le_succ h.dp
  · simp only [PyData.weight]
    exact h.wt
theorem okd_tuple {D W : Nat} {xs : List PyData} (h : Oks D W xs) : Okd (D + 1) W (.tuple xs) := by
  refine ⟨by simpa [PyData.showable] using h.sh, by simpa [PyData.leavesShort] using h.lv, ?_, ?_, fun _ h => nomatch h⟩
  · simp only [PyData.depth]
    exact Nat.succ_le_succ h.dp
  · simp only [PyData.weight]
    exact h.wt
theorem okd_dict0 {D W : Nat} : Okd (D + 1) W (.dict []) := ⟨rfl, rfl, by simp [PyData.depth, PyData.depthKv], by simp [PyData.weight, PyData.weightKv], fun _ h => nomatch h⟩
theorem okd_dict1 {D W V : Nat} {k x : PyData} (hk : Okd D W k) (h : Okd D V x) : Okd (D + 1) (W + V + 2) (.dict [(k, x)]) := by
  refine ⟨?_, ?_, ?_, ?_, fun _ h => nomatch h⟩
  · simp only [PyData.showable, PyData.showableKv, hk.sh, h.sh, Bool.and_self]
  · simp only [PyData.leavesShort, PyData.leavesShortKv, hk.lv, h.lv, Bool.and_self]
  · simp only [PyData.depth, PyData.depthKv]
    exact Nat.succ_le_succ (Nat.max_le.mpr ⟨Nat.max_le.mpr ⟨hk.dp, h.dp⟩, Nat.zero_le _⟩)
  · simp only [PyData.weight, PyData.weightKv]
    have := h.wt
    have := hk.wt
    omega

/-! the deck and what stands beside it -/
def hid (d c : Addr) (H : Hp) : Hp := fun b => if b = d ∨ b = c then none else H b
theorem hid_ne {d c b : Addr} {H : Hp} (h1 : b ≠ d) (h2 : b ≠ c) : hid d c H b = H b := if_neg (by rintro (z | z); exact h1 z; exact h2 z)
theorem hid_some {d c b : Addr} {H : Hp} {o : HO} (h : hid d c H b = some o) : b ≠ d ∧ b ≠ c ∧ H b = some o := by
  unfold hid at h
  by_cases z : b = d ∨ b = c
  · rw [if_pos z] at h; cases h
  · rw [if_neg z] at h
    exact ⟨fun e => z (Or.inl e), fun e => z (Or.inr e), h⟩
theorem hid_sub {d c : Addr} {H : Hp} : Same (hid d c H) H := fun b o h => (hid_some h).2.2
theorem hid_same {d c : Addr} {H H' : Hp} (s : Same H H') : Same (hid d c H) (hid d c H') := fun b o h => by
  obtain ⟨h1, h2, h3⟩ := hid_some h
  rw [hid_ne h1 h2]
  exact s b o h3
/-- only d or c is written -/
theorem hid_upd {d c a : Addr} {H : Hp} {o : HO} (h : a = d ∨ a = c) : hid d c (upd H a o) = hid d c H := by
  funext b
  unfold hid
  by_cases z : b = d ∨ b = c
  · rw [if_pos z, if_pos z]
  · rw [if_neg z, if_neg z]
    exact upd_ne fun e => z (by rw [e]; exact h)
theorem hid_at {d c p : Addr} {H : Hp} {o : HO} (h1 : p ≠ d) (h2 : p ≠ c) : hid d c (upd H p o) p = some o := by
  rw [hid_ne h1 h2, upd_same]

def deckKvs (c : Addr) (t n : Int) : List (Key × V) := [(.inr "cells", .ref c), (.inr "total", .int t), (.inr "draws", .int n)]
/-- a deck at d, its cells at c, at most n draws so far -/
structure Deck (H : Hp) (d c : Addr) (n : Nat) : Prop where
  is : ∃ (t m : Int) (cs : List Int), H d = some (.dK (deckKvs c t m)) ∧ H c = some (.lst (cs.map V.int)) ∧ cs.length ≤ 63 ∧ 0 ≤ m ∧ m ≤ n
theorem Deck.same {H H' : Hp} {d c : Addr} {n : Nat} (D : Deck H d c n) (s : Same H H') : Deck H' d c n := by
  obtain ⟨t, m, cs, h1, h2, h⟩ := D.is
  exact ⟨t, m, cs, s _ _ h1, s _ _ h2, h⟩
theorem Deck.mono {H : Hp} {d c : Addr} {n k : Nat} (D : Deck H d c n) (h : n ≤ k) : Deck H d c k := by
  obtain ⟨t, m, cs, h1, h2, h3, h4, h5⟩ := D.is
  exact ⟨t, m, cs, h1, h2, h3, h4, by omega⟩
theorem Deck.ne {H : Hp} {d c p : Addr} {n : Nat} (D : Deck H d c n) (h : H p = none) : p ≠ d ∧ p ≠ c := by
  obtain ⟨t, m, cs, h1, h2, _⟩ := D.is
  exact ⟨fun e => (by rw [e, h1] at h; cases h), fun e => (by rw [e, h2] at h; cases h)⟩
theorem Deck.dc {H : Hp} {d c : Addr} {n : Nat} (D : Deck H d c n) : d ≠ c := by
  obtain ⟨t, m, cs, h1, h2, _⟩ := D.is
  exact ne_of h1 h2 (by intro z; cases z)
/-- a draw's promise -/
def spDraw : Sp := fun vs H Q _ => ∃ (d c : Addr) (n : Nat) (m : Int), vs = [.ref d, .int m] ∧ Deck H d c n ∧ n ≤ 1000000 ∧ 0 < m ∧ m.natAbs < 2 ^ 64 ∧
  ∀ r H', 0 ≤ r → r < m → Deck H' d c (n + 1) → Same (hid d c H) (hid d c H') → Q (.int r) H'
/-- a pick's: of a list, of a text -/
def spPick : Sp := fun vs H Q _ => ∃ (d c : Addr) (n : Nat) (u : V), vs = [.ref d, u] ∧ Deck H d c n ∧ n ≤ 1000000 ∧
  ((∃ a xs, u = .ref a ∧ hid d c H a = some (.lst xs) ∧ 0 < xs.length ∧ xs.length ≤ 1000000 ∧
      ∀ (j : Nat) x H', xs[j]? = some x → Deck H' d c (n + 1) → Same (hid d c H) (hid d c H') → Q x H') ∨
   (∃ z, u = .str z ∧ 0 < z.length ∧ z.length ≤ 1000000 ∧
      ∀ k H', k ∈ z.cps.toList → Deck H' d c (n + 1) → Same (hid d c H) (hid d c H') → Q (.str ⟨#[k]⟩) H'))
end FA
namespace FA
open PySem PySem.Spec PyProof.Rows L2
theorem emb (a : Int) {m : Int} (h : 0 < m) (h2 : m < 2 ^ 64) : -(2 ^ 64) < a % m ∧ a % m < 2 ^ 64 := by
  have h0 := Int.emod_nonneg a (Int.ne_of_gt h)
  have h1 := Int.emod_lt_of_pos a h
  omega
theorem dk_cells {c : Addr} {t n : Int} : valV (deckKvs c t n) (Sum.inr "cells") = some (.ref c) := by kernel_rfl
theorem dk_total {c : Addr} {t n : Int} : valV (deckKvs c t n) (Sum.inr "total") = some (.int t) := by kernel_rfl
theorem dk_draws {c : Addr} {t n : Int} : valV (deckKvs c t n) (Sum.inr "draws") = some (.int n) := by kernel_rfl
theorem dk_put {c : Addr} {t n k : Int} : putK (deckKvs c t n) (Sum.inr "draws") (.int k) = deckKvs c t k := by kernel_rfl
theorem dk_merge {c : Addr} {t n : Int} : mergeK [] (deckKvs c t n) = deckKvs c t n := by kernel_rfl
theorem dg_cells {H : Hp} {d c : Addr} {t n : Int} (h : H d = some (.dK (deckKvs c t n))) : DGet H d (.str "cells") (some (.ref c)) := by
  have z := DGet.k (k := Sum.inr "cells") h
  rw [dk_cells] at z
  exact z
theorem dg_total {H : Hp} {d c : Addr} {t n : Int} (h : H d = some (.dK (deckKvs c t n))) : DGet H d (.str "total") (some (.int t)) := by
  have z := DGet.k (k := Sum.inr "total") h
  rw [dk_total] at z
  exact z
theorem dg_draws {H : Hp} {d c : Addr} {t n : Int} (h : H d = some (.dK (deckKvs c t n))) : DGet H d (.str "draws") (some (.int n)) := by
  have z := DGet.k (k := Sum.inr "draws") h
  rw [dk_draws] at z
  exact z
theorem dp_draws {H : Hp} {d c : Addr} {t n k : Int} (h : H d = some (.dK (deckKvs c t n))) : DPut H d (.str "draws") (.int k) (upd H d (.dK (deckKvs c t k))) := by
  have z := DPut.k (k := Sum.inr "draws") (v := .int k) h (by show 3 < sizeLine; decide)
  rw [dk_put] at z
  exact z
theorem ints_canLay : ∀ cs : List Int, PyData.canLayAll0 (cs.map PyData.int) = true
  | [] => rfl
  | c :: r => by
    have := ints_canLay r
    simp only [List.map_cons, PyData.canLayAll0, this, Bool.and_true]
    rfl
theorem ints_depth : ∀ cs : List Int, PyData.depthAll (cs.map PyData.int) = 0
  | [] => rfl
  | c :: r => by
    simp only [List.map_cons, PyData.depthAll, ints_depth r, PyData.depth, Nat.max_self]
theorem ints_shaped (cs : List Int) : SeqAt.shaped (.list (cs.map PyData.int)) = true := by
  unfold SeqAt.shaped
  rw [Bool.and_eq_true]
  refine ⟨?_, decide_eq_true ?_⟩
  · simp only [PyData.canLay0, ints_canLay]
  · simp only [PyData.depth, ints_depth]
    decide
theorem ints_dp {K : PySem.W.Frag} {H : Hp} : ∀ cs : List Int, DpAll K H (cs.map V.int) (cs.map PyData.int)
  | [] => .nil
  | c :: r => .cons (.int c) (ints_dp r)
end FA
end

/-! G7 -/
section
namespace FA
open PySem PySem.Spec PyProof.Rows L2

theorem low_of {z : Str} (h : z.cps.toList.all (fun c => decide (c < 128)) = true) : Low z := fun c hc => of_decide_eq_true (List.all_eq_true.mp h c hc)
theorem low_app {x y : Str} (hx : Low x) (hy : Low y) : Low (x ++ y) := by
  intro c hc
  rw [Str.cps_append, Array.toList_append] at hc
  rcases List.mem_append.mp hc with h | h
  · exact hx c h
  · exact hy c h
theorem low_join {s : Str} (hs : Low s) : ∀ {zs : List Str}, (∀ z ∈ zs, Low z) → Low (Str.join s zs)
  | [], _ => fun c hc => by simp [Str.join, Str.empty] at hc
  | [x], h => h x List.mem_cons_self
  | x :: y :: r, h => low_app (low_app (h x List.mem_cons_self) hs) (low_join hs fun z hz => h z (List.mem_cons_of_mem _ hz))
theorem low_cut {z : Str} (h : Low z) (lo hi : Option Int) : Low (cutS z lo hi) := by
  intro c hc
  unfold cutS at hc
  exact h c (List.mem_of_mem_drop (List.mem_of_mem_take (by simpa using hc)))
theorem low_one {z : Str} {k : Nat} (h : Low z) (hk : k ∈ z.cps.toList) : Low ⟨#[k]⟩ := by
  intro c hc
  have : c = k := by simpa using hc
  subst this
  exact h c hk
theorem cut_le (z : Str) (lo hi : Option Int) : (cutS z lo hi).length ≤ z.length := by
  unfold cutS
  show (List.toArray _).size ≤ z.cps.size
  rw [List.size_toArray, List.length_take, List.length_drop, Array.length_toList]
  omega
theorem cut_8 (z : Str) : (cutS z none (some 8)).length ≤ 8 := by
  unfold cutS
  show (List.toArray _).size ≤ 8
  rw [List.size_toArray, List.length_take]
  have e : HT.sIx z.length z.length (some 8) = min 8 z.length := HT.sIx_nat z.length z.length 8
  rw [e]
  omega
theorem hid_mut {d c p : Addr} {H H1 : Hp} {o : HO} (s : Same (hid d c H) (hid d c H1)) (h : H p = none) (h1 : p ≠ d) (h2 : p ≠ c) : Same (hid d c H) (hid d c (upd H1 p o)) := by
  intro b u hb
  obtain ⟨a1, a2, a3⟩ := hid_some hb
  have bp : b ≠ p := ne_of_none a3 h
  rw [hid_ne a1 a2, upd_ne bp, ← hid_ne a1 a2 (H := H1)]
  exact s b u hb
theorem Deck.upd {H : Hp} {d c p : Addr} {n : Nat} {o : HO} (D : Deck H d c n) (h1 : p ≠ d) (h2 : p ≠ c) : Deck (L2.upd H p o) d c n := by
  obtain ⟨t, m, cs, e1, e2, h⟩ := D.is
  exact ⟨t, m, cs, by rw [upd_ne h1.symm]; exact e1, by rw [upd_ne h2.symm]; exact e2, h⟩
end FA
namespace FA
open PySem PySem.Spec PyProof.Rows L2
theorem mem_rep {a : Array Nat} {c : Nat} : ∀ (k : Nat) (acc : Array Nat), c ∈ (((List.replicate k a).foldl (· ++ ·) acc).toList) → c ∈ acc.toList ∨ c ∈ a.toList
  | 0, acc, h => Or.inl h
  | k + 1, acc, h => by
    rw [List.replicate_succ, List.foldl_cons] at h
    rcases mem_rep k (acc ++ a) h with h | h
    · rw [Array.toList_append] at h
      exact (List.mem_append.mp h)
    · exact Or.inr h
theorem low_mul {z : Str} (h : Low z) (n : Int) : Low (Txt.mul z n) := by
  intro c hc
  unfold Txt.mul at hc
  split at hc
  · simp [Str.empty] at hc
  · split at hc
    · exact h c hc
    · rcases mem_rep _ _ hc with q | q
      · simp at q
      · exact h c q
theorem mul_ok {z : Str} {n : Int} (hz : z.length ≤ 100) (h0 : 0 < n) (h1 : n ≤ 10000) : PySem.MulOk z n := by
  refine ⟨?_, fun _ _ => ?_, fun _ _ => ?_⟩
  · rw [decide_eq_false (by omega), decide_eq_false (by omega)]
    rfl
  · have : 100 ≤ (2 ^ 63 - 1) / n := by
      refine Int.le_ediv_of_mul_le h0 ?_
      omega
    omega
  · have h2 : n.toNat ≤ 10000 := by omega
    have : z.length * n.toNat ≤ 100 * 10000 := Nat.mul_le_mul hz h2
    have e : Builtin.Str.tooLong (z.length * n.toNat) = false := by
      unfold Builtin.Str.tooLong
      exact decide_eq_false (by rw [sizeLine_eq]; omega)
    exact e
/-- what has come since H -/
def frs (H H' : Hp) : Hp := fun b => match H b with
  | none => H' b
  | some _ => none
theorem frs_new {H H' : Hp} {b : Addr} (h : H b = none) : frs H H' b = H' b := by
  unfold frs
  rw [h]
theorem frs_some {H H' : Hp} {b : Addr} {o : HO} (h : frs H H' b = some o) : H b = none ∧ H' b = some o := by
  unfold frs at h
  cases e : H b with
  | none => rw [e] at h; exact ⟨rfl, h⟩
  | some u => rw [e] at h; cases h
/-- all that was tracked still is -/
def Dm (H H' : Hp) : Prop := ∀ b, H' b = none → H b = none
theorem dm_same {H H' : Hp} (s : Same H H') : Dm H H' := fun b h => s.free h
theorem dm_of {H H' : Hp} {d c : Addr} {n : Nat} (D : Deck H' d c n) (s : Same (hid d c H) (hid d c H')) : Dm H H' := fun b h => by
  obtain ⟨h1, h2⟩ := D.ne h
  have q := s.free (l := b) (by rw [hid_ne h1 h2]; exact h)
  rw [hid_ne h1 h2] at q
  exact q
theorem Dm.trans {H H1 H2 : Hp} (a : Dm H H1) (b : Dm H1 H2) : Dm H H2 := fun x h => a x (b x h)
theorem frs_sub {H H' : Hp} : Same (frs H H') H' := fun b o h => (frs_some h).2
theorem frs_back {H0 H H' : Hp} (m : Dm H0 H) : Same (frs H H') (frs H0 H') := fun b o h => by
  obtain ⟨h1, h2⟩ := frs_some h
  rw [frs_new (m b h1)]
  exact h2
theorem frs_on {H H1 H2 : Hp} {d c : Addr} {n : Nat} (D : Deck H d c n) (s : Same (hid d c H1) (hid d c H2)) : Same (frs H H1) (frs H H2) := fun b o h => by
  obtain ⟨h1, h2⟩ := frs_some h
  obtain ⟨a1, a2⟩ := D.ne h1
  rw [frs_new h1, ← hid_ne a1 a2 (H := H2)]
  exact s b o (by rw [hid_ne a1 a2]; exact h2)
theorem frs_hid {H H' : Hp} {d c : Addr} {n : Nat} (D : Deck H d c n) : Same (frs H H') (hid d c H') := fun b o h => by
  obtain ⟨h1, h2⟩ := frs_some h
  obtain ⟨a1, a2⟩ := D.ne h1
  rw [hid_ne a1 a2]
  exact h2
/-- a write to what was there is not seen -/
theorem frs_old {H H' : Hp} {p : Addr} {o u : HO} (h : H p = some u) : frs H (upd H' p o) = frs H H' := by
  funext b
  unfold frs
  cases e : H b with
  | some _ => rfl
  | none => exact upd_ne fun z => by rw [z, h] at e; cases e
theorem frs_up {H H' : Hp} {p : Addr} {o : HO} (h : H' p = none) : Same (frs H H') (frs H (upd H' p o)) := fun b u q => by
  obtain ⟨h1, h2⟩ := frs_some q
  rw [frs_new h1, upd_ne (ne_of_none h2 h)]
  exact h2
theorem datAll_snoc {H : Hp} : ∀ {ds : List PyData} {xs : List V} {d : PyData} {y : V}, DatAll H ds xs → Dat H d y → DatAll H (ds ++ [d]) (xs ++ [y])
  | [], xs, d, y, h, q => by
    simp only [DatAll] at h
    subst h
    simp only [List.nil_append, DatAll]
    exact ⟨y, [], rfl, q, rfl⟩
  | e :: ds, xs, d, y, h, q => by
    simp only [DatAll] at h
    obtain ⟨z, zs, rfl, h1, h2⟩ := h
    simp only [List.cons_append, DatAll]
    exact ⟨z, zs ++ [y], rfl, h1, datAll_snoc h2 q⟩
end FA
end

/-! G8 -/
section
namespace FA
open PySem PySem.Spec PyProof.Rows L2
section
variable {X : Cx}
/-- the order of data of one shape -/
def rLtD : R2 := fun x y H Q => ∃ d e, Dat H d x ∧ Dat H e y ∧ PySem.W.alike d e = true ∧ d ≠ .none ∧ d.depth ≤ 60 ∧ Q (.bl (PySem.W.dataLt d e)) H
theorem opLtD {k : Nat} (hr : Room k X.A) : OpR X (compareOp .Lt) rLtD := by
  intro pins s σ H x y v u Q I rx ry h
  obtain ⟨d, e, hd, he, ha, hn, hdp, q⟩ := h
  obtain ⟨as, r1, _⟩ := reads_of I.hok d _ _ hd rx
  obtain ⟨bs, r2, _⟩ := reads_of I.hok e _ _ he ry
  have hu := hr.units
  have hm : min d.depth e.depth ≤ d.depth := Nat.min_le_left _ _
  exact PySem.W.rcLt_alike d e X.A s _ _ as bs r1 r2 ha hn (by omega) _ _ _ _ ⟨.bl _, H, I, rfl, q⟩
end
/-- what repr asks -/
structure Rp (d : PyData) : Prop where
  sh : d.showable = true
  dp : d.depth ≤ 60
  ln : d.shown.length ≤ sizeLine
theorem Okd.rp {D W : Nat} {d : PyData} (h : Okd D W d) (hD : D ≤ 60) (hW : W ≤ 270000) : Rp d := ⟨h.sh, Nat.le_trans h.dp hD, h.fits hW⟩
theorem rp_bools (a b c e : Bool) : Rp (.list [.bool a, .bool b, .bool c, .bool e]) :=
  Okd.rp (okd_list (oks_cons (W := 0) okd_bool (oks_cons (W := 0) okd_bool (oks_cons (W := 0) okd_bool (oks_cons (W := 0) okd_bool (oks_nil (D := 0) (W := 0))))))) (by decide) (by decide)
theorem rp_bools3 (a b c : Bool) : Rp (.list [.bool a, .bool b, .bool c]) :=
  Okd.rp (okd_list (oks_cons (W := 0) okd_bool (oks_cons (W := 0) okd_bool (oks_cons (W := 0) okd_bool (oks_nil (D := 0) (W := 0)))))) (by decide) (by decide)
theorem rp_strs2 {a b : Str} (ha : Low a) (hb : Low b) (la : a.length ≤ 100) (lb : b.length ≤ 100) : Rp (.list [.str a, .str b]) :=
  Okd.rp (okd_list (oks_cons (okd_str ha la) (oks_cons (okd_str hb lb) (oks_nil (D := 0) (W := 0))))) (by decide) (by decide)
theorem strEq {x y : Str} (h : x = y) : (!decide (V.str x = V.str y)) = false := by rw [h, decide_eq_true rfl]; rfl
end FA
end

/-! W1 -/
section
namespace FW
open PySem PySem.Spec PyProof.Rows L2 FA

theorem seqT_same {K : PySem.W.Frag} {H H' : Hp} {a : Addr} {xs : List V} (e : Same H H') (h : SqT K H a xs) : SqT K H' a xs := by
  rcases h with h | h
  · rcases h with h | ⟨o, h⟩
    · exact .inl (.inl (e _ _ h))
    · exact .inl (.inr ⟨o, e _ _ h⟩)
  · exact .inr h
/-! data, tuples of the written part among them -/
mutual
def Da (K : PySem.W.Frag) (H : Hp) : PyData → V → Prop
  | .none, v => v = .non
  | .bool b, v => v = .bl b
  | .int i, v => v = .int i
  | .str x, v => v = .str x
  | .list ds, v => ∃ a xs, v = .ref a ∧ H a = some (.lst xs) ∧ DaAll K H ds xs
  | .tuple ds, v => ∃ a xs, v = .ref a ∧ SqT K H a xs ∧ DaAll K H ds xs
  | .dict kvs, v => ∃ a es, v = .ref a ∧ H a = some (.dK es) ∧ DaKv K H kvs es
def DaAll (K : PySem.W.Frag) (H : Hp) : List PyData → List V → Prop
  | [], xs => xs = []
  | d :: ds, xs => ∃ y ys, xs = y :: ys ∧ Da K H d y ∧ DaAll K H ds ys
def DaKv (K : PySem.W.Frag) (H : Hp) : List (PyData × PyData) → List (Key × V) → Prop
  | [], xs => xs = []
  | (k, d) :: ds, xs => ∃ c y ys, xs = (c, y) :: ys ∧ k = keyD c ∧ Da K H d y ∧ DaKv K H ds ys
end
section
variable {K : PySem.W.Frag}
mutual
theorem Da.same {H H' : Hp} (s : Same H H') : ∀ {d : PyData} {v : V}, Da K H d v → Da K H' d v
  | .none, v, h => by simp only [Da] at h ⊢; exact h
  | .bool _, v, h => by simp only [Da] at h ⊢; exact h
  | .int _, v, h => by simp only [Da] at h ⊢; exact h
  | .str _, v, h => by simp only [Da] at h ⊢; exact h
  | .list ds, v, h => by
    simp only [Da] at h ⊢
    obtain ⟨a, xs, e, ha, hd⟩ := h
    exact ⟨a, xs, e, s _ _ ha, DaAll.same s hd⟩
  | .tuple ds, v, h => by
    simp only [Da] at h ⊢
    obtain ⟨a, xs, e, ha, hd⟩ := h
    exact ⟨a, xs, e, seqT_same s ha, DaAll.same s hd⟩
  | .dict kvs, v, h => by
    simp only [Da] at h ⊢
    obtain ⟨a, xs, e, ha, hd⟩ := h
    exact ⟨a, xs, e, s _ _ ha, DaKv.same s hd⟩
theorem DaAll.same {H H' : Hp} (s : Same H H') : ∀ {ds : List PyData} {xs : List V}, DaAll K H ds xs → DaAll K H' ds xs
  | [], xs, h => by simp only [DaAll] at h ⊢; exact h
  | d :: ds, xs, h => by
    simp only [DaAll] at h ⊢
    obtain ⟨y, ys, e, h1, h2⟩ := h
    exact ⟨y, ys, e, h1.same s, DaAll.same s h2⟩
theorem DaKv.same {H H' : Hp} (s : Same H H') : ∀ {ds : List (PyData × PyData)} {xs : List (Key × V)}, DaKv K H ds xs → DaKv K H' ds xs
  | [], xs, h => by simp only [DaKv] at h ⊢; exact h
  | (k, d) :: ds, xs, h => by
    simp only [DaKv] at h ⊢
    obtain ⟨c, y, ys, e, ek, h1, h2⟩ := h
    exact ⟨c, y, ys, e, ek, h1.same s, DaKv.same s h2⟩
end
theorem da_nil {H : Hp} : DaAll K H [] [] := by simp only [DaAll]
theorem da_cons {H : Hp} {d : PyData} {v : V} {ds : List PyData} {vs : List V} (h : Da K H d v) (r : DaAll K H ds vs) : DaAll K H (d :: ds) (v :: vs) := by
  simp only [DaAll]
  exact ⟨v, vs, rfl, h, r⟩
theorem DaAll.uncons {H : Hp} {d : PyData} {ds : List PyData} {vs : List V} (h : DaAll K H (d :: ds) vs) : ∃ v r, vs = v :: r ∧ Da K H d v ∧ DaAll K H ds r := by
  simp only [DaAll] at h
  exact h
theorem DaAll.nil_eq {H : Hp} {vs : List V} (h : DaAll K H [] vs) : vs = [] := by simpa only [DaAll] using h
theorem DaAll.len {H : Hp} : ∀ {ds : List PyData} {vs : List V}, DaAll K H ds vs → vs.length = ds.length
  | [], _, h => by rw [h.nil_eq]; rfl
  | d :: ds, _, h => by
    obtain ⟨v, r, rfl, _, h2⟩ := h.uncons
    rw [List.length_cons, List.length_cons, h2.len]
theorem DaAll.app {H : Hp} : ∀ {ds es : List PyData} {xs ys : List V}, DaAll K H ds xs → DaAll K H es ys → DaAll K H (ds ++ es) (xs ++ ys)
  | [], es, xs, ys, h, q => by
    rw [h.nil_eq]
    exact q
  | d :: ds, es, xs, ys, h, q => by
    obtain ⟨v, r, rfl, h1, h2⟩ := h.uncons
    exact da_cons h1 (h2.app q)
theorem DaAll.get {H : Hp} : ∀ {ds : List PyData} {vs : List V} {i : Nat} {d : PyData}, DaAll K H ds vs → ds[i]? = some d → ∃ v, vs[i]? = some v ∧ Da K H d v
  | d :: ds, _, 0, _, h, e => by
    obtain ⟨v, r, rfl, h1, _⟩ := h.uncons
    have := Option.some.inj e
    subst this
    exact ⟨v, rfl, h1⟩
  | d :: ds, _, i + 1, _, h, e => by
    obtain ⟨v, r, rfl, _, h2⟩ := h.uncons
    exact h2.get (i := i) e
theorem DaAll.of_get {H : Hp} : ∀ {ds : List PyData} {vs : List V} {i : Nat} {v : V}, DaAll K H ds vs → vs[i]? = some v → ∃ d, ds[i]? = some d ∧ Da K H d v
  | [], _, i, _, h, e => by
    rw [h.nil_eq] at e
    simp at e
  | d :: ds, _, 0, _, h, e => by
    obtain ⟨v, r, rfl, h1, _⟩ := h.uncons
    have := Option.some.inj e
    subst this
    exact ⟨d, rfl, h1⟩
  | d :: ds, _, i + 1, _, h, e => by
    obtain ⟨v, r, rfl, _, h2⟩ := h.uncons
    exact h2.of_get (i := i) e
theorem DaAll.drop {H : Hp} : ∀ {ds : List PyData} {vs : List V} (n : Nat), DaAll K H ds vs → DaAll K H (ds.drop n) (vs.drop n)
  | [], _, n, h => by rw [h.nil_eq, List.drop_nil, List.drop_nil]; exact da_nil
  | d :: ds, _, 0, h => h
  | d :: ds, _, n + 1, h => by
    obtain ⟨v, r, rfl, _, h2⟩ := h.uncons
    exact h2.drop n
theorem DaAll.take {H : Hp} : ∀ {ds : List PyData} {vs : List V} (n : Nat), DaAll K H ds vs → DaAll K H (ds.take n) (vs.take n)
  | [], _, n, h => by rw [h.nil_eq, List.take_nil, List.take_nil]; exact da_nil
  | d :: ds, _, 0, h => da_nil
  | d :: ds, _, n + 1, h => by
    obtain ⟨v, r, rfl, h1, h2⟩ := h.uncons
    exact da_cons h1 (h2.take n)
/-- a slice of data, as the values' -/
def cutD (xs : List PyData) (lo hi : Option Int) : List PyData := (xs.drop (HT.sIx xs.length 0 lo)).take (HT.sIx xs.length xs.length hi - HT.sIx xs.length 0 lo)
theorem DaAll.cut {H : Hp} {ds : List PyData} {vs : List V} (h : DaAll K H ds vs) (lo hi : Option Int) : DaAll K H (cutD ds lo hi) (cutV vs lo hi) := by
  unfold cutD cutV
  rw [h.len]
  exact (h.drop _).take _
theorem DaAll.snoc {H : Hp} {ds : List PyData} {vs : List V} {d : PyData} {v : V} (h : DaAll K H ds vs) (q : Da K H d v) : DaAll K H (ds ++ [d]) (vs ++ [v]) := h.app (da_cons q da_nil)
theorem DaAll.dropLast {H : Hp} {ds : List PyData} {vs : List V} (h : DaAll K H ds vs) : DaAll K H ds.dropLast vs.dropLast := by
  rw [List.dropLast_eq_take, List.dropLast_eq_take, h.len]
  exact h.take _
end

/-! what is hidden -/
def hs (S : List Addr) (H : Hp) : Hp := fun b => if b ∈ S then none else H b
theorem hs_ne {S : List Addr} {b : Addr} {H : Hp} (h : b ∉ S) : hs S H b = H b := if_neg h
theorem hs_some {S : List Addr} {b : Addr} {H : Hp} {o : HO} (h : hs S H b = some o) : b ∉ S ∧ H b = some o := by
  unfold hs at h
  by_cases z : b ∈ S
  · rw [if_pos z] at h; cases h
  · rw [if_neg z] at h
    exact ⟨z, h⟩
theorem hs_sub {S : List Addr} {H : Hp} : Same (hs S H) H := fun b o h => (hs_some h).2
theorem hs_same {S : List Addr} {H H' : Hp} (s : Same H H') : Same (hs S H) (hs S H') := fun b o h => by
  obtain ⟨h1, h2⟩ := hs_some h
  rw [hs_ne h1]
  exact s b o h2
theorem hs_less {S T : List Addr} {H : Hp} (h : ∀ a ∈ T, a ∈ S) : Same (hs S H) (hs T H) := fun b o q => by
  obtain ⟨h1, h2⟩ := hs_some q
  rw [hs_ne fun z => h1 (h b z)]
  exact h2
/-- hidden more, behind what is hidden less -/
theorem hs_more {S T : List Addr} {H H' : Hp} (h : ∀ a ∈ T, a ∈ S) (s : Same (hs T H) (hs T H')) : Same (hs S H) (hs S H') := fun b o q => by
  obtain ⟨h1, h2⟩ := hs_some q
  have h3 : b ∉ T := fun z => h1 (h b z)
  rw [hs_ne h1]
  have := s b o (by rw [hs_ne h3]; exact h2)
  rw [hs_ne h3] at this
  exact this
theorem hs_upd {S : List Addr} {a : Addr} {H : Hp} {o : HO} (h : a ∈ S) : hs S (upd H a o) = hs S H := by
  funext b
  unfold hs
  by_cases z : b ∈ S
  · rw [if_pos z, if_pos z]
  · rw [if_neg z, if_neg z]
    exact upd_ne fun e => z (by rw [e]; exact h)
theorem hs_nil {H : Hp} : hs [] H = H := by
  funext b
  exact if_neg (fun h => nomatch h)

/-! the state of a def's run: the deck's count, the lists that may be changed -/
structure Reg where
  live : Bool
  own : Bool
  xs : List PyData
def Reg.tag (r : Reg) : Bool × Bool := (r.live, r.own)
structure S where
  n : Nat
  rs : List Reg
inductive U
  | dat (x : PyData)
  | deck
  | reg (j : Nat)
  | adr (a : Addr)
abbrev Env := List (Option U)
/-- what a def stands in: hidden by its caller, what it may change, its deck, the heap at its beginning -/
structure Fr where
  S0 : List Addr
  fr : List Addr
  d : Addr
  c : Addr
  dk : Bool
  H0 : Hp
  Hk : Hp
def lives : List Reg → List Addr → List Addr
  | r :: rs, a :: as => if r.live = true then a :: lives rs as else lives rs as
  | [], _ => []
  | _ :: _, [] => []
def cur (C : Fr) (rs : List Reg) (as : List Addr) : List Addr := C.S0 ++ lives rs as
theorem lives_get : ∀ {rs : List Reg} {as : List Addr} {j : Nat} {a : Addr} {r : Reg}, as[j]? = some a → rs[j]? = some r → r.live = true → a ∈ lives rs as
  | r :: rs, a :: as, 0, _, _, e, f, l => by
    have := Option.some.inj e
    have := Option.some.inj f
    subst_vars
    unfold lives
    rw [if_pos l]
    exact List.mem_cons_self
  | r :: rs, a :: as, j + 1, _, _, e, f, l => by
    have q := lives_get (j := j) e f l
    unfold lives
    split
    · exact List.mem_cons_of_mem _ q
    · exact q
  | [], _, j, _, _, _, f, _ => by simp at f
  | _ :: _, [], j, _, _, e, _, _ => by simp at e
theorem of_lives : ∀ {rs : List Reg} {as : List Addr} {a : Addr}, a ∈ lives rs as → ∃ (j : Nat) (r : Reg), as[j]? = some a ∧ rs[j]? = some r ∧ r.live = true
  | r :: rs, a :: as, b, h => by
    unfold lives at h
    split at h
    · rename_i l
      rcases List.mem_cons.mp h with rfl | h
      · exact ⟨0, r, rfl, rfl, l⟩
      · obtain ⟨j, r', e⟩ := of_lives h
        exact ⟨j + 1, r', e⟩
    · obtain ⟨j, r', e⟩ := of_lives h
      exact ⟨j + 1, r', e⟩
  | [], _, b, h => by simp [lives] at h
  | _ :: _, [], b, h => by simp [lives] at h
theorem lives_congr : ∀ {rs rs' : List Reg} {as : List Addr}, rs.map Reg.tag = rs'.map Reg.tag → lives rs as = lives rs' as
  | [], [], _, _ => rfl
  | [], _ :: _, _, h => by simp at h
  | _ :: _, [], _, h => by simp at h
  | r :: rs, r' :: rs', [], h => rfl
  | r :: rs, r' :: rs', a :: as, h => by
    simp only [List.map_cons, List.cons.injEq] at h
    unfold lives
    rw [show r.live = r'.live from congrArg Prod.fst h.1, lives_congr h.2]
section
variable (K : PySem.W.Frag)
/-- a slot -/
def UOk (W : Hp) (C : Fr) (as : List Addr) (v : V) : U → Prop
  | .dat x => Da K W x v
  | .deck => C.dk = true ∧ v = .ref C.d
  | .reg j => ∃ a, as[j]? = some a ∧ v = .ref a
  | .adr a => v = .ref a
/-- a list that may be changed, or no more -/
def ROk (W H : Hp) (a : Addr) (r : Reg) : Prop :=
  if r.live = true then ∃ vs, H a = some (.lst vs) ∧ DaAll K W r.xs vs else Da K W (.list r.xs) (.ref a)
structure Rel (C : Fr) (σ : L2.St) (H : Hp) (env : Env) (s : S) (as : List Addr) : Prop where
  frame : Same (hs C.fr C.H0) (hs C.fr H)
  alloc : ∀ a ∈ cur C s.rs as, H a ≠ none
  kp : ∀ a ∈ C.S0, a ∉ C.fr → H a = C.Hk a
  deck : C.dk = true → Deck H C.d C.c s.n ∧ C.d ∈ C.S0 ∧ C.c ∈ C.S0 ∧ C.d ∈ C.fr ∧ C.c ∈ C.fr
  len : s.rs.length = as.length
  regs : ∀ (j : Nat) a r, as[j]? = some a → s.rs[j]? = some r → ROk K (hs (cur C s.rs as) H) H a r
  dis : ∀ (j : Nat) a r, as[j]? = some a → s.rs[j]? = some r → r.live = true → (C.dk = true → a ≠ C.d ∧ a ≠ C.c) ∧ ((r.own = false ∧ a ∈ C.fr) ∨ (r.own = true ∧ C.H0 a = none ∧ a ∉ C.S0)) ∧
    ∀ (i : Nat) r', as[i]? = some a → s.rs[i]? = some r' → r'.live = true → i = j
  slots : σ.length = env.length
  env : ∀ (i : Nat) u, env[i]? = some (some u) → ∃ v, σ[i]? = some (some v) ∧ UOk K (hs (cur C s.rs as) H) C as v u
end
section
variable {K : PySem.W.Frag} {C : Fr} {σ : L2.St} {H H' : Hp} {env : Env} {s s' : S} {as : List Addr}
theorem UOk.same {W W' : Hp} {v : V} {u : U} (h : UOk K W C as v u) (m : Same W W') : UOk K W' C as v u := by
  cases u with
  | dat x => exact Da.same m h
  | deck => exact h
  | reg j => exact h
  | adr a => exact h
theorem ROk.same {W W' : Hp} {a : Addr} {r : Reg} (h : ROk K W H a r) (m : Same W W') (e : r.live = true → H' a = H a) : ROk K W' H' a r := by
  unfold ROk at h ⊢
  split
  · rename_i l
    rw [if_pos l] at h
    obtain ⟨vs, h1, h2⟩ := h
    exact ⟨vs, by rw [e l]; exact h1, h2.same m⟩
  · rename_i l
    rw [if_neg l] at h
    exact h.same m
/-- a step: F alone is changed -/
theorem Rel.move (h : Rel K C σ H env s as) (Hk' : Hp) (F : List Addr) (hF : ∀ a ∈ F, a ∈ cur C s.rs as) (fr : ∀ a ∈ F, a ∈ C.fr ∨ C.H0 a = none) (m : Same (hs F H) (hs F H')) (al : ∀ a ∈ F, H' a ≠ none) (hk : ∀ a ∈ C.S0, a ∉ C.fr → H' a = Hk' a)
    (hd : C.dk = true → Deck H' C.d C.c s'.n) (hl : s'.rs.map Reg.tag = s.rs.map Reg.tag)
    (hr : ∀ (j : Nat) a r', as[j]? = some a → s'.rs[j]? = some r' → (a ∉ F ∧ s.rs[j]? = some r') ∨ (r'.live = false ∧ s.rs[j]? = some r') ∨ (a ∈ F ∧ ROk K (hs (cur C s.rs as) H') H' a r')) :
    Rel K { C with Hk := Hk' } σ H' env s' as ∧ Same (hs (cur C s.rs as) H) (hs (cur C s'.rs as) H') := by
  have ec : cur C s'.rs as = cur C s.rs as := by unfold cur; rw [lives_congr hl]
  have vw : Same (hs (cur C s.rs as) H) (hs (cur C s.rs as) H') := hs_more hF m
  have keep : ∀ {a o}, a ∉ F → H a = some o → H' a = some o := fun {a o} n e => by
    have := m a o (by rw [hs_ne n]; exact e)
    rw [hs_ne n] at this
    exact this
  have ec2 : cur { C with Hk := Hk' } s'.rs as = cur C s.rs as := ec
  refine ⟨⟨?_, ?_, hk, ?_, ?_, ?_, ?_, h.slots, ?_⟩, ?_⟩
  · intro b o q
    have q2 := h.frame b o q
    obtain ⟨h1, h2⟩ := hs_some q2
    rw [hs_ne h1]
    by_cases z : b ∈ F
    · rcases fr b z with y | y
      · exact absurd y h1
      · rw [hs_ne h1, y] at q
        cases q
    · exact keep z h2
  · rw [ec2]
    intro a ha
    by_cases z : a ∈ F
    · exact al a z
    · cases e : H a with
      | none => exact absurd e (h.alloc a ha)
      | some o => rw [keep z e]; simp
  · exact fun e => ⟨hd e, (h.deck e).2⟩
  · have := congrArg List.length hl
    rw [List.length_map, List.length_map] at this
    rw [this]
    exact h.len
  · rw [ec2]
    intro j a r ea er
    rcases hr j a r ea er with ⟨n, e⟩ | ⟨l, e⟩ | ⟨_, q⟩
    · refine (h.regs j a r ea e).same vw fun l => ?_
      have q := h.regs j a r ea e
      unfold ROk at q
      rw [if_pos l] at q
      obtain ⟨vs, h1, _⟩ := q
      rw [h1]
      exact keep n h1
    · exact (h.regs j a r ea e).same vw fun l' => by rw [l] at l'; cases l'
    · exact q
  · intro j a r ea er l
    have live : ∀ {i : Nat} {r'' : Reg}, s'.rs[i]? = some r'' → r''.live = true → ∃ r', s.rs[i]? = some r' ∧ r'.live = true ∧ r'.own = r''.own := fun {i r''} e l' => by
      have q := congrArg (fun l => l[i]?) hl
      simp only [List.getElem?_map, e, Option.map_some] at q
      cases e2 : s.rs[i]? with
      | none => rw [e2] at q; cases q
      | some r' =>
        rw [e2] at q
        have q' : r''.tag = r'.tag := Option.some.inj q
        exact ⟨r', rfl, (congrArg Prod.fst q').symm.trans l', (congrArg Prod.snd q').symm⟩
    obtain ⟨r2, e2, l2, o2⟩ := live er l
    obtain ⟨d1, d2, d3⟩ := h.dis j a r2 ea e2 l2
    rw [o2] at d2
    refine ⟨d1, d2, fun i r' ei er' l' => ?_⟩
    obtain ⟨r3, e3, l3, _⟩ := live er' l'
    exact d3 i r3 ei e3 l3
  · rw [ec2]
    intro i u e
    obtain ⟨v, h1, h2⟩ := h.env i u e
    exact ⟨v, h1, by cases u with
      | dat x => exact Da.same vw h2
      | deck => exact h2
      | reg j => exact h2
      | adr a => exact h2⟩
  · rw [ec]
    exact vw
/-- nothing of what stood is changed -/
theorem Rel.keep (h : Rel K C σ H env s as) (m : Same H H') : ∀ a ∈ C.S0, a ∉ C.fr → H' a = C.Hk a := fun a ha hf => by
  have n := h.alloc a (List.mem_append_left _ ha)
  have e := h.kp a ha hf
  cases q : H a with
  | none => exact absurd q n
  | some o => rw [m a o q, ← e, q]
theorem Rel.same (h : Rel K C σ H env s as) (m : Same H H') : Rel K C σ H' env s as ∧ Same (hs (cur C s.rs as) H) (hs (cur C s.rs as) H') :=
  h.move C.Hk [] (fun _ z => nomatch z) (fun _ z => nomatch z) (by rw [hs_nil, hs_nil]; exact m) (fun _ z => nomatch z) (h.keep m) (fun e => (h.deck e).1.same m) rfl fun _ _ _ _ er => .inl ⟨(fun z => nomatch z), er⟩
/-- what is to stay, from now on -/
theorem Rel.rebase (h : Rel K C σ H env s as) : Rel K { C with Hk := H } σ H env s as := ⟨h.frame, h.alloc, fun _ _ _ => rfl, h.deck, h.len, h.regs, h.dis, h.slots, fun i u e => by
  obtain ⟨v, h1, h2⟩ := h.env i u e
  exact ⟨v, h1, by cases u with
    | dat x => exact h2
    | deck => exact h2
    | reg j => exact h2
    | adr a => exact h2⟩⟩
theorem Rel.unbase {Hk : Hp} {σ' : L2.St} {env' : Env} (h0 : Rel K C σ Hk env s as) {as' : List Addr} (h : Rel K { C with Hk := Hk } σ' H' env' s' as') : Rel K C σ' H' env' s' as' := ⟨h.frame, h.alloc, fun a ha hf => (h.kp a ha hf).trans (h0.kp a ha hf), h.deck, h.len, h.regs, h.dis, h.slots, fun i u e => by
  obtain ⟨v, h1, h2⟩ := h.env i u e
  exact ⟨v, h1, by cases u with
    | dat x => exact h2
    | deck => exact h2
    | reg j => exact h2
    | adr a => exact h2⟩⟩
theorem Rel.set (h : Rel K C σ H env s as) {i : Nat} {u : U} {v : V} (hu : UOk K (hs (cur C s.rs as) H) C as v u) : Rel K C (σ.set i (some v)) H (env.set i (some u)) s as := by
  refine ⟨h.frame, h.alloc, h.kp, h.deck, h.len, h.regs, h.dis, by rw [List.length_set, List.length_set]; exact h.slots, ?_⟩
  intro k u' e
  by_cases z : k = i
  · subst z
    have lt : k < env.length := by
      have := (List.getElem?_eq_some_iff.mp e).1
      rw [List.length_set] at this
      exact this
    rw [List.getElem?_set_self lt] at e
    have := Option.some.inj (Option.some.inj e)
    subst this
    exact ⟨v, by rw [List.getElem?_set_self (by rw [h.slots]; exact lt)], hu⟩
  · rw [List.getElem?_set_ne (fun e => z e.symm)] at e
    obtain ⟨v', h1, h2⟩ := h.env k u' e
    exact ⟨v', by rw [List.getElem?_set_ne (fun e => z e.symm)]; exact h1, h2⟩
/-- a slot forgotten -/
theorem Rel.unset (h : Rel K C σ H env s as) {i : Nat} : Rel K C (σ.set i none) H (env.set i none) s as := by
  refine ⟨h.frame, h.alloc, h.kp, h.deck, h.len, h.regs, h.dis, by rw [List.length_set, List.length_set]; exact h.slots, ?_⟩
  intro k u' e
  by_cases z : k = i
  · subst z
    have lt : k < env.length := by
      have := (List.getElem?_eq_some_iff.mp e).1
      rw [List.length_set] at this
      exact this
    rw [List.getElem?_set_self lt] at e
    cases Option.some.inj e
  · rw [List.getElem?_set_ne (fun e => z e.symm)] at e
    obtain ⟨v', h1, h2⟩ := h.env k u' e
    exact ⟨v', by rw [List.getElem?_set_ne (fun e => z e.symm)]; exact h1, h2⟩
end
end FW
end

/-! W2 -/
section
namespace FW
open PySem PySem.Spec PyProof.Rows L2 FA
/-- what is static of a def's place -/
structure FrOk (C : Fr) : Prop where
  sub : ∀ a ∈ C.fr, a ∈ C.S0
  dk : C.dk = true → C.d ∈ C.fr ∧ C.c ∈ C.fr
abbrev Fr.hide (C : Fr) (D : Addr) (Hk : Hp) : Fr := { C with S0 := D :: C.S0, Hk := Hk }
section
variable {K : PySem.W.Frag} {C : Fr} {σ : L2.St} {H H' : Hp} {env : Env} {s s' : S} {as : List Addr} {D : Addr}
theorem FrOk.hide {Hk : Hp} (h : FrOk C) : FrOk (C.hide D Hk) := ⟨fun a ha => List.mem_cons_of_mem _ (h.sub a ha), h.dk⟩
theorem Rel.fresh0 (h : Rel K C σ H env s as) (f : FrOk C) (hD : H D = none) : D ∉ cur C s.rs as ∧ C.H0 D = none := by
  have n : D ∉ cur C s.rs as := fun z => h.alloc D z hD
  refine ⟨n, ?_⟩
  have nf : D ∉ C.fr := fun z => n (List.mem_append_left _ (f.sub D z))
  cases e : C.H0 D with
  | none => rfl
  | some o =>
    have := h.frame D o (by rw [hs_ne nf]; exact e)
    rw [hs_ne nf, hD] at this
    cases this
theorem fresh_view {T : List Addr} (n : D ∉ T) (hD : H D = none) {o : HO} : Same (hs T H) (hs (D :: T) (upd H D o)) := fun b u q => by
  obtain ⟨h1, h2⟩ := hs_some q
  have bD : b ≠ D := ne_of_none h2 hD
  rw [hs_ne (by intro z; rcases List.mem_cons.mp z with z | z; exact bD z; exact h1 z), upd_ne bD]
  exact h2
theorem same_newW {p : Addr} (h : H p = none) (o : HO) : Same H (upd H p o) := same_new h o
/-- a new list at D, out of sight -/
theorem Rel.hide (h : Rel K C σ H env s as) (f : FrOk C) (hD : H D = none) (o : HO) : Rel K (C.hide D (upd H D o)) σ (upd H D o) env s as ∧ Same (hs (cur C s.rs as) H) (hs (D :: cur C s.rs as) (upd H D o)) := by
  obtain ⟨n, n0⟩ := h.fresh0 f hD
  have vw := fresh_view n hD (o := o)
  obtain ⟨h2, m2⟩ := h.same (same_newW hD o)
  have dD : C.dk = true → C.d ≠ D ∧ C.c ≠ D := fun e => ⟨fun z => n (by rw [← z]; exact List.mem_append_left _ (f.sub _ (f.dk e).1)), fun z => n (by rw [← z]; exact List.mem_append_left _ (f.sub _ (f.dk e).2))⟩
  refine ⟨⟨h2.frame, ?_, fun _ _ _ => rfl, ?_, h.len, ?_, ?_, h.slots, ?_⟩, vw⟩
  · intro a ha
    rcases List.mem_cons.mp ha with z | z
    · rw [z, upd_same]; simp
    · exact h2.alloc a z
  · intro e
    obtain ⟨q1, q2, q3, q4⟩ := h2.deck e
    exact ⟨q1, List.mem_cons_of_mem _ q2, List.mem_cons_of_mem _ q3, q4⟩
  · intro j a r ea er
    refine (h.regs j a r ea er).same vw fun l => ?_
    have : a ≠ D := fun z => n (by rw [← z]; exact List.mem_append_right _ (lives_get ea er l))
    exact upd_ne this
  · intro j a r ea er l
    obtain ⟨d1, d2, d3⟩ := h.dis j a r ea er l
    refine ⟨d1, d2.imp id fun z => ⟨z.1, z.2.1, fun y => ?_⟩, d3⟩
    rcases List.mem_cons.mp y with y | y
    · exact n (by rw [← y]; exact List.mem_append_right _ (lives_get ea er l))
    · exact z.2.2 y
  · intro i u e
    obtain ⟨v, h1, h3⟩ := h.env i u e
    exact ⟨v, h1, by cases u with
      | dat x => exact Da.same vw h3
      | deck => exact h3
      | reg j => exact h3
      | adr a => exact h3⟩
/-- it comes to sight -/
theorem Rel.show {Hk : Hp} (h : Rel K (C.hide D Hk) σ H env s as) (f : FrOk C) (n : D ∉ cur C s.rs as) (hk : ∀ a ∈ C.S0, a ∉ C.fr → Hk a = C.Hk a) : Rel K C σ H env s as ∧ Same (hs (D :: cur C s.rs as) H) (hs (cur C s.rs as) H) := by
  have vw : Same (hs (D :: cur C s.rs as) H) (hs (cur C s.rs as) H) := hs_less fun a ha => List.mem_cons_of_mem _ ha
  refine ⟨⟨h.frame, fun a ha => h.alloc a (List.mem_cons_of_mem _ ha), fun a ha hf => ?_, ?_, h.len, ?_, ?_, h.slots, ?_⟩, vw⟩
  · exact (h.kp a (List.mem_cons_of_mem _ ha) hf).trans (hk a ha hf)
  · intro e
    obtain ⟨q1, q2, q3, q4⟩ := h.deck e
    exact ⟨q1, f.sub _ (f.dk e).1, f.sub _ (f.dk e).2, q4⟩
  · intro j a r ea er
    exact (h.regs j a r ea er).same vw fun _ => rfl
  · intro j a r ea er l
    obtain ⟨d1, d2, d3⟩ := h.dis j a r ea er l
    exact ⟨d1, d2.imp id fun z => ⟨z.1, z.2.1, fun y => z.2.2 (List.mem_cons_of_mem _ y)⟩, d3⟩
  · intro i u e
    obtain ⟨v, h1, h3⟩ := h.env i u e
    exact ⟨v, h1, by cases u with
      | dat x => exact Da.same vw h3
      | deck => exact h3
      | reg j => exact h3
      | adr a => exact h3⟩
theorem Rel.nD {Hk : Hp} (h : Rel K (C.hide D Hk) σ H env s as) (f : FrOk C) (n : D ∉ C.S0) : D ∉ cur C s.rs as := by
  intro z
  rcases List.mem_append.mp z with z | z
  · exact n z
  · obtain ⟨j, r, ea, er, l⟩ := of_lives z
    rcases (h.dis j D r ea er l).2.1 with y | y
    · exact n (f.sub _ y.2)
    · exact y.2.2 List.mem_cons_self
/-- it grows, out of sight -/
theorem Rel.grow {Hk : Hp} (h : Rel K (C.hide D Hk) σ H env s as) (f : FrOk C) (n : D ∉ cur C s.rs as) (n0 : C.H0 D = none) (o : HO) : Rel K (C.hide D (upd H D o)) σ (upd H D o) env s as ∧ Same (hs (D :: cur C s.rs as) H) (hs (D :: cur C s.rs as) (upd H D o)) := by
  refine h.move (upd H D o) [D] (fun a ha => ?_) (fun a ha => .inr ?_) (by rw [hs_upd (by simp)]; exact Same.refl _) (fun a ha => ?_) (fun _ _ _ => rfl) (fun e => ?_) rfl (fun j a r ea er => ?_)
  · rw [List.mem_singleton.mp ha]; exact List.mem_cons_self
  · rw [List.mem_singleton.mp ha]; exact n0
  · rw [List.mem_singleton.mp ha, upd_same]; simp
  · refine (h.deck e).1.upd (fun z => n ?_) (fun z => n ?_)
    · rw [z]; exact List.mem_append_left _ (f.sub _ (f.dk e).1)
    · rw [z]; exact List.mem_append_left _ (f.sub _ (f.dk e).2)
  · by_cases l : r.live = true
    · refine .inl ⟨fun z => n ?_, er⟩
      rw [← List.mem_singleton.mp z]
      exact List.mem_append_right _ (lives_get ea er l)
    · exact .inr (.inl ⟨by simpa using l, er⟩)
end
/-! expressions -/
abbrev M (α : Type) := S → (α → S → Prop) → Prop
abbrev E := Env → M PyData
abbrev EA := Env → M (List PyData)
abbrev EB := Env → M Bool
abbrev EO := Env → M (Option Int)
section
variable (K : PySem.W.Frag)
def SE (te : TE) (e : E) : Prop := ∀ (C : Fr) (σ : L2.St) (H : Hp) (env : Env) (s : S) (as : List Addr), FrOk C → Rel K C σ H env s as → ∀ (post : PyData → S → Prop) (Q : VK), e env s post →
  (∀ x s' v H', post x s' → Rel K C σ H' env s' as → Same (hs (cur C s.rs as) H) (hs (cur C s'.rs as) H') → Da K (hs (cur C s'.rs as) H') x v → Q v H') → te σ H Q
def SA (n : Nat) (ta : TA) (e : EA) : Prop := ∀ (C : Fr) (σ : L2.St) (H : Hp) (env : Env) (s : S) (as : List Addr), FrOk C → Rel K C σ H env s as → ∀ (post : List PyData → S → Prop) (Q : List V → Hp → Prop), e env s post →
  (∀ xs s' vs H', post xs s' → Rel K C σ H' env s' as → Same (hs (cur C s.rs as) H) (hs (cur C s'.rs as) H') → DaAll K (hs (cur C s'.rs as) H') xs vs → xs.length = n → Q vs H') → ta σ H Q
def ST (tt : TT) (e : EB) : Prop := ∀ (C : Fr) (σ : L2.St) (H : Hp) (env : Env) (s : S) (as : List Addr), FrOk C → Rel K C σ H env s as → ∀ (post : Bool → S → Prop) (Q : Bool → Hp → Prop), e env s post →
  (∀ b s' H', post b s' → Rel K C σ H' env s' as → Same (hs (cur C s.rs as) H) (hs (cur C s'.rs as) H') → Q b H') → tt σ H Q
def SO (to : TO) (e : EO) : Prop := ∀ (C : Fr) (σ : L2.St) (H : Hp) (env : Env) (s : S) (as : List Addr), FrOk C → Rel K C σ H env s as → ∀ (post : Option Int → S → Prop) (Q : Option Int → Hp → Prop), e env s post →
  (∀ b s' H', post b s' → Rel K C σ H' env s' as → Same (hs (cur C s.rs as) H) (hs (cur C s'.rs as) H') → Q b H') → to σ H Q
/-- a new list, not yet seen -/
def SL (te : TE) (e : EA) : Prop := ∀ (C : Fr) (σ : L2.St) (H : Hp) (env : Env) (s : S) (as : List Addr), FrOk C → Rel K C σ H env s as → ∀ (post : List PyData → S → Prop) (Q : VK), e env s post →
  (∀ xs s' D vs Hk H', post xs s' → Rel K (C.hide D Hk) σ H' env s' as → (∀ a ∈ C.S0, a ∉ C.fr → Hk a = C.Hk a) → Same (hs (cur C s.rs as) H) (hs (D :: cur C s'.rs as) H') → H' D = some (.lst vs) → DaAll K (hs (D :: cur C s'.rs as) H') xs vs → D ∉ cur C s'.rs as → C.H0 D = none → Q (.ref D) H') → te σ H Q
def OpS (r : R2) (o : PyData → PyData → (PyData → Prop) → Prop) : Prop := ∀ (T : List Addr) (H : Hp) (x y : PyData) (v1 v2 : V) (k : PyData → Prop) (Q : VK), (∀ a ∈ T, H a ≠ none) → Da K (hs T H) x v1 → Da K (hs T H) y v2 → o x y k →
  (∀ z v H', k z → Same H H' → Da K (hs T H') z v → Q v H') → r v1 v2 H Q
def CbS (r : List V → Hp → VK → Prop) (o : List PyData → (PyData → Prop) → Prop) : Prop := ∀ (T : List Addr) (H : Hp) (xs : List PyData) (vs : List V) (k : PyData → Prop) (Q : VK), (∀ a ∈ T, H a ≠ none) → DaAll K (hs T H) xs vs → o xs k →
  (∀ z v H', k z → Same H H' → Da K (hs T H') z v → Q v H') → r vs H Q
def UnS (r : V → Hp → VK → Prop) (o : PyData → (PyData → Prop) → Prop) : Prop := ∀ (T : List Addr) (H : Hp) (x : PyData) (v1 : V) (k : PyData → Prop) (Q : VK), (∀ a ∈ T, H a ≠ none) → Da K (hs T H) x v1 → o x k →
  (∀ z v H', k z → Same H H' → Da K (hs T H') z v → Q v H') → r v1 H Q
end
def fC (x : PyData) : E := fun _ s post => post x s
/-- a list is no more changed -/
def frz (s : S) (j : Nat) (xs : List PyData) : S := ⟨s.n, s.rs.set j ⟨false, true, xs⟩⟩
def fVar (i : Nat) : E := fun env s post => match env[i]? with
  | some (some (.dat x)) => post x s
  | some (some (.reg j)) => (match s.rs[j]? with
    | some ⟨false, _, xs⟩ => post (.list xs) s
    | _ => False)
  | _ => False
/-- the name of a list that is changed no more -/
def fFrz (i : Nat) : E := fun env s post => match env[i]? with
  | some (some (.reg j)) => (match s.rs[j]? with
    | some ⟨true, true, xs⟩ => post (.list xs) (frz s j xs)
    | _ => False)
  | _ => False
def fOp (o : PyData → PyData → (PyData → Prop) → Prop) (a b : E) : E := fun env s post => a env s fun x s1 => b env s1 fun y s2 => o x y fun z => post z s2
def fUn (o : PyData → (PyData → Prop) → Prop) (a : E) : E := fun env s post => a env s fun x s1 => o x fun z => post z s1
def fNil : EA := fun _ s post => post [] s
def fCons (a : E) (b : EA) : EA := fun env s post => a env s fun x s1 => b env s1 fun xs s2 => post (x :: xs) s2
def fTup (a : EA) : E := fun env s post => a env s fun xs s1 => post (.tuple xs) s1
def fLst (a : EA) : E := fun env s post => a env s fun xs s1 => post (.list xs) s1
def fCb (o : List PyData → (PyData → Prop) → Prop) (a : EA) : E := fun env s post => a env s fun xs s1 => o xs fun z => post z s1
def fTest (a : E) : EB := fun env s post => a env s fun x s1 => match x with
  | .bool b => post b s1
  | _ => False
def fAnd (a b : EB) : EB := fun env s post => a env s fun c s1 => if c = true then b env s1 post else post false s1
def fOr (a b : EB) : EB := fun env s post => a env s fun c s1 => if c = true then post true s1 else b env s1 post
def fNot (a : EB) : EB := fun env s post => a env s fun c s1 => post (!c) s1
def fIf (t : EB) (a b : E) : E := fun env s post => t env s fun c s1 => if c = true then a env s1 post else b env s1 post
def fNoP : EO := fun _ s post => post none s
def fPart (a : E) : EO := fun env s post => a env s fun x s1 => match x with
  | .int i => post (some i) s1
  | _ => False
def fSl (o : PyData → Option Int → Option Int → (PyData → Prop) → Prop) (a : E) (l h : EO) : E := fun env s post => a env s fun x s1 => l env s1 fun lo s2 => h env s2 fun hi s3 => o x lo hi fun z => post z s3
section
variable {K : PySem.W.Frag}
theorem da_int {H : Hp} {i : Int} {v : V} : Da K H (.int i) v ↔ v = .int i := by simp only [Da]
theorem da_str {H : Hp} {z : Str} {v : V} : Da K H (.str z) v ↔ v = .str z := by simp only [Da]
theorem da_bool {H : Hp} {b : Bool} {v : V} : Da K H (.bool b) v ↔ v = .bl b := by simp only [Da]
theorem da_none {H : Hp} {v : V} : Da K H .none v ↔ v = .non := by simp only [Da]
theorem da_tuple {H : Hp} {ds : List PyData} {v : V} : Da K H (.tuple ds) v ↔ ∃ a xs, v = .ref a ∧ SqT K H a xs ∧ DaAll K H ds xs := by simp only [Da]
theorem da_list {H : Hp} {ds : List PyData} {v : V} : Da K H (.list ds) v ↔ ∃ a xs, v = .ref a ∧ H a = some (.lst xs) ∧ DaAll K H ds xs := by simp only [Da]
theorem da_dict {H : Hp} {ds : List (PyData × PyData)} {v : V} : Da K H (.dict ds) v ↔ ∃ a xs, v = .ref a ∧ H a = some (.dK xs) ∧ DaKv K H ds xs := by simp only [Da]
theorem da_tup_new {T : List Addr} {H : Hp} {p : Addr} {xs : List PyData} {vs : List V} (al : ∀ a ∈ T, H a ≠ none) (hp : H p = none) (h : DaAll K (hs T H) xs vs) : Da K (hs T (upd H p (.tup vs))) (.tuple xs) (.ref p) := by
  have n : p ∉ T := fun z => al p z hp
  exact da_tuple.mpr ⟨p, vs, rfl, SqT.of (by rw [hs_ne n]; exact upd_same), h.same (hs_same (same_new hp _))⟩
theorem da_lst_new {T : List Addr} {H : Hp} {p : Addr} {xs : List PyData} {vs : List V} (al : ∀ a ∈ T, H a ≠ none) (hp : H p = none) (h : DaAll K (hs T H) xs vs) : Da K (hs T (upd H p (.lst vs))) (.list xs) (.ref p) := by
  have n : p ∉ T := fun z => al p z hp
  exact da_list.mpr ⟨p, vs, rfl, by rw [hs_ne n]; exact upd_same, h.same (hs_same (same_new hp _))⟩
theorem sqT_hs {T : List Addr} {H : Hp} {a : Addr} {xs : List V} (h : SqT K (hs T H) a xs) : SqT K H a xs := seqT_same hs_sub h
theorem se_c {v : V} {x : PyData} (h : ∀ H : Hp, Da K H x v) : SE K (tC v) (fC x) := fun C σ H env s as _ R post Q p k => k _ _ _ _ p R (Same.refl _) (h _)
theorem se_int {i : Int} : SE K (tC (.int i)) (fC (.int i)) := se_c fun _ => da_int.mpr rfl
theorem se_str {i : Str} : SE K (tC (.str i)) (fC (.str i)) := se_c fun _ => da_str.mpr rfl
theorem se_bl {i : Bool} : SE K (tC (.bl i)) (fC (.bool i)) := se_c fun _ => da_bool.mpr rfl
theorem se_non : SE K (tC .non) (fC .none) := se_c fun _ => da_none.mpr rfl
theorem se_var {i : Nat} : SE K (tVar i) (fVar i) := by
  intro C σ H env s as _ R post Q p k
  unfold fVar at p
  split at p
  · rename_i x e
    obtain ⟨v, h1, h2⟩ := R.env i _ e
    exact ⟨v, h1, k _ _ _ _ p R (Same.refl _) h2⟩
  · rename_i j e
    split at p
    · rename_i o xs e2
      obtain ⟨v, h1, a, h2, rfl⟩ := R.env i _ e
      have h3 := R.regs j a _ h2 e2
      unfold ROk at h3
      rw [if_neg (by simp)] at h3
      exact ⟨_, h1, k _ _ _ _ p R (Same.refl _) h3⟩
    · exact p.elim
  · exact p.elim
theorem se_op {r : R2} {o : PyData → PyData → (PyData → Prop) → Prop} {ta tb : TE} {a b : E} (ho : OpS K r o) (ha : SE K ta a) (hb : SE K tb b) : SE K (tOp r ta tb) (fOp o a b) := by
  intro C σ H env s as f R post Q p k
  refine ha C σ H env s as f R _ _ p fun x s1 v H1 p1 R1 m1 d1 => hb C σ H1 env s1 as f R1 _ _ p1 fun y s2 u H2 p2 R2 m2 d2 => ?_
  refine ho _ H2 x y v u _ Q R2.alloc (d1.same m2) d2 p2 fun z w H3 p3 m3 d3 => ?_
  obtain ⟨R3, m4⟩ := R2.same m3
  exact k z s2 w H3 p3 R3 ((m1.trans m2).trans m4) d3
theorem se_un {r : V → Hp → VK → Prop} {o : PyData → (PyData → Prop) → Prop} {ta : TE} {a : E} (ho : UnS K r o) (ha : SE K ta a) : SE K (tUn r ta) (fUn o a) := by
  intro C σ H env s as f R post Q p k
  refine ha C σ H env s as f R _ _ p fun x s1 v H1 p1 R1 m1 d1 => ?_
  refine ho _ H1 x v _ Q R1.alloc d1 p1 fun z w H3 p3 m3 d3 => ?_
  obtain ⟨R3, m4⟩ := R1.same m3
  exact k z s1 w H3 p3 R3 (m1.trans m4) d3
theorem sa_nil : SA K 0 tNil fNil := fun C σ H env s as _ R post Q p k => k _ _ _ _ p R (Same.refl _) da_nil rfl
theorem sa_cons {n : Nat} {ta : TE} {tr : TA} {a : E} {b : EA} (ha : SE K ta a) (hb : SA K n tr b) : SA K (n + 1) (tCons ta tr) (fCons a b) := by
  intro C σ H env s as f R post Q p k
  refine ha C σ H env s as f R _ _ p fun x s1 v H1 p1 R1 m1 d1 => hb C σ H1 env s1 as f R1 _ _ p1 fun y s2 u H2 p2 R2 m2 d2 l => ?_
  exact k _ _ _ _ p2 R2 (m1.trans m2) (da_cons (d1.same m2) d2) (by rw [List.length_cons, l])
theorem se_tup {n : Nat} {ta : TA} {a : EA} (ha : SA K n ta a) (hn : n ≤ 1000 := by decide) : SE K (tTup ta) (fTup a) := by
  intro C σ H env s as f R post Q p k
  refine ha C σ H env s as f R _ _ p fun xs s1 vs H1 p1 R1 m1 d1 l => ⟨by rw [d1.len, l, sizeLine_eq]; omega, fun q hq => ?_⟩
  obtain ⟨R2, m2⟩ := R1.same (same_new hq (.tup vs))
  exact k _ _ _ _ p1 R2 (m1.trans m2) (da_tup_new R1.alloc hq d1)
theorem se_lst {n : Nat} {ta : TA} {a : EA} (ha : SA K n ta a) (hn : n ≤ 1000 := by decide) : SE K (tLst ta) (fLst a) := by
  intro C σ H env s as f R post Q p k
  refine ha C σ H env s as f R _ _ p fun xs s1 vs H1 p1 R1 m1 d1 l => ⟨by rw [d1.len, l, sizeLine_eq]; omega, fun q hq => ?_⟩
  obtain ⟨R2, m2⟩ := R1.same (same_new hq (.lst vs))
  exact k _ _ _ _ p1 R2 (m1.trans m2) (da_lst_new R1.alloc hq d1)
/-- .. not yet seen -/
theorem sl_lst {n : Nat} {ta : TA} {a : EA} (ha : SA K n ta a) (hn : n ≤ 1000 := by decide) : SL K (tLst ta) a := by
  intro C σ H env s as f R post Q p k
  refine ha C σ H env s as f R _ _ p fun xs s1 vs H1 p1 R1 m1 d1 l => ⟨by rw [d1.len, l, sizeLine_eq]; omega, fun q hq => ?_⟩
  obtain ⟨n1, n2⟩ := R1.fresh0 f hq
  obtain ⟨R2, m2⟩ := R1.hide f hq (.lst vs)
  exact k _ _ _ _ _ _ p1 R2 (R1.keep (same_newW hq _)) (m1.trans m2) upd_same (d1.same m2) n1 n2
theorem SL.se {te : TE} {a : EA} (h : SL K te a) : SE K te (fLst a) := by
  intro C σ H env s as f R post Q p k
  refine h C σ H env s as f R _ _ p fun xs s1 D vs Hk H1 p1 R1 hk m1 e1 d1 n1 n2 => ?_
  obtain ⟨R2, m2⟩ := R1.show f n1 hk
  exact k _ _ _ _ p1 R2 (m1.trans m2) (da_list.mpr ⟨D, vs, rfl, by rw [hs_ne n1]; exact e1, d1.same m2⟩)
theorem se_cb {n : Nat} {r : List V → Hp → VK → Prop} {o : List PyData → (PyData → Prop) → Prop} {ta : TA} {a : EA} (ho : CbS K r o) (ha : SA K n ta a) : SE K (tCB r ta) (fCb o a) := by
  intro C σ H env s as f R post Q p k
  refine ha C σ H env s as f R _ _ p fun x s1 v H1 p1 R1 m1 d1 _ => ?_
  refine ho _ H1 x v _ Q R1.alloc d1 p1 fun z w H3 p3 m3 d3 => ?_
  obtain ⟨R3, m4⟩ := R1.same m3
  exact k z s1 w H3 p3 R3 (m1.trans m4) d3
theorem se_then {r : V → Hp → VK → Prop} {o : PyData → (PyData → Prop) → Prop} {ta : TE} {a : E} (ho : UnS K r o) (ha : SE K ta a) : SE K (tThen ta r) (fUn o a) := se_un (r := r) ho ha
theorem st_test {ta : TE} {a : E} (ha : SE K ta a) : ST K (tTest ta) (fTest a) := by
  intro C σ H env s as f R post Q p k
  refine ha C σ H env s as f R _ _ p fun x s1 v H1 p1 R1 m1 d1 => ?_
  cases x with
  | bool b =>
    rw [da_bool] at d1
    subst d1
    exact ⟨b, rfl, k _ _ _ p1 R1 m1⟩
  | _ => exact False.elim p1
theorem st_B {ta : TE} {a : E} (ha : SE K ta a) : ST K (tB ta) (fTest a) := st_test ha
theorem st_and {ta tb : TT} {a b : EB} (ha : ST K ta a) (hb : ST K tb b) : ST K (tAnd ta tb) (fAnd a b) := by
  intro C σ H env s as f R post Q p k
  refine ha C σ H env s as f R _ _ p fun x s1 H1 p1 R1 m1 => ?_
  cases x with
  | true => exact hb C σ H1 env s1 as f R1 _ _ p1 fun y s2 H2 p2 R2 m2 => k _ _ _ p2 R2 (m1.trans m2)
  | false => exact k _ _ _ p1 R1 m1
theorem st_or {ta tb : TT} {a b : EB} (ha : ST K ta a) (hb : ST K tb b) : ST K (tOr ta tb) (fOr a b) := by
  intro C σ H env s as f R post Q p k
  refine ha C σ H env s as f R _ _ p fun x s1 H1 p1 R1 m1 => ?_
  cases x with
  | false => exact hb C σ H1 env s1 as f R1 _ _ p1 fun y s2 H2 p2 R2 m2 => k _ _ _ p2 R2 (m1.trans m2)
  | true => exact k _ _ _ p1 R1 m1
theorem st_not {ta : TT} {a : EB} (ha : ST K ta a) : ST K (tNot ta) (fNot a) := by
  intro C σ H env s as f R post Q p k
  exact ha C σ H env s as f R _ _ p fun x s1 H1 p1 R1 m1 => k _ _ _ p1 R1 m1
theorem se_if {tt : TT} {ta tb : TE} {t : EB} {a b : E} (ht : ST K tt t) (ha : SE K ta a) (hb : SE K tb b) : SE K (tIf tt ta tb) (fIf t a b) := by
  intro C σ H env s as f R post Q p k
  refine ht C σ H env s as f R _ _ p fun x s1 H1 p1 R1 m1 => ?_
  cases x with
  | true => exact ha C σ H1 env s1 as f R1 _ _ p1 fun y s2 u H2 p2 R2 m2 d2 => k _ _ _ _ p2 R2 (m1.trans m2) d2
  | false => exact hb C σ H1 env s1 as f R1 _ _ p1 fun y s2 u H2 p2 R2 m2 d2 => k _ _ _ _ p2 R2 (m1.trans m2) d2
theorem so_none : SO K tNoPart fNoP := fun C σ H env s as _ R post Q p k => k _ _ _ p R (Same.refl _)
theorem so_some {ta : TE} {a : E} (ha : SE K ta a) : SO K (tPart ta) (fPart a) := by
  intro C σ H env s as f R post Q p k
  refine ha C σ H env s as f R _ _ p fun x s1 v H1 p1 R1 m1 d1 => ?_
  cases x with
  | int i =>
    rw [da_int] at d1
    subst d1
    exact ⟨i, rfl, k _ _ _ p1 R1 m1⟩
  | _ => exact False.elim p1
def SlS (K : PySem.W.Frag) (r : V → Option Int → Option Int → Hp → VK → Prop) (o : PyData → Option Int → Option Int → (PyData → Prop) → Prop) : Prop := ∀ (T : List Addr) (H : Hp) (x : PyData) (v : V) (lo hi : Option Int) (k : PyData → Prop) (Q : VK), (∀ a ∈ T, H a ≠ none) → Da K (hs T H) x v → o x lo hi k →
  (∀ z v H', k z → Same H H' → Da K (hs T H') z v → Q v H') → r v lo hi H Q
theorem se_sl {r : V → Option Int → Option Int → Hp → VK → Prop} {o : PyData → Option Int → Option Int → (PyData → Prop) → Prop} {ta : TE} {tl th : TO} {a : E} {l h : EO} (ho : SlS K r o) (ha : SE K ta a) (hl : SO K tl l) (hh : SO K th h) : SE K (tSl r ta tl th) (fSl o a l h) := by
  intro C σ H env s as f R post Q p k
  refine ha C σ H env s as f R _ _ p fun x s1 v H1 p1 R1 m1 d1 => hl C σ H1 env s1 as f R1 _ _ p1 fun lo s2 H2 p2 R2 m2 => hh C σ H2 env s2 as f R2 _ _ p2 fun hi s3 H3 p3 R3 m3 => ?_
  refine ho _ H3 x v lo hi _ Q R3.alloc ((d1.same m2).same m3) p3 fun z w H4 p4 m4 d4 => ?_
  obtain ⟨R4, m5⟩ := R3.same m4
  exact k z s3 w H4 p4 R4 (((m1.trans m2).trans m3).trans m5) d4
end
end FW
end

/-! W3 -/
section
namespace FW
open PySem PySem.Spec PyProof.Rows L2 FA
abbrev K2 := PyData → PyData → (PyData → Prop) → Prop
def oAddD : K2
  | .int i, .int j, k => k (.int (i + j))
  | .str a, .str b, k => a.length + b.length ≤ 1000000 ∧ k (.str (a ++ b))
  | .list xs, .list ys, k => xs.length + ys.length ≤ 1000000 ∧ k (.list (xs ++ ys))
  | .tuple xs, .tuple ys, k => xs.length + ys.length ≤ 1000000 ∧ k (.tuple (xs ++ ys))
  | _, _, _ => False
def oSubD : K2
  | .int i, .int j, k => k (.int (i - j))
  | _, _, _ => False
def oMulD : K2
  | .int i, .int j, k => CMul i j ∧ k (.int (i * j))
  | .str z, .int n, k => PySem.MulOk z n ∧ k (.str (Txt.mul z n))
  | .list xs, .int n, k => (-(2 ^ 63) ≤ n ∧ n < 2 ^ 63 ∧ xs.length * n.toNat ≤ 1000000) ∧ k (.list (List.replicate n.toNat xs).flatten)
  | _, _, _ => False
def oModD : K2
  | .int i, .int j, k => 0 < j ∧ k (.int (i % j))
  | _, _, _ => False
def oDivD : K2
  | .int i, .int j, k => CDivW i j ∧ k (.int (i / j))
  | _, _, _ => False
def oPowD : K2
  | .int i, .int j, k => CPow i j ∧ k (.int (i ^ j.toNat))
  | _, _, _ => False
def oLtD : K2
  | .int i, .int j, k => k (.bool (decide (i < j)))
  | .str a, .str b, k => k (.bool (decide (a.cps.toList < b.cps.toList)))
  | _, _, _ => False
def oLeD : K2
  | .int i, .int j, k => k (.bool (decide (i ≤ j)))
  | .str a, .str b, k => k (.bool (!decide (b.cps.toList < a.cps.toList)))
  | _, _, _ => False
def oGtD : K2
  | .int i, .int j, k => k (.bool (decide (j < i)))
  | _, _, _ => False
def oGeD : K2
  | .int i, .int j, k => k (.bool (decide (j ≤ i)))
  | _, _, _ => False
/-- a scalar -/
def scD : PyData → Bool
  | .none => true
  | .bool _ => true
  | .int _ => true
  | .str _ => true
  | _ => false
def vD : PyData → V
  | .none => .non
  | .bool b => .bl b
  | .int i => .int i
  | .str z => .str z
  | _ => .non
def oEqD : K2 := fun x y k => (scD x && scD y && scal (vD x) (vD y)) = true ∧ k (.bool (decide (vD x = vD y)))
def oNeD : K2 := fun x y k => (scD x && scD y && scal (vD x) (vD y)) = true ∧ k (.bool (!decide (vD x = vD y)))
/-- deep -/
def oEqX : K2 := fun x y k => SeqAt.shaped x = true ∧ SeqAt.shaped y = true ∧ k (.bool (PyData.eqv x y))
def oNeX : K2 := fun x y k => SeqAt.shaped x = true ∧ SeqAt.shaped y = true ∧ k (.bool (!PyData.eqv x y))
def isNone : PyData → Bool
  | .none => true
  | _ => false
def oIsN : K2 := fun x y k => match y with
  | .none => k (.bool (isNone x))
  | _ => False
def oNotN : K2 := fun x y k => match y with
  | .none => k (.bool (!isNone x))
  | _ => False
def oInD (neg : Bool) : K2 := fun x y k => match y with
  | .list ys => scD x = true ∧ ys.all scD = true ∧ k (.bool (if neg then !inV (vD x) (ys.map vD) else inV (vD x) (ys.map vD)))
  | .tuple ys => scD x = true ∧ ys.all scD = true ∧ k (.bool (if neg then !inV (vD x) (ys.map vD) else inV (vD x) (ys.map vD)))
  | _ => False
def oIxD : K2
  | .list xs, .int i, k => (match atI xs i with
    | some z => k z
    | none => False)
  | .tuple xs, .int i, k => (match atI xs i with
    | some z => k z
    | none => False)
  | .str z, .int i, k => z.length ≤ 1000000 ∧ (match atI z.cps.toList i with
    | some c => k (.str ⟨#[c]⟩)
    | none => False)
  | _, _, _ => False
def oSlD (x : PyData) (lo hi : Option Int) (k : PyData → Prop) : Prop := match x with
  | .list xs => k (.list (cutD xs lo hi))
  | .tuple xs => k (.tuple (cutD xs lo hi))
  | .str z => z.length ≤ 1000000 ∧ k (.str (cutS z lo hi))
  | _ => False
def oLenD (xs : List PyData) (k : PyData → Prop) : Prop := match xs with
  | [.list ys] => k (.int ys.length)
  | [.tuple ys] => k (.int ys.length)
  | [.str z] => z.length ≤ 1000000 ∧ k (.int z.length)
  | _ => False
def oListD (xs : List PyData) (k : PyData → Prop) : Prop := match xs with
  | [.list ys] => k (.list ys)
  | [.tuple ys] => k (.list ys)
  | _ => False
def oTupD (x : PyData) (k : PyData → Prop) : Prop := match x with
  | .list ys => k (.tuple ys)
  | .tuple ys => k (.tuple ys)
  | _ => False
def oNegD (x : PyData) (k : PyData → Prop) : Prop := match x with
  | .int i => k (.int (-i))
  | _ => False
def oAbsD (xs : List PyData) (k : PyData → Prop) : Prop := match xs with
  | [.int i] => k (.int (if i < 0 then -i else i))
  | _ => False
def oReprD (xs : List PyData) (k : PyData → Prop) : Prop := match xs with
  | [d] => d.showable = true ∧ d.depth ≤ 60 ∧ d.shown.length ≤ sizeLine ∧ k (.str d.shown)
  | _ => False
abbrev rAddW (K : PySem.W.Frag) : R2 := fun x y H Q => rAddA x y H Q ∨ rCatA K x y H Q
theorem opAddW {X : Cx} (K : PySem.W.Frag) (h : X.K = K) : OpR X (binaryOp .Add) (rAddW K) := by
  subst h
  exact OpR.or opAdd op_catA
abbrev rSlW (K : PySem.W.Frag) : V → Option Int → Option Int → Hp → VK → Prop := fun x lo hi H Q => FA.rSlA K x lo hi H Q ∨ L2.rSlA K x lo hi H Q
theorem slAnyW {X : Cx} (K : PySem.W.Frag) (h : X.K = K) : SlR X (rSlW K) := by
  subst h
  exact SlR.or slAny sl_tupA
theorem ixAnyW {X : Cx} (K : PySem.W.Frag) (h : X.K = K) : IxR X (rIxA K) := by subst h; exact ixAny
section
variable {K : PySem.W.Frag}
theorem hs_list {T : List Addr} {H : Hp} {a : Addr} {xs : List V} (h : hs T H a = some (.lst xs)) : H a = some (.lst xs) := (hs_some h).2
theorem os_add : OpS K (rAddW K) oAddD := by
  intro T H x y v1 v2 k Q al d1 d2 p q
  unfold oAddD at p
  split at p
  · rw [da_int] at d1 d2
    subst d1 d2
    exact .inl (.inl (.inl ⟨_, _, rfl, rfl, q _ _ _ p (Same.refl _) (da_int.mpr rfl)⟩))
  · rw [da_str] at d1 d2
    subst d1 d2
    exact .inl (.inl (.inr ⟨_, _, rfl, rfl, by rw [sizeLine_eq]; omega, q _ _ _ p.2 (Same.refl _) (da_str.mpr rfl)⟩))
  · obtain ⟨a, vs, rfl, e1, h1⟩ := da_list.mp d1
    obtain ⟨b, us, rfl, e2, h2⟩ := da_list.mp d2
    have l1 := h1.len
    have l2 := h2.len
    exact .inl (.inr ⟨a, b, vs, us, rfl, rfl, hs_list e1, hs_list e2, by rw [sizeLine_eq]; omega, fun r hr => q _ _ _ p.2 (same_new hr _) (da_lst_new al hr (h1.app h2))⟩)
  · obtain ⟨a, vs, rfl, e1, h1⟩ := da_tuple.mp d1
    obtain ⟨b, us, rfl, e2, h2⟩ := da_tuple.mp d2
    have l1 := h1.len
    have l2 := h2.len
    rename_i xs ys
    refine .inr ⟨a, b, vs, us, rfl, rfl, sqT_hs e1, sqT_hs e2, by rw [sizeLine_eq]; omega, fun e => ?_, fun e e' => ?_, fun e e' r hr => q _ _ _ p.2 (same_new hr _) (da_tup_new al hr (h1.app h2))⟩
    · have : xs = [] := List.eq_nil_of_length_eq_zero (by rw [← l1, e]; rfl)
      subst this
      exact q _ _ _ p.2 (Same.refl _) d2
    · have : ys = [] := List.eq_nil_of_length_eq_zero (by rw [← l2, e']; rfl)
      subst this
      exact q _ _ _ p.2 (Same.refl _) (by rw [List.append_nil]; exact d1)
  · exact p.elim
theorem os_ints {C : Int → Int → Prop} {g : Int → Int → V} {o : K2} (h : ∀ x y k, o x y k → ∃ i j z, x = .int i ∧ y = .int j ∧ C i j ∧ k z ∧ ∀ H, Da K H z (g i j)) : OpS K (rI C g) o := by
  intro T H x y v1 v2 k Q al d1 d2 p q
  obtain ⟨i, j, z, rfl, rfl, c, p, hz⟩ := h x y k p
  rw [da_int] at d1 d2
  subst d1 d2
  exact ⟨i, j, rfl, rfl, c, q z _ H p (Same.refl _) (hz _)⟩
theorem os_ints0 {g : Int → Int → V} {o : K2} (h : ∀ x y k, o x y k → ∃ i j z, x = .int i ∧ y = .int j ∧ k z ∧ ∀ H, Da K H z (g i j)) : OpS K (rI0 g) o := by
  intro T H x y v1 v2 k Q al d1 d2 p q
  obtain ⟨i, j, z, rfl, rfl, p, hz⟩ := h x y k p
  rw [da_int] at d1 d2
  subst d1 d2
  exact ⟨i, j, rfl, rfl, q z _ H p (Same.refl _) (hz _)⟩
theorem os_sub : OpS K rSubA oSubD := os_ints0 fun x y k p => by
  unfold oSubD at p
  split at p
  · exact ⟨_, _, _, rfl, rfl, p, fun _ => da_int.mpr rfl⟩
  · exact p.elim
theorem os_mod : OpS K rModA oModD := os_ints fun x y k p => by
  unfold oModD at p
  split at p
  · exact ⟨_, _, _, rfl, rfl, p.1, p.2, fun _ => da_int.mpr rfl⟩
  · exact p.elim
theorem os_div : OpS K rDivA oDivD := os_ints fun x y k p => by
  unfold oDivD at p
  split at p
  · exact ⟨_, _, _, rfl, rfl, p.1, p.2, fun _ => da_int.mpr rfl⟩
  · exact p.elim
theorem os_pow : OpS K rPowA oPowD := os_ints fun x y k p => by
  unfold oPowD at p
  split at p
  · exact ⟨_, _, _, rfl, rfl, p.1, p.2, fun _ => da_int.mpr rfl⟩
  · exact p.elim
theorem os_gt : OpS K rGtA oGtD := os_ints0 fun x y k p => by
  unfold oGtD at p
  split at p
  · exact ⟨_, _, _, rfl, rfl, p, fun _ => da_bool.mpr rfl⟩
  · exact p.elim
theorem os_ge : OpS K rGeA oGeD := os_ints0 fun x y k p => by
  unfold oGeD at p
  split at p
  · exact ⟨_, _, _, rfl, rfl, p, fun _ => da_bool.mpr rfl⟩
  · exact p.elim
theorem os_mul : OpS K rMulA oMulD := by
  intro T H x y v1 v2 k Q al d1 d2 p q
  unfold oMulD at p
  split at p
  · rw [da_int] at d1 d2
    subst d1 d2
    exact .inl (.inl ⟨_, _, rfl, rfl, p.1, q _ _ _ p.2 (Same.refl _) (da_int.mpr rfl)⟩)
  · rw [da_str] at d1
    rw [da_int] at d2
    subst d1 d2
    exact .inr ⟨_, _, rfl, rfl, p.1, q _ _ _ p.2 (Same.refl _) (da_str.mpr rfl)⟩
  · obtain ⟨a, vs, rfl, e1, h1⟩ := da_list.mp d1
    rw [da_int] at d2
    subst d2
    obtain ⟨⟨n1, n2, n3⟩, p⟩ := p
    rename_i xs n
    refine .inl (.inr ⟨a, n, vs, rfl, rfl, hs_list e1, n1, n2, by rw [h1.len, sizeLine_eq]; omega, fun r hr => q _ _ _ p (same_new hr _) (da_lst_new al hr ?_)⟩)
    clear q n1 n2 n3 p
    induction n.toNat with
    | zero => exact da_nil
    | succ m ih => rw [List.replicate_succ, List.replicate_succ, List.flatten_cons, List.flatten_cons]; exact h1.app ih
  · exact p.elim
theorem os_lt : OpS K rLtA oLtD := by
  intro T H x y v1 v2 k Q al d1 d2 p q
  unfold oLtD at p
  split at p
  · rw [da_int] at d1 d2
    subst d1 d2
    exact .inl ⟨_, _, rfl, rfl, q _ _ _ p (Same.refl _) (da_bool.mpr rfl)⟩
  · rw [da_str] at d1 d2
    subst d1 d2
    exact .inr ⟨_, _, rfl, rfl, q _ _ _ p (Same.refl _) (da_bool.mpr rfl)⟩
  · exact p.elim
theorem os_le : OpS K rLeA oLeD := by
  intro T H x y v1 v2 k Q al d1 d2 p q
  unfold oLeD at p
  split at p
  · rw [da_int] at d1 d2
    subst d1 d2
    exact .inl ⟨_, _, rfl, rfl, q _ _ _ p (Same.refl _) (da_bool.mpr rfl)⟩
  · rw [da_str] at d1 d2
    subst d1 d2
    exact .inr ⟨_, _, rfl, rfl, q _ _ _ p (Same.refl _) (da_bool.mpr rfl)⟩
  · exact p.elim
theorem vD_of {H : Hp} {x : PyData} {v : V} (s : scD x = true) (h : Da K H x v) : v = vD x := by
  cases x with
  | none => exact da_none.mp h
  | bool b => exact da_bool.mp h
  | int i => exact da_int.mp h
  | str z => exact da_str.mp h
  | _ => cases s
theorem os_eq : OpS K rEq oEqD := by
  intro T H x y v1 v2 k Q al d1 d2 p q
  obtain ⟨c, p⟩ := p
  rw [Bool.and_eq_true, Bool.and_eq_true] at c
  rw [vD_of c.1.1 d1, vD_of c.1.2 d2]
  exact ⟨c.2, q _ _ _ p (Same.refl _) (da_bool.mpr rfl)⟩
theorem os_ne : OpS K rNe oNeD := by
  intro T H x y v1 v2 k Q al d1 d2 p q
  obtain ⟨c, p⟩ := p
  rw [Bool.and_eq_true, Bool.and_eq_true] at c
  rw [vD_of c.1.1 d1, vD_of c.1.2 d2]
  exact ⟨c.2, q _ _ _ p (Same.refl _) (da_bool.mpr rfl)⟩
theorem isN_of {H : Hp} {x : PyData} {v : V} (d1 : Da K H x v) : decide (v = .non) = isNone x := by
  cases x with
  | none => rw [da_none] at d1; subst d1; rfl
  | bool b => rw [da_bool] at d1; subst d1; rfl
  | int b => rw [da_int] at d1; subst d1; rfl
  | str b => rw [da_str] at d1; subst d1; rfl
  | list b => obtain ⟨a, vs, rfl, _⟩ := da_list.mp d1; rfl
  | tuple b => obtain ⟨a, vs, rfl, _⟩ := da_tuple.mp d1; rfl
  | dict b => obtain ⟨a, vs, rfl, _⟩ := da_dict.mp d1; rfl
theorem os_isN : OpS K rIsN oIsN := by
  intro T H x y v1 v2 k Q al d1 d2 p q
  unfold oIsN at p
  split at p
  · rw [da_none] at d2
    exact ⟨d2, by rw [isN_of d1]; exact q _ _ _ p (Same.refl _) (da_bool.mpr rfl)⟩
  · exact p.elim
theorem os_notN : OpS K rNotN oNotN := by
  intro T H x y v1 v2 k Q al d1 d2 p q
  unfold oNotN at p
  split at p
  · rw [da_none] at d2
    exact ⟨d2, by rw [isN_of d1]; exact q _ _ _ p (Same.refl _) (da_bool.mpr rfl)⟩
  · exact p.elim
theorem flat_vD {x : PyData} : flatV (vD x) = true := by cases x <;> rfl
theorem flat_vDs {xs : List PyData} : (xs.map vD).all flatV = true := by
  rw [List.all_map, List.all_eq_true]
  intro x _
  exact flat_vD
theorem vDs_of {H : Hp} : ∀ {xs : List PyData} {vs : List V}, xs.all scD = true → DaAll K H xs vs → vs = xs.map vD
  | [], _, _, h => h.nil_eq
  | x :: xs, _, s, h => by
    obtain ⟨v, r, rfl, h1, h2⟩ := h.uncons
    rw [List.all_cons, Bool.and_eq_true] at s
    rw [List.map_cons, ← vDs_of s.2 h2, vD_of s.1 h1]
theorem os_in (neg : Bool) : OpS K (rIn K neg) (oInD neg) := by
  intro T H x y v1 v2 k Q al d1 d2 p q
  unfold oInD at p
  split at p
  · obtain ⟨a, vs, rfl, e1, h1⟩ := da_list.mp d2
    obtain ⟨s1, s2, p⟩ := p
    have e := vDs_of s2 h1
    subst e
    rw [vD_of s1 d1]
    exact ⟨a, _, rfl, .inl (SqL.of (hs_list e1)), flat_vD, flat_vDs, q _ _ _ p (Same.refl _) (da_bool.mpr rfl)⟩
  · obtain ⟨a, vs, rfl, e1, h1⟩ := da_tuple.mp d2
    obtain ⟨s1, s2, p⟩ := p
    have e := vDs_of s2 h1
    subst e
    rw [vD_of s1 d1]
    exact ⟨a, _, rfl, .inr (sqT_hs e1), flat_vD, flat_vDs, q _ _ _ p (Same.refl _) (da_bool.mpr rfl)⟩
  · exact p.elim
mutual
theorem dp_of {T : List Addr} {H : Hp} : ∀ {x : PyData} {v : V}, SeqAt.shaped x = true ∨ x.canLay0 = true → Da K (hs T H) x v → Dp K H v x
  | .none, v, _, h => by rw [da_none] at h; subst h; exact .non
  | .bool b, v, _, h => by rw [da_bool] at h; subst h; exact .bl b
  | .int i, v, _, h => by rw [da_int] at h; subst h; exact .int i
  | .str z, v, _, h => by rw [da_str] at h; subst h; exact .str z
  | .list xs, v, c, h => by
    obtain ⟨a, vs, rfl, e, hd⟩ := da_list.mp h
    have c' : PyData.canLayAll0 xs = true := by
      rcases c with c | c
      · unfold SeqAt.shaped at c
        rw [Bool.and_eq_true] at c
        simpa only [PyData.canLay0] using c.1
      · simpa only [PyData.canLay0] using c
    exact .lst (SqL.of (hs_list e)) (dpAll_of c' hd)
  | .tuple xs, v, c, h => by
    obtain ⟨a, vs, rfl, e, hd⟩ := da_tuple.mp h
    have c' : PyData.canLayAll0 xs = true := by
      rcases c with c | c
      · unfold SeqAt.shaped at c
        rw [Bool.and_eq_true] at c
        simpa only [PyData.canLay0] using c.1
      · simpa only [PyData.canLay0] using c
    exact .tup (sqT_hs e) (dpAll_of c' hd)
  | .dict xs, v, c, h => by
    rcases c with c | c
    · unfold SeqAt.shaped at c
      rw [Bool.and_eq_true] at c
      exact absurd c.1 (by simp [PyData.canLay0])
    · exact absurd c (by simp [PyData.canLay0])
theorem dpAll_of {T : List Addr} {H : Hp} : ∀ {xs : List PyData} {vs : List V}, PyData.canLayAll0 xs = true → DaAll K (hs T H) xs vs → DpAll K H vs xs
  | [], _, _, h => by rw [h.nil_eq]; exact .nil
  | x :: xs, _, c, h => by
    obtain ⟨v, r, rfl, h1, h2⟩ := h.uncons
    simp only [PyData.canLayAll0, Bool.and_eq_true] at c
    exact .cons (dp_of (.inr c.1) h1) (dpAll_of c.2 h2)
end
theorem os_eqX : OpS K (rEqD K) oEqX := by
  intro T H x y v1 v2 k Q al d1 d2 p q
  obtain ⟨s1, s2, p⟩ := p
  exact ⟨x, y, dp_of (.inl s1) d1, dp_of (.inl s2) d2, s1, s2, q _ _ _ p (Same.refl _) (da_bool.mpr rfl)⟩
theorem os_neX : OpS K (rNeD K) oNeX := by
  intro T H x y v1 v2 k Q al d1 d2 p q
  obtain ⟨s1, s2, p⟩ := p
  exact ⟨x, y, dp_of (.inl s1) d1, dp_of (.inl s2) d2, s1, s2, q _ _ _ p (Same.refl _) (da_bool.mpr rfl)⟩
theorem at_of {H : Hp} {xs : List PyData} {vs : List V} {i : Int} {z : PyData} (h : DaAll K H xs vs) (e : atI xs i = some z) : ∃ v, atI vs i = some v ∧ Da K H z v := by
  unfold atI at e ⊢
  rw [h.len]
  cases q : ixN xs.length i with
  | none => rw [q] at e; cases e
  | some j =>
    rw [q] at e
    exact h.get (i := j) e
theorem os_ix : OpS K (rIxA K) oIxD := by
  intro T H x y v1 v2 k Q al d1 d2 p q
  unfold oIxD at p
  split at p
  · rw [da_int] at d2
    subst d2
    obtain ⟨a, vs, rfl, e1, h1⟩ := da_list.mp d1
    split at p
    · rename_i z e
      obtain ⟨v, h2, h3⟩ := at_of h1 e
      exact .inl ⟨a, vs, _, v, rfl, rfl, SqL.of (hs_list e1), h2, q _ _ _ p (Same.refl _) h3⟩
    · exact p.elim
  · rw [da_int] at d2
    subst d2
    obtain ⟨a, vs, rfl, e1, h1⟩ := da_tuple.mp d1
    split at p
    · rename_i z e
      obtain ⟨v, h2, h3⟩ := at_of h1 e
      exact .inr (.inl ⟨a, vs, _, v, rfl, rfl, sqT_hs e1, h2, q _ _ _ p (Same.refl _) h3⟩)
    · exact p.elim
  · rw [da_int] at d2
    rw [da_str] at d1
    subst d1 d2
    obtain ⟨l, p⟩ := p
    split at p
    · rename_i c e
      exact .inr (.inr ⟨_, _, c, rfl, rfl, by rw [sizeLine_eq]; omega, e, q _ _ _ p (Same.refl _) (da_str.mpr rfl)⟩)
    · exact p.elim
  · exact p.elim
theorem ss_any : SlS K (rSlW K) oSlD := by
  intro T H x v lo hi k Q al d p q
  unfold oSlD at p
  split at p
  · obtain ⟨a, vs, rfl, e1, h1⟩ := da_list.mp d
    exact .inl (.inl ⟨a, vs, rfl, SqL.of (hs_list e1), fun r hr => q _ _ _ p (same_new hr _) (da_lst_new al hr (h1.cut lo hi))⟩)
  · obtain ⟨a, vs, rfl, e1, h1⟩ := da_tuple.mp d
    refine .inr ⟨a, vs, rfl, sqT_hs e1, fun w => ?_, fun _ r hr => q _ _ _ p (same_new hr _) (da_tup_new al hr (h1.cut lo hi))⟩
    rename_i xs
    rw [h1.len] at w
    have e : cutD xs lo hi = xs := by
      unfold cutD
      rw [w.1, w.2, List.drop_zero, Nat.sub_zero, List.take_length]
    exact q _ _ _ p (Same.refl _) (by rw [e]; exact d)
  · rw [da_str] at d
    subst d
    exact .inl (.inr ⟨_, rfl, by rw [sizeLine_eq]; have := p.1; omega, q _ _ _ p.2 (Same.refl _) (da_str.mpr rfl)⟩)
  · exact p.elim
theorem one_of {H : Hp} {x : PyData} {vs : List V} (h : DaAll K H [x] vs) : ∃ v, vs = [v] ∧ Da K H x v := by
  obtain ⟨v, r, rfl, h1, h2⟩ := h.uncons
  rw [h2.nil_eq]
  exact ⟨v, rfl, h1⟩
theorem cs_len : CbS K (rLenA K) oLenD := by
  intro T H xs vs k Q al d p q
  unfold oLenD at p
  split at p
  · obtain ⟨v, rfl, h⟩ := one_of d
    obtain ⟨a, us, rfl, e1, h1⟩ := da_list.mp h
    exact .inl ⟨a, us, rfl, .inl (SqL.of (hs_list e1)), by rw [h1.len]; exact q _ _ _ p (Same.refl _) (da_int.mpr rfl)⟩
  · obtain ⟨v, rfl, h⟩ := one_of d
    obtain ⟨a, us, rfl, e1, h1⟩ := da_tuple.mp h
    exact .inl ⟨a, us, rfl, .inr (sqT_hs e1), by rw [h1.len]; exact q _ _ _ p (Same.refl _) (da_int.mpr rfl)⟩
  · obtain ⟨v, rfl, h⟩ := one_of d
    rw [da_str] at h
    subst h
    exact .inr ⟨_, rfl, by rw [sizeLine_eq]; have := p.1; omega, q _ _ _ p.2 (Same.refl _) (da_int.mpr rfl)⟩
  · exact p.elim
theorem cs_list : CbS K (rListOf K) oListD := by
  intro T H xs vs k Q al d p q
  unfold oListD at p
  split at p
  · obtain ⟨v, rfl, h⟩ := one_of d
    obtain ⟨a, us, rfl, e1, h1⟩ := da_list.mp h
    exact ⟨a, us, rfl, .inl (SqL.of (hs_list e1)), fun l hl => q _ _ _ p (same_new hl _) (da_lst_new al hl h1)⟩
  · obtain ⟨v, rfl, h⟩ := one_of d
    obtain ⟨a, us, rfl, e1, h1⟩ := da_tuple.mp h
    exact ⟨a, us, rfl, .inr (sqT_hs e1), fun l hl => q _ _ _ p (same_new hl _) (da_lst_new al hl h1)⟩
  · exact p.elim
/-- list(x), not yet seen -/
theorem sl_listOf {ta : TE} {a : E} (ha : SE K ta a) : SL K (tCB (rListOf K) (tCons ta tNil)) (fun env s post => a env s fun x s1 => match x with
    | .list ys => post ys s1
    | .tuple ys => post ys s1
    | _ => False) := by
  intro C σ H env s as f R post Q p k
  refine ha C σ H env s as f R _ _ p fun x s1 v H1 p1 R1 m1 d1 => ?_
  have go : ∀ (b : Addr) (us : List V) (ys : List PyData), v = .ref b → (SqL K H1 b us ∨ SqT K H1 b us) → DaAll K (hs (cur C s1.rs as) H1) ys us → post ys s1 → tNil σ H1 fun xs H2 => rListOf K (v :: xs) H2 Q := by
    intro b us ys e h1 h2 p2
    refine ⟨b, us, by rw [e], h1, fun l hl => ?_⟩
    obtain ⟨n1, n2⟩ := R1.fresh0 f hl
    obtain ⟨R2, m2⟩ := R1.hide f hl (.lst us)
    exact k _ _ _ _ _ _ p2 R2 (R1.keep (same_newW hl _)) (m1.trans m2) upd_same (h2.same m2) n1 n2
  cases x with
  | list ys =>
    obtain ⟨b, us, e, e1, h1⟩ := da_list.mp d1
    exact go b us ys e (.inl (SqL.of (hs_list e1))) h1 p1
  | tuple ys =>
    obtain ⟨b, us, e, e1, h1⟩ := da_tuple.mp d1
    exact go b us ys e (.inr (sqT_hs e1)) h1 p1
  | _ => exact False.elim p1
theorem us_tup : UnS K (kTup K) oTupD := by
  intro T H x v k Q al d p q
  unfold oTupD at p
  split at p
  · obtain ⟨a, us, rfl, e1, h1⟩ := da_list.mp d
    exact .inl ⟨a, us, rfl, SqL.of (hs_list e1), fun l hl => q _ _ _ p (same_new hl _) (da_tup_new al hl h1)⟩
  · obtain ⟨a, us, rfl, e1, h1⟩ := da_tuple.mp d
    exact .inr ⟨a, us, rfl, sqT_hs e1, q _ _ _ p (Same.refl _) d⟩
  · exact p.elim
theorem us_neg : UnS K (rU fun i => V.int (-i)) oNegD := by
  intro T H x v k Q al d p q
  unfold oNegD at p
  split at p
  · rw [da_int] at d
    subst d
    exact ⟨_, rfl, q _ _ _ p (Same.refl _) (da_int.mpr rfl)⟩
  · exact p.elim
end
end FW
end

/-! W4 -/
section
namespace FW
open PySem PySem.Spec PyProof.Rows L2 FA
/-! statements -/
inductive Out
  | nxt (env : Env)
  | ret (x : PyData)
  | brk (env : Env)
  | cnt (env : Env)
abbrev ES := Env → M Out
abbrev ET := Env → PyData → (Env → Prop) → Prop
section
variable (K : PySem.W.Frag)
def SS (t : TS) (f : ES) : Prop := ∀ (C : Fr) (σ : L2.St) (H : Hp) (env : Env) (s : S) (as : List Addr), FrOk C → Rel K C σ H env s as → ∀ (post : Out → S → Prop) (Dn : Ends), f env s post →
  (∀ o s' σ' H' env' ex x v, post o s' → Rel K C σ' H' env' s' (as ++ ex) → Same (hs (cur C s.rs as) H) (hs (cur C s'.rs (as ++ ex)) H') →
    (o = .nxt env' → Dn.nx σ' H') ∧ (o = .brk env' → Dn.bk σ' H') ∧ (o = .cnt env' → Dn.ct σ' H') ∧ (o = .ret x → Da K (hs (cur C s'.rs (as ++ ex)) H') x v → Dn.rt v H')) → t Dn σ H
def SG (g : TG) (a : ET) : Prop := ∀ (C : Fr) (σ : L2.St) (H : Hp) (env : Env) (s : S) (as : List Addr), Rel K C σ H env s as → ∀ (x : PyData) (v : V) (post : Env → Prop) (Q : L2.St → Hp → Prop), Da K (hs (cur C s.rs as) H) x v → a env x post →
  (∀ env' σ', post env' → Rel K C σ' H env' s as → Q σ' H) → g v σ H Q
/-- what is walked: its items come one by one -/
def ItOk (T : List Addr) (H : Hp) (J : It) (xs : List PyData) : Prop := ∃ (G : Hp → Prop) (Y : Nat → Hp → V → Hp → Prop), Walk J xs.length G Y ∧ (∀ (T2 : List Addr) (H2 : Hp), Same (hs T H) (hs T2 H2) → G H2) ∧
  ∀ (T2 : List Addr) (H2 : Hp) (i : Nat) (v : V) (H3 : Hp), Same (hs T H) (hs T2 H2) → (∀ a ∈ T2, H2 a ≠ none) → i < xs.length → Y i H2 v H3 → Same H2 H3 ∧ ∃ x, xs[i]? = some x ∧ Da K (hs T2 H3) x v
def SI (wi : TI) (e : EA) : Prop := ∀ (C : Fr) (σ : L2.St) (H : Hp) (env : Env) (s : S) (as : List Addr), FrOk C → Rel K C σ H env s as → ∀ (post : List PyData → S → Prop) (R : It → Hp → Prop), e env s post →
  (∀ xs s' J H', post xs s' → Rel K C σ H' env s' as → Same (hs (cur C s.rs as) H) (hs (cur C s'.rs as) H') → ItOk K (hs (cur C s'.rs as) H' |> fun _ => cur C s'.rs as) H' J xs → R J H') → wi σ H R
end
def sSeq (f g : ES) : ES := fun env s post => f env s fun o s' => match o with
  | .nxt env' => g env' s' post
  | o => post o s'
def sNext : ES := fun env s post => post (.nxt env) s
def sRet (e : E) : ES := fun env s post => e env s fun x s' => post (.ret x) s'
def sRetN : ES := fun _ s post => post (.ret .none) s
def sDrop (e : E) : ES := fun env s post => e env s fun _ s' => post (.nxt env) s'
def sAsg (e : E) (g : ET) : ES := fun env s post => e env s fun x s' => g env x fun env' => post (.nxt env') s'
def sIf (t : EB) (f g : ES) : ES := fun env s post => t env s fun b s' => if b = true then f env s' post else g env s' post
def sPar (i j : Nat) (e : EA) : ES := fun env s post => e env s fun xs s' => match xs with
  | [x, y] => post (.nxt ((env.set i (some (.dat x))).set j (some (.dat y)))) s'
  | _ => False
def aName (i : Nat) : ET := fun env x post => post (env.set i (some (.dat x)))
def aTup (is : List ET) : ET := fun env x post => match x with
  | .tuple xs => xs.length = is.length ∧ go is xs env post
  | _ => False
where go : List ET → List PyData → Env → (Env → Prop) → Prop
  | a :: as, x :: xs, env, post => a env x fun env' => go as xs env' post
  | [], [], env, post => post env
  | _, _, _, _ => False
def forGo (tg : ET) (body : ES) : List PyData → Env → M Out
  | [], env, s, post => post (.nxt env) s
  | x :: xs, env, s, post => tg env x fun env1 => body env1 s fun o s' => match o with
    | .nxt env2 => forGo tg body xs env2 s' post
    | .cnt env2 => forGo tg body xs env2 s' post
    | .brk env2 => post (.nxt env2) s'
    | .ret y => post (.ret y) s'
def sFor (it : EA) (tg : ET) (body : ES) : ES := fun env s post => it env s fun xs s1 => forGo tg body xs env s1 post
/-- a new list at a name, to be changed -/
def sNew (i : Nat) (e : EA) : ES := fun env s post => e env s fun xs s' => post (.nxt (env.set i (some (.reg s'.rs.length)))) ⟨s'.n, s'.rs ++ [⟨true, true, xs⟩]⟩
/-- x.append(e) -/
def sApp (i : Nat) (e : E) : ES := fun env s post => match env[i]? with
  | some (some (.reg j)) => (match s.rs[j]? with
    | some ⟨true, _, _⟩ => e env s fun y s' => (match s'.rs[j]? with
      | some ⟨true, o, xs⟩ => xs.length < 1000000 ∧ post (.nxt env) ⟨s'.n, s'.rs.set j ⟨true, o, xs ++ [y]⟩⟩
      | _ => False)
    | _ => False)
  | _ => False
/-- x.pop() -/
def fPop (i : Nat) : E := fun env s post => match env[i]? with
  | some (some (.reg j)) => (match s.rs[j]? with
    | some ⟨true, o, xs⟩ => (match xs.getLast? with
      | some y => post y ⟨s.n, s.rs.set j ⟨true, o, xs.dropLast⟩⟩
      | none => False)
    | _ => False)
  | _ => False
/-- len(x) of a list that may yet be changed -/
def fLenR (i : Nat) : E := fun env s post => match env[i]? with
  | some (some (.reg j)) => (match s.rs[j]? with
    | some ⟨true, _, xs⟩ => post (.int xs.length) s
    | _ => False)
  | _ => False
section
variable {K : PySem.W.Frag}
theorem ss_next : SS K tNext sNext := by
  intro C σ H env s as f R post Dn p k
  exact (k _ _ _ _ env [] .none .non p (by simpa using R) (by simpa using Same.refl _)).1 rfl
theorem ss_seq {t u : TS} {f g : ES} (hf : SS K t f) (hg : SS K u g) : SS K (tSeq t u) (sSeq f g) := by
  intro C σ H env s as F R post Dn p k
  refine hf C σ H env s as F R _ { Dn with nx := u Dn } p fun o s' σ' H' env' ex x v p1 R1 m1 => ⟨fun e => ?_, fun e => ?_, fun e => ?_, fun e d => ?_⟩
  · subst e
    refine hg C σ' H' env' s' (as ++ ex) F R1 _ Dn p1 fun o s2 σ2 H2 env2 ex2 x v p2 R2 m2 => ?_
    have e3 : as ++ ex ++ ex2 = as ++ (ex ++ ex2) := List.append_assoc _ _ _
    rw [e3] at R2 m2
    have := k o s2 σ2 H2 env2 (ex ++ ex2) x v p2 R2 (m1.trans m2)
    rw [e3]
    exact this
  · subst e
    exact (k _ _ σ' H' env' ex x v p1 R1 m1).2.1 rfl
  · subst e
    exact (k _ _ σ' H' env' ex x v p1 R1 m1).2.2.1 rfl
  · subst e
    exact (k _ _ σ' H' env' ex x v p1 R1 m1).2.2.2 rfl d
theorem ss_ret {te : TE} {e : E} (h : SE K te e) : SS K (tRet te) (sRet e) := by
  intro C σ H env s as F R post Dn p k
  refine h C σ H env s as F R _ _ p fun x s' v H' p1 R1 m1 d1 => ?_
  exact (k _ _ σ H' env [] x v p1 (by simpa using R1) (by simpa using m1)).2.2.2 rfl (by simpa using d1)
theorem ss_retN : SS K tRetN sRetN := by
  intro C σ H env s as F R post Dn p k
  exact (k _ _ σ H env [] .none .non p (by simpa using R) (by simpa using Same.refl _)).2.2.2 rfl (da_none.mpr rfl)
theorem ss_drop {te : TE} {e : E} (h : SE K te e) : SS K (tDrop te) (sDrop e) := by
  intro C σ H env s as F R post Dn p k
  refine h C σ H env s as F R _ _ p fun x s' v H' p1 R1 m1 d1 => ?_
  exact (k _ _ σ H' env [] x v p1 (by simpa using R1) (by simpa using m1)).1 rfl
theorem ss_asg {te : TE} {e : E} {g : TG} {a : ET} (h : SE K te e) (hg : SG K g a) : SS K (tAsg te g) (sAsg e a) := by
  intro C σ H env s as F R post Dn p k
  refine h C σ H env s as F R _ _ p fun x s' v H' p1 R1 m1 d1 => ?_
  refine hg C σ H' env s' as R1 x v _ _ d1 p1 fun env' σ' p2 R2 => ?_
  exact (k _ _ σ' H' env' [] x v p2 (by simpa using R2) (by simpa using m1)).1 rfl
theorem ss_if {tt : TT} {t : EB} {tu tw : TS} {f g : ES} (ht : ST K tt t) (hf : SS K tu f) (hg : SS K tw g) : SS K (tIfS tt tu tw) (sIf t f g) := by
  intro C σ H env s as F R post Dn p k
  refine ht C σ H env s as F R _ _ p fun b s' H' p1 R1 m1 => ?_
  cases b with
  | true => exact hf C σ H' env s' as F R1 _ Dn p1 fun o s2 σ2 H2 env2 ex2 x v p2 R2 m2 => k o s2 σ2 H2 env2 ex2 x v p2 R2 (m1.trans m2)
  | false => exact hg C σ H' env s' as F R1 _ Dn p1 fun o s2 σ2 H2 env2 ex2 x v p2 R2 m2 => k o s2 σ2 H2 env2 ex2 x v p2 R2 (m1.trans m2)
theorem ss_par {i j : Nat} {ta : TA} {e : EA} (h : SA K 2 ta e) : SS K (tPar i j ta) (sPar i j e) := by
  intro C σ H env s as F R post Dn p k
  refine h C σ H env s as F R _ _ p fun xs s' vs H' p1 R1 m1 d1 l => ?_
  match xs, l with
  | [x, y], _ =>
    obtain ⟨v, r, rfl, h1, h2⟩ := d1.uncons
    obtain ⟨w, r2, rfl, h3, h4⟩ := h2.uncons
    rw [h4.nil_eq]
    refine ⟨v, w, rfl, ?_⟩
    have R2 := (R1.set (i := i) (u := .dat x) (v := v) h1).set (i := j) (u := .dat y) (v := w) h3
    exact (k _ _ _ H' _ [] x v p1 (by simpa using R2) (by simpa using m1)).1 rfl
theorem sg_name {i : Nat} : SG K (gName i) (aName i) := fun C σ H env s as R x v post Q d p k => k _ _ p (R.set d)
theorem sg_tup {n : Nat} {ts : TGs} {is : List ET} (hn : is.length = n) (h : ∀ (C : Fr) (σ : L2.St) (H : Hp) (env : Env) (s : S) (as : List Addr), Rel K C σ H env s as → ∀ (xs : List PyData) (vs : List V) (post : Env → Prop) (Q : L2.St → Hp → Prop), DaAll K (hs (cur C s.rs as) H) xs vs → aTup.go is xs env post →
    (∀ env' σ', post env' → Rel K C σ' H env' s as → Q σ' H) → ts vs σ H Q) : SG K (gTup K n ts) (aTup is) := by
  intro C σ H env s as R x v post Q d p k
  unfold aTup at p
  split at p
  · obtain ⟨a, vs, rfl, e1, h1⟩ := da_tuple.mp d
    exact ⟨a, vs, rfl, sqT_hs e1, by rw [h1.len, p.1, hn], h C σ H env s as R _ vs post Q h1 p.2 k⟩
  · exact p.elim
def SGs (K : PySem.W.Frag) (ts : TGs) (is : List ET) : Prop := ∀ (C : Fr) (σ : L2.St) (H : Hp) (env : Env) (s : S) (as : List Addr), Rel K C σ H env s as → ∀ (xs : List PyData) (vs : List V) (post : Env → Prop) (Q : L2.St → Hp → Prop), DaAll K (hs (cur C s.rs as) H) xs vs → aTup.go is xs env post →
    (∀ env' σ', post env' → Rel K C σ' H env' s as → Q σ' H) → ts vs σ H Q
theorem sgs_nil : SGs K gNil [] := by
  intro C σ H env s as R xs vs post Q d p k
  match xs, p with
  | [], p => rw [d.nil_eq]; exact ⟨rfl, k _ _ p R⟩
theorem sgs_cons {g : TG} {a : ET} {ts : TGs} {is : List ET} (hg : SG K g a) (hr : SGs K ts is) : SGs K (gCons g ts) (a :: is) := by
  intro C σ H env s as R xs vs post Q d p k
  match xs, p with
  | x :: xs, p =>
    obtain ⟨v, r, rfl, h1, h2⟩ := d.uncons
    exact ⟨v, r, rfl, hg C σ H env s as R x v _ _ h1 p fun env' σ' p1 R1 => hr C σ' H env' s as R1 xs r post Q h2 p1 k⟩
theorem ss_for {wi : TI} {it : EA} {g : TG} {a : ET} {tb : TS} {body : ES} (hi : SI K wi it) (hg : SG K g a) (hb : SS K tb body) : SS K (tFor wi g tb) (sFor it a body) := by
  intro C σ H env s as F R post Dn p k
  refine hi C σ H env s as F R _ _ p fun xs s1 J H1 p1 R1 m1 ok => ?_
  obtain ⟨G, Y, w, hG, hY⟩ := ok
  refine for_it w (fun i σ' H' => ∃ env' s' ex, forGo a body (xs.drop i) env' s' post ∧ Rel K C σ' H' env' s' (as ++ ex) ∧ Same (hs (cur C s1.rs as) H1) (hs (cur C s'.rs (as ++ ex)) H'))
    ⟨env, s1, [], by rw [List.drop_zero]; exact p1, by simpa using R1, by simpa using Same.refl _⟩ (fun i σ' H' _ ⟨_, _, _, _, _, m⟩ => hG _ _ m) ?_ ?_
  · rintro i v σ2 H2 H3 hlt ⟨env2, s2, ex2, p2, R2, m2⟩ y
    obtain ⟨m3, x, ex, dx⟩ := hY _ H2 i v H3 m2 R2.alloc hlt y
    obtain ⟨R3, m4⟩ := R2.same m3
    have ed : xs.drop i = x :: xs.drop (i + 1) := by
      have := (List.getElem?_eq_some_iff.mp ex)
      obtain ⟨h1, h2⟩ := this
      rw [← h2]
      exact List.drop_eq_getElem_cons h1
    rw [ed] at p2
    refine hg C σ2 H3 env2 s2 _ R3 x v _ _ dx p2 fun env3 σ3 p3 R4 => ?_
    refine hb C σ3 H3 env3 s2 _ F R4 _ _ p3 fun o s5 σ5 H5 env5 ex5 x5 v5 p5 R5 m5 => ?_
    have e3 : as ++ ex2 ++ ex5 = as ++ (ex2 ++ ex5) := List.append_assoc _ _ _
    rw [e3] at R5 m5
    rw [e3]
    have m6 := (m2.trans m4).trans m5
    refine ⟨fun e => ?_, fun e => ?_, fun e => ?_, fun e d => ?_⟩
    · subst e
      exact ⟨env5, s5, ex2 ++ ex5, p5, R5, m6⟩
    · subst e
      exact (k _ _ σ5 H5 env5 _ x5 v5 p5 R5 (m1.trans m6)).1 rfl
    · subst e
      exact ⟨env5, s5, ex2 ++ ex5, p5, R5, m6⟩
    · subst e
      exact (k _ _ σ5 H5 env5 _ x5 v5 p5 R5 (m1.trans m6)).2.2.2 rfl d
  · rintro σ2 H2 ⟨env2, s2, ex2, p2, R2, m2⟩
    rw [List.drop_length] at p2
    exact (k _ _ σ2 H2 env2 _ .none .non p2 R2 (m1.trans m2)).1 rfl
/-! what is walked -/
theorem yat_ok {T : List Addr} {H : Hp} {xs : List PyData} {vs : List V} (h : DaAll K (hs T H) xs vs) (T2 : List Addr) (H2 : Hp) (i : Nat) (v : V) (H3 : Hp) (m : Same (hs T H) (hs T2 H2)) (y : YAt vs i H2 v H3) : Same H2 H3 ∧ ∃ x, xs[i]? = some x ∧ Da K (hs T2 H3) x v := by
  obtain ⟨rfl, e⟩ := y
  obtain ⟨x, ex, dx⟩ := h.of_get e
  exact ⟨Same.refl _, x, ex, dx.same m⟩
theorem si_list {te : TE} {e : E} (h : SE K te e) : SI K (iList K te) (fun env s post => e env s fun x s' => match x with
    | .list xs => post xs s'
    | _ => False) := by
  intro C σ H env s as F R post Q p k
  refine h C σ H env s as F R _ _ p fun x s' v H' p1 R1 m1 d1 => ?_
  cases x with
  | list xs =>
    obtain ⟨a, vs, rfl, e1, h1⟩ := da_list.mp d1
    refine ⟨a, rfl, ⟨vs, SqL.of (hs_list e1)⟩, k xs s' _ H' p1 R1 m1 ⟨_, _, by rw [← h1.len]; exact walk_list, fun T2 H2 m => SqL.of (hs_list (m _ _ e1)), fun T2 H2 i v H3 m _ _ y => yat_ok h1 T2 H2 i v H3 m y⟩⟩
  | _ => exact False.elim p1
theorem si_tup {te : TE} {e : E} (h : SE K te e) : SI K (iTup K te) (fun env s post => e env s fun x s' => match x with
    | .tuple xs => post xs s'
    | _ => False) := by
  intro C σ H env s as F R post Q p k
  refine h C σ H env s as F R _ _ p fun x s' v H' p1 R1 m1 d1 => ?_
  cases x with
  | tuple xs =>
    obtain ⟨a, vs, rfl, e1, h1⟩ := da_tuple.mp d1
    refine ⟨a, rfl, ⟨vs, sqT_hs e1⟩, k xs s' _ H' p1 R1 m1 ⟨_, _, by rw [← h1.len]; exact walk_tup, fun T2 H2 m => sqT_hs (seqT_same m e1), fun T2 H2 i v H3 m _ _ y => yat_ok h1 T2 H2 i v H3 m y⟩⟩
  | _ => exact False.elim p1
def rngD (lo : Int) (n : Nat) : List PyData := (List.range n).map fun (i : Nat) => .int (lo + (i : Int))
theorem si_range1 {ta : TA} {e : EA} (h : SA K 1 ta e) : SI K (iRng1 ta) (fun env s post => e env s fun xs s' => match xs with
    | [.int j] => (-(2 ^ 62) ≤ j ∧ j < 2 ^ 62) ∧ post (rngD 0 j.toNat) s'
    | _ => False) := by
  intro C σ H env s as F R post Q p k
  refine h C σ H env s as F R _ _ p fun xs s' vs H' p1 R1 m1 d1 l => ?_
  match xs, p1 with
  | [.int j], p1 =>
    obtain ⟨v, r, rfl, h1, h2⟩ := d1.uncons
    rw [h2.nil_eq]
    rw [da_int] at h1
    subst h1
    refine ⟨j, rfl, p1.1.1, p1.1.2, k _ s' _ H' p1.2 R1 m1 ⟨_, _, by rw [rngD, List.length_map, List.length_range]; exact walk_range, fun _ _ _ => trivial, fun T2 H2 i v H3 m _ hi y => ?_⟩⟩
    obtain ⟨rfl, rfl⟩ := y
    refine ⟨Same.refl _, .int (0 + (i : Int)), ?_, da_int.mpr rfl⟩
    rw [rngD, List.length_map, List.length_range] at hi
    rw [rngD, List.getElem?_map, List.getElem?_range hi]
    rfl
theorem si_range2 {ta : TA} {e : EA} (h : SA K 2 ta e) : SI K (iRng2 ta) (fun env s post => e env s fun xs s' => match xs with
    | [.int i, .int j] => (-(2 ^ 62) ≤ i ∧ i < 2 ^ 62 ∧ -(2 ^ 62) ≤ j ∧ j < 2 ^ 62) ∧ post (rngD i (j - i).toNat) s'
    | _ => False) := by
  intro C σ H env s as F R post Q p k
  refine h C σ H env s as F R _ _ p fun xs s' vs H' p1 R1 m1 d1 l => ?_
  match xs, p1 with
  | [.int i0, .int j], p1 =>
    obtain ⟨v, r, rfl, h1, h2⟩ := d1.uncons
    obtain ⟨w, r2, rfl, h3, h4⟩ := h2.uncons
    rw [h4.nil_eq]
    rw [da_int] at h1 h3
    subst h1 h3
    refine ⟨i0, j, rfl, p1.1, k _ s' _ H' p1.2 R1 m1 ⟨_, _, by rw [rngD, List.length_map, List.length_range]; exact walk_range, fun _ _ _ => trivial, fun T2 H2 i v H3 m _ hi y => ?_⟩⟩
    obtain ⟨rfl, rfl⟩ := y
    refine ⟨Same.refl _, .int (i0 + (i : Int)), ?_, da_int.mpr rfl⟩
    rw [rngD, List.length_map, List.length_range] at hi
    rw [rngD, List.getElem?_map, List.getElem?_range hi]
    rfl
end
end FW
end

/-! W5 -/
section
namespace FW
open PySem PySem.Spec PyProof.Rows L2 FA
/-! lists that may be changed -/
theorem set_get {α : Type} {l : List α} {i j : Nat} {x y : α} (h : (l.set i x)[j]? = some y) : (j = i ∧ y = x ∧ i < l.length) ∨ (j ≠ i ∧ l[j]? = some y) := by
  by_cases z : j = i
  · subst z
    have lt : j < l.length := by
      have := (List.getElem?_eq_some_iff.mp h).1
      rw [List.length_set] at this
      exact this
    rw [List.getElem?_set_self lt] at h
    exact .inl ⟨rfl, (Option.some.inj h).symm, lt⟩
  · rw [List.getElem?_set_ne (fun e => z e.symm)] at h
    exact .inr ⟨z, h⟩
theorem app_get {α : Type} {l : List α} {j : Nat} {x y : α} (h : (l ++ [x])[j]? = some y) : (j = l.length ∧ y = x) ∨ l[j]? = some y := by
  by_cases lt : j < l.length
  · rw [List.getElem?_append_left lt] at h
    exact .inr h
  · rw [List.getElem?_append_right (by omega)] at h
    have : j - l.length = 0 := by
      have := (List.getElem?_eq_some_iff.mp h).1
      simp at this
      omega
    rw [this] at h
    exact .inl ⟨by omega, (Option.some.inj h).symm⟩
theorem lives_app : ∀ {rs : List Reg} {as : List Addr} {a : Addr} {xs : List PyData}, rs.length = as.length → lives (rs ++ [⟨true, true, xs⟩]) (as ++ [a]) = lives rs as ++ [a]
  | [], [], _, _, _ => rfl
  | [], _ :: _, _, _, h => by simp at h
  | _ :: _, [], _, _, h => by simp at h
  | r :: rs, a :: as, b, xs, h => by
    have q := lives_app (rs := rs) (as := as) (a := b) (xs := xs) (by simpa using h)
    simp only [List.cons_append, lives]
    rw [q]
    split <;> rfl
section
variable {K : PySem.W.Frag} {C : Fr} {σ : L2.St} {H H' : Hp} {env : Env} {s s' : S} {as : List Addr} {D : Addr}
/-- the list at D is given a place -/
theorem Rel.reg {Hk : Hp} (h : Rel K (C.hide D Hk) σ H env s as) (f : FrOk C) (hk : ∀ a ∈ C.S0, a ∉ C.fr → Hk a = C.Hk a) (n : D ∉ cur C s.rs as) (n0 : C.H0 D = none) {vs : List V} {xs : List PyData} (e : H D = some (.lst vs)) (hd : DaAll K (hs (D :: cur C s.rs as) H) xs vs) (i : Nat) :
    Rel K C (σ.set i (some (.ref D))) H (env.set i (some (.reg s.rs.length))) ⟨s.n, s.rs ++ [⟨true, true, xs⟩]⟩ (as ++ [D]) ∧ Same (hs (D :: cur C s.rs as) H) (hs (cur C (s.rs ++ [⟨true, true, xs⟩]) (as ++ [D])) H) := by
  have ec : cur C (s.rs ++ [⟨true, true, xs⟩]) (as ++ [D]) = cur C s.rs as ++ [D] := by unfold cur; rw [lives_app h.len, List.append_assoc]
  have ev : hs (cur C s.rs as ++ [D]) H = hs (D :: cur C s.rs as) H := by
    funext b
    unfold hs
    by_cases z : b ∈ D :: cur C s.rs as
    · rw [if_pos z, if_pos]
      rcases List.mem_cons.mp z with z | z
      · exact List.mem_append_right _ (by rw [z]; simp)
      · exact List.mem_append_left _ z
    · rw [if_neg z, if_neg]
      intro y
      rcases List.mem_append.mp y with y | y
      · exact z (List.mem_cons_of_mem _ y)
      · exact z (by rw [List.mem_singleton.mp y]; exact List.mem_cons_self)
  have el : as.length = s.rs.length := h.len.symm
  have nD : ∀ {j : Nat} {a : Addr} {r : Reg}, as[j]? = some a → s.rs[j]? = some r → r.live = true → a ≠ D := fun ea er l z => n (by rw [← z]; exact List.mem_append_right _ (lives_get ea er l))
  refine ⟨⟨h.frame, ?_, fun a ha hf => (h.kp a (List.mem_cons_of_mem _ ha) hf).trans (hk a ha hf), ?_, ?_, ?_, ?_, by rw [List.length_set, List.length_set]; exact h.slots, ?_⟩, ?_⟩
  · rw [ec]
    intro a ha
    refine h.alloc a ?_
    rcases List.mem_append.mp ha with z | z
    · exact List.mem_cons_of_mem _ z
    · rw [List.mem_singleton.mp z]; exact List.mem_cons_self
  · intro q
    obtain ⟨q1, q2, q3, q4⟩ := h.deck q
    exact ⟨q1, f.sub _ (f.dk q).1, f.sub _ (f.dk q).2, q4⟩
  · simp only [List.length_append, h.len, List.length_cons, List.length_nil]
  · rw [ec, ev]
    intro j a r ea er
    rcases app_get er with ⟨ej, rfl⟩ | er'
    · rw [ej, ← el, List.getElem?_append_right (Nat.le_refl _), Nat.sub_self] at ea
      have := Option.some.inj ea
      subst this
      unfold ROk
      rw [if_pos rfl]
      exact ⟨vs, e, hd⟩
    · have lt : j < as.length := by rw [el]; exact (List.getElem?_eq_some_iff.mp er').1
      rw [List.getElem?_append_left lt] at ea
      exact h.regs j a r ea er'
  · intro j a r ea er l
    have dD : C.dk = true → D ≠ C.d ∧ D ≠ C.c := fun q => ⟨fun z => n (by rw [z]; exact List.mem_append_left _ (f.sub _ (f.dk q).1)), fun z => n (by rw [z]; exact List.mem_append_left _ (f.sub _ (f.dk q).2))⟩
    rcases app_get er with ⟨ej, rfl⟩ | er'
    · rw [ej, ← el, List.getElem?_append_right (Nat.le_refl _), Nat.sub_self] at ea
      have := Option.some.inj ea
      subst this
      refine ⟨dD, .inr ⟨rfl, n0, fun z => n (List.mem_append_left _ z)⟩, fun i r' ei er2 l' => ?_⟩
      rcases app_get er2 with ⟨ei2, _⟩ | er3
      · rw [ei2, ej]
      · have lt : i < as.length := by rw [el]; exact (List.getElem?_eq_some_iff.mp er3).1
        rw [List.getElem?_append_left lt] at ei
        exact absurd rfl (nD ei er3 l')
    · have lt : j < as.length := by rw [el]; exact (List.getElem?_eq_some_iff.mp er').1
      rw [List.getElem?_append_left lt] at ea
      obtain ⟨d1, d2, d3⟩ := h.dis j a r ea er' l
      refine ⟨d1, d2.imp id fun z => ⟨z.1, z.2.1, fun y => z.2.2 (List.mem_cons_of_mem _ y)⟩, fun i r' ei er2 l' => ?_⟩
      rcases app_get er2 with ⟨ei2, _⟩ | er3
      · rw [ei2, ← el, List.getElem?_append_right (Nat.le_refl _), Nat.sub_self] at ei
        exact absurd (Option.some.inj ei).symm (nD ea er' l)
      · have lt : i < as.length := by rw [el]; exact (List.getElem?_eq_some_iff.mp er3).1
        rw [List.getElem?_append_left lt] at ei
        exact d3 i r' ei er3 l'
  · rw [ec, ev]
    intro k u q
    rcases set_get q with ⟨rfl, eu, lt⟩ | ⟨nk, q'⟩
    · refine ⟨.ref D, by rw [List.getElem?_set_self (by rw [h.slots]; exact lt)], ?_⟩
      have := Option.some.inj eu
      subst this
      exact ⟨D, by rw [← el, List.getElem?_append_right (Nat.le_refl _), Nat.sub_self]; rfl, rfl⟩
    · obtain ⟨v, h1, h2⟩ := h.env k u q'
      refine ⟨v, by rw [List.getElem?_set_ne (fun e => nk e.symm)]; exact h1, ?_⟩
      cases u with
      | dat x => exact h2
      | deck => exact h2
      | reg j =>
        obtain ⟨a, ha, ev⟩ := h2
        exact ⟨a, by rw [List.getElem?_append_left (List.getElem?_eq_some_iff.mp ha).1]; exact ha, ev⟩
      | adr a => exact h2
  · show Same _ (hs (cur C (s.rs ++ [⟨true, true, xs⟩]) (as ++ [D])) H)
    rw [ec, ev]
    exact Same.refl _
/-- a list in its place is changed -/
theorem Rel.chg (h : Rel K C σ H env s as) (f : FrOk C) {j : Nat} {a : Addr} {o : Bool} {xs ys : List PyData} {us : List V} (ea : as[j]? = some a) (er : s.rs[j]? = some ⟨true, o, xs⟩) (hd : DaAll K (hs (cur C s.rs as) H) ys us) :
    Rel K C σ (upd H a (.lst us)) env ⟨s.n, s.rs.set j ⟨true, o, ys⟩⟩ as ∧ Same (hs (cur C s.rs as) H) (hs (cur C (s.rs.set j ⟨true, o, ys⟩) as) (upd H a (.lst us))) := by
  have la := lives_get ea er rfl
  obtain ⟨d1, d2, d3⟩ := h.dis j a _ ea er rfl
  have ac : a ∈ cur C s.rs as := List.mem_append_right _ la
  have lt := (List.getElem?_eq_some_iff.mp er).1
  refine h.move C.Hk [a] (fun b hb => by rw [List.mem_singleton.mp hb]; exact ac) (fun b hb => by rw [List.mem_singleton.mp hb]; exact d2.imp And.right fun z => z.2.1) (by rw [hs_upd (by simp)]; exact Same.refl _)
    (fun b hb => by rw [List.mem_singleton.mp hb, upd_same]; simp) (fun b hb hf => ?_) (fun q => ?_) ?_ (fun i b r eb er2 => ?_)
  · have : b ≠ a := fun z => by
      rcases d2 with y | y
      · exact hf (by rw [z]; exact y.2)
      · exact y.2.2 (by rw [← z]; exact hb)
    rw [upd_ne this]
    exact h.kp b hb hf
  · exact (h.deck q).1.upd (d1 q).1 (d1 q).2
  · show (s.rs.set j ⟨true, o, ys⟩).map Reg.tag = _
    apply List.ext_getElem?
    intro k
    rw [List.getElem?_map, List.getElem?_map]
    by_cases z : k = j
    · subst z
      rw [List.getElem?_set_self lt, er]
      rfl
    · rw [List.getElem?_set_ne (fun e => z e.symm)]
  · rcases set_get er2 with ⟨rfl, rfl, _⟩ | ⟨ne, er3⟩
    · rw [ea] at eb
      have := Option.some.inj eb
      subst this
      refine .inr (.inr ⟨by simp, ?_⟩)
      unfold ROk
      rw [if_pos rfl, hs_upd ac]
      exact ⟨us, upd_same, hd⟩
    · by_cases l : r.live = true
      · refine .inl ⟨fun z => ne (d3 i r ?_ er3 l), er3⟩
        rw [← List.mem_singleton.mp z]
        exact eb
      · exact .inr (.inl ⟨by simpa using l, er3⟩)
/-- it is changed no more -/
theorem Rel.frz (h : Rel K C σ H env s as) (f : FrOk C) {j : Nat} {a : Addr} {xs : List PyData} (ea : as[j]? = some a) (er : s.rs[j]? = some ⟨true, true, xs⟩) :
    Rel K C σ H env (FW.frz s j xs) as ∧ Same (hs (cur C s.rs as) H) (hs (cur C (FW.frz s j xs).rs as) H) ∧ Da K (hs (cur C (FW.frz s j xs).rs as) H) (.list xs) (.ref a) := by
  obtain ⟨d1, d2, d3⟩ := h.dis j a _ ea er rfl
  have loc : a ∉ C.S0 := by
    rcases d2 with z | z
    · exact absurd z.1 (by simp)
    · exact z.2.2
  have lt := (List.getElem?_eq_some_iff.mp er).1
  have sub : ∀ b ∈ cur C (FW.frz s j xs).rs as, b ∈ cur C s.rs as := by
    intro b hb
    rcases List.mem_append.mp hb with hb | hb
    · exact List.mem_append_left _ hb
    · obtain ⟨i, r, eb, er2, l⟩ := of_lives hb
      rcases set_get er2 with ⟨_, rfl, _⟩ | ⟨_, er3⟩
      · cases l
      · exact List.mem_append_right _ (lives_get eb er3 l)
  have vw : Same (hs (cur C s.rs as) H) (hs (cur C (FW.frz s j xs).rs as) H) := hs_less sub
  have na : a ∉ cur C (FW.frz s j xs).rs as := by
    intro z
    rcases List.mem_append.mp z with z | z
    · exact loc z
    · obtain ⟨i, r, eb, er2, l⟩ := of_lives z
      rcases set_get er2 with ⟨_, rfl, _⟩ | ⟨ne, er3⟩
      · cases l
      · exact ne (d3 i r eb er3 l)
  have hR := h.regs j a _ ea er
  unfold ROk at hR
  rw [if_pos rfl] at hR
  obtain ⟨vs, e1, hd⟩ := hR
  have dat : Da K (hs (cur C (FW.frz s j xs).rs as) H) (.list xs) (.ref a) := da_list.mpr ⟨a, vs, rfl, by rw [hs_ne na]; exact e1, hd.same vw⟩
  refine ⟨⟨h.frame, fun b hb => h.alloc b (sub b hb), h.kp, h.deck, by show (s.rs.set j _).length = _; rw [List.length_set]; exact h.len, ?_, ?_, h.slots, ?_⟩, vw, dat⟩
  · intro i b r eb er2
    rcases set_get er2 with ⟨rfl, rfl, _⟩ | ⟨ne, er3⟩
    · rw [ea] at eb
      have := Option.some.inj eb
      subst this
      unfold ROk
      rw [if_neg (by simp)]
      exact dat
    · exact (h.regs i b r eb er3).same vw fun _ => rfl
  · intro i b r eb er2 l
    rcases set_get er2 with ⟨_, rfl, _⟩ | ⟨ne, er3⟩
    · cases l
    · obtain ⟨c1, c2, c3⟩ := h.dis i b r eb er3 l
      refine ⟨c1, c2, fun k r' ek er4 l' => ?_⟩
      rcases set_get er4 with ⟨_, rfl, _⟩ | ⟨_, er5⟩
      · cases l'
      · exact c3 k r' ek er5 l'
  · intro k u q
    obtain ⟨v, h1, h2⟩ := h.env k u q
    exact ⟨v, h1, h2.same vw⟩
end
section
variable {K : PySem.W.Frag}
theorem ss_new {i : Nat} {te : TE} {e : EA} (h : SL K te e) : SS K (tAsg te (gName i)) (sNew i e) := by
  intro C σ H env s as F R post Dn p k
  refine h C σ H env s as F R _ _ p fun xs s' D vs Hk H' p1 R1 hk m1 e1 d1 n1 n2 => ?_
  obtain ⟨R2, m2⟩ := R1.reg F hk n1 n2 e1 d1 i
  exact (k _ _ _ H' _ [D] .none .non p1 R2 (m1.trans m2)).1 rfl
theorem live_at {C : Fr} {σ : L2.St} {H : Hp} {env : Env} {s : S} {as : List Addr} (R : Rel K C σ H env s as) {i j : Nat} {o : Bool} {xs : List PyData} (ei : env[i]? = some (some (.reg j))) (er : s.rs[j]? = some ⟨true, o, xs⟩) :
    ∃ a vs, as[j]? = some a ∧ σ[i]? = some (some (.ref a)) ∧ H a = some (.lst vs) ∧ DaAll K (hs (cur C s.rs as) H) xs vs := by
  obtain ⟨v, h1, a, h2, rfl⟩ := R.env i _ ei
  have hR := R.regs j a _ h2 er
  unfold ROk at hR
  rw [if_pos rfl] at hR
  obtain ⟨vs, e1, hd⟩ := hR
  exact ⟨a, vs, h2, h1, e1, hd⟩
theorem ss_app {i : Nat} {te : TE} {e : E} (h : SE K te e) : SS K (tDrop (tBM K "list" rAppend (tVar i) (tCons te tNil))) (sApp i e) := by
  intro C σ H env s as F R post Dn p k
  unfold sApp at p
  split at p
  · rename_i j ei
    split at p
    · rename_i o0 xs0 er0
      obtain ⟨a, vs0, ea, es, e0, _⟩ := live_at R ei er0
      refine ⟨.ref a, es, .inl ⟨rfl, vs0, SqL.of e0⟩, h C σ H env s as F R _ _ p fun y s' w H' p1 R1 m1 d1 => ?_⟩
      split at p1
      · rename_i o xs er
        obtain ⟨a', vs, ea', es', e1, hd⟩ := live_at R1 ei er
        rw [ea] at ea'
        have := Option.some.inj ea'
        subst this
        have hl := hd.len
        refine ⟨a, vs, w, rfl, rfl, e1, by rw [sizeLine_eq]; omega, ?_⟩
        obtain ⟨R2, m2⟩ := R1.chg F ea er (hd.snoc d1)
        exact (k _ _ σ _ env [] .none .non p1.2 (by simpa using R2) (by simpa using m1.trans m2)).1 rfl
      · exact p1.elim
    · exact p.elim
  · exact p.elim
theorem se_pop {i : Nat} : SE K (tBM0 K "list" rPop (tVar i)) (fPop i) := by
  intro C σ H env s as F R post Q p k
  unfold fPop at p
  split at p
  · rename_i j ei
    split at p
    · rename_i o xs er
      obtain ⟨a, vs, ea, es, e0, hd⟩ := live_at R ei er
      split at p
      · rename_i y ey
        have hl := hd.len
        have hx : xs[xs.length - 1]? = some y := by rw [← List.getLast?_eq_getElem?]; exact ey
        obtain ⟨w, ew, dw⟩ := hd.get hx
        obtain ⟨R2, m2⟩ := R.chg F ea er hd.dropLast
        exact ⟨.ref a, es, .inl ⟨rfl, vs, SqL.of e0⟩, a, vs, w, rfl, rfl, e0, by rw [hl]; exact ew, k _ _ _ _ p R2 m2 (dw.same m2)⟩
      · exact p.elim
    · exact p.elim
  · exact p.elim
theorem se_lenR {i : Nat} : SE K (tCB (rLenA K) (tCons (tVar i) tNil)) (fLenR i) := by
  intro C σ H env s as F R post Q p k
  unfold fLenR at p
  split at p
  · rename_i j ei
    split at p
    · rename_i o xs er
      obtain ⟨a, vs, ea, es, e0, hd⟩ := live_at R ei er
      exact ⟨.ref a, es, .inl ⟨a, vs, rfl, .inl (SqL.of e0), by rw [hd.len]; exact k _ _ _ _ p R (Same.refl _) (da_int.mpr rfl)⟩⟩
    · exact p.elim
  · exact p.elim
theorem se_frz {i : Nat} : SE K (tVar i) (fFrz i) := by
  intro C σ H env s as F R post Q p k
  unfold fFrz at p
  split at p
  · rename_i j ei
    split at p
    · rename_i xs er
      obtain ⟨a, vs, ea, es, e0, hd⟩ := live_at R ei er
      obtain ⟨R2, m2, d2⟩ := R.frz F ea er
      exact ⟨.ref a, es, k _ _ _ _ p R2 m2 d2⟩
    · exact p.elim
  · exact p.elim
/-! comprehensions -/
def wipeE (env : Env) : List Nat → Env
  | [] => env
  | v :: vs => (wipeE env vs).set v none
theorem Rel.wipe {C : Fr} {σ : L2.St} {H : Hp} {env : Env} {s : S} {as : List Addr} (R : Rel K C σ H env s as) : ∀ vs : List Nat, Rel K C (L2.wipe σ vs) H (wipeE env vs) s as
  | [] => R
  | v :: vs => by
    unfold L2.wipe wipeE
    exact (R.wipe vs).unset
/-- the slots as they were, the heap as it is -/
theorem Rel.back {C : Fr} {σ σ' : L2.St} {H H' : Hp} {env env' : Env} {s s' : S} {as : List Addr} (R : Rel K C σ H env s as) (R' : Rel K C σ' H' env' s' as) (m : Same (hs (cur C s.rs as) H) (hs (cur C s'.rs as) H')) : Rel K C σ H' env s' as :=
  ⟨R'.frame, R'.alloc, R'.kp, R'.deck, R'.len, R'.regs, R'.dis, R.slots, fun i u e => by
    obtain ⟨v, h1, h2⟩ := R.env i u e
    exact ⟨v, h1, h2.same m⟩⟩
theorem wipe_get (σ : L2.St) : ∀ (vs : List Nat) (k : Nat), (L2.wipe σ vs)[k]? = if k ∈ vs then σ[k]?.map (fun _ => none) else σ[k]?
  | [], k => by simp [L2.wipe]
  | v :: vs, k => by
    unfold L2.wipe
    rw [List.getElem?_set]
    have ih := wipe_get σ vs k
    by_cases z : v = k
    · subst z
      rw [if_pos rfl, if_pos List.mem_cons_self, wipe_length]
      by_cases lt : v < σ.length
      · rw [if_pos lt, List.getElem?_eq_getElem lt]
        rfl
      · rw [if_neg lt, List.getElem?_eq_none (by omega)]
        rfl
    · rw [if_neg z, ih]
      by_cases y : k ∈ vs
      · rw [if_pos y, if_pos (List.mem_cons_of_mem _ y)]
      · rw [if_neg y, if_neg (fun q => by rcases List.mem_cons.mp q with q | q; exact z q.symm; exact y q)]
theorem wipe_set {σ : L2.St} {vs : List Nat} {i : Nat} {x : Option V} (h : i ∈ vs) : L2.wipe (σ.set i x) vs = L2.wipe σ vs := by
  apply List.ext_getElem?
  intro k
  rw [wipe_get, wipe_get]
  by_cases z : k ∈ vs
  · rw [if_pos z, if_pos z]
    by_cases y : i = k
    · subst y
      rw [List.getElem?_set]
      simp only [if_pos rfl]
      by_cases lt : i < σ.length
      · rw [if_pos lt, List.getElem?_eq_getElem lt]; rfl
      · rw [if_neg lt, List.getElem?_eq_none (by omega)]
        simp
    · rw [List.getElem?_set_ne y]
  · rw [if_neg z, if_neg z, List.getElem?_set_ne (fun e => z (by rw [← e]; exact h))]
theorem wipe_wipe {σ : L2.St} {vs : List Nat} : L2.wipe (L2.wipe σ vs) vs = L2.wipe σ vs := by
  apply List.ext_getElem?
  intro k
  rw [wipe_get, wipe_get]
  by_cases z : k ∈ vs
  · simp only [if_pos z]
    cases σ[k]? <;> rfl
  · simp only [if_neg z]
/-- a target's slots are of vs -/
def GIn (g : TG) (vs : List Nat) : Prop := ∀ (v : V) (σ : L2.St) (H : Hp) (Q : L2.St → Hp → Prop), g v σ H Q → g v σ H fun σ2 H2 => L2.wipe σ2 vs = L2.wipe σ vs ∧ Q σ2 H2
theorem gin_name {i : Nat} {vs : List Nat} (h : i ∈ vs) : GIn (gName i) vs := fun v σ H Q q => ⟨wipe_set h, q⟩
def GsIn (g : TGs) (vs : List Nat) : Prop := ∀ (xs : List V) (σ : L2.St) (H : Hp) (Q : L2.St → Hp → Prop), g xs σ H Q → g xs σ H fun σ2 H2 => L2.wipe σ2 vs = L2.wipe σ vs ∧ Q σ2 H2
theorem gsin_nil {vs : List Nat} : GsIn gNil vs := fun xs σ H Q q => ⟨q.1, rfl, q.2⟩
theorem gsin_name {i : Nat} {vs : List Nat} {r : TGs} (h : i ∈ vs) (hr : GsIn r vs) : GsIn (gCons (gName i) r) vs := by
  rintro xs σ H Q ⟨v, t, e, q⟩
  have h2 := hr t (σ.set i (some v)) H Q q
  rw [wipe_set h] at h2
  exact ⟨v, t, e, h2⟩
theorem gin_tup {n : Nat} {r : TGs} {vs : List Nat} (hr : GsIn r vs) : GIn (gTup K n r) vs := by
  rintro v σ H Q ⟨a, xs, e, h, l, q⟩
  exact ⟨a, xs, e, h, l, hr xs σ H Q q⟩
def lcGo (tg : ET) (cond : EB) (elt : E) (env : Env) : List PyData → List PyData → M (List PyData)
  | [], acc, s, post => post acc s
  | x :: xs, acc, s, post => tg env x fun env1 => cond env1 s fun b s1 => if b = true then elt env1 s1 fun y s2 => lcGo tg cond elt env xs (acc ++ [y]) s2 post else lcGo tg cond elt env xs acc s1 post
/-- [elt for tg in it if cond] -/
def fLc (it : EA) (tg : ET) (cond : EB) (elt : E) (vs : List Nat) : EA := fun env s post => it env s fun xs s1 => xs.length ≤ 1000000 ∧ lcGo tg cond elt (wipeE env vs) xs [] s1 post
def bYes : EB := fun _ s post => post true s
theorem st_yes : ST K tYes bYes := fun C σ H env s as _ R post Q p k => k _ _ _ p R (Same.refl _)
theorem sl_lc {wi : TI} {it : EA} {g : TG} {a : ET} {tt : TT} {c : EB} {te : TE} {e : E} {vs : List Nat} (hi : SI K wi it) (hg : SG K g a) (hv : GIn g vs) (ht : ST K tt c) (he : SE K te e) : SL K (tLc wi g tt te vs) (fLc it a c e vs) := by
  intro C σ H env s as F R post Q p k
  refine hi C σ H env s as F R _ _ p fun xs s1 J H1 p1 R1 m1 ok => ?_
  intro D hD
  obtain ⟨lx, p1⟩ := p1
  obtain ⟨G, Y, w, hG, hY⟩ := ok
  obtain ⟨n1, n2⟩ := R1.fresh0 F hD
  obtain ⟨R2, m2⟩ := R1.hide F hD (.lst [])
  have nS : D ∉ C.S0 := fun z => n1 (List.mem_append_left _ z)
  have nF : D ∉ C.fr := fun z => nS (F.sub _ z)
  have hk0 : ∀ {H' : Hp} {σ' : L2.St} {env' : Env} {s' : S} {Hk : Hp}, Rel K (C.hide D Hk) σ' H' env' s' as → (∀ a ∈ C.S0, a ∉ C.fr → Hk a = C.Hk a) → ∀ a ∈ C.S0, a ∉ C.fr → H' a = C.Hk a := fun {_ _ _ _ _} r q a ha hf => (r.kp a (List.mem_cons_of_mem _ ha) hf).trans (q a ha hf)
  refine lc_it w (fun i H' => ∃ s' acc us Hk, i ≤ xs.length ∧ lcGo a c e (wipeE env vs) (xs.drop i) acc s' post ∧ acc.length ≤ i ∧ Rel K (C.hide D Hk) σ H' env s' as ∧ (∀ a ∈ C.S0, a ∉ C.fr → Hk a = C.Hk a) ∧ Same (hs (cur C s1.rs as) H1) (hs (D :: cur C s'.rs as) H') ∧ H' D = some (.lst us) ∧ DaAll K (hs (D :: cur C s'.rs as) H') acc us)
    ⟨s1, [], [], _, Nat.zero_le _, by rw [List.drop_zero]; exact p1, Nat.le_refl _, R2, R1.keep (same_newW hD _), m2, upd_same, da_nil⟩ (fun i H' _ ⟨_, _, _, _, _, _, _, _, _, m, _⟩ => hG _ _ m) ?_ ?_
  · rintro i v H2 H3 hlt ⟨s2, acc, us, Hk, li, p2, la, R3, hk, m3, eD, dD⟩ y
    obtain ⟨m4, x, ex, dx⟩ := hY (D :: cur C s2.rs as) H2 i v H3 m3 R3.alloc hlt y
    obtain ⟨R4, m5⟩ := R3.same m4
    have ed : xs.drop i = x :: xs.drop (i + 1) := by
      obtain ⟨h1, h2⟩ := List.getElem?_eq_some_iff.mp ex
      rw [← h2]
      exact List.drop_eq_getElem_cons h1
    rw [ed] at p2
    have eD3 : H3 D = some (.lst us) := m4 _ _ eD
    have dD3 : DaAll K (hs (D :: cur C s2.rs as) H3) acc us := dD.same m5
    have m35 := m3.trans m5
    have hk3 := hk0 R4 hk
    have R4 := R4.rebase
    refine (fun q => by rw [wipe_wipe] at q; exact q : _ → _) (hv v (L2.wipe σ vs) H3 _ ?_)
    refine hg (C.hide D H3) _ H3 _ s2 as (R4.wipe vs) x v _ _ dx p2 fun env4 σ4 p4 R5 => ?_
    refine ht (C.hide D H3) σ4 H3 env4 s2 as F.hide R5 _ _ p4 fun b s5 H5 p5 R6 m6 => ?_
    have e5 : H5 D = some (.lst us) := (R6.kp D List.mem_cons_self nF).trans eD3
    cases b with
    | true =>
      refine he (C.hide D H3) σ4 H5 env4 s5 as F.hide R6 _ _ p5 fun z s7 u H7 p7 R7 m7 d7 => ?_
      have e7 : H7 D = some (.lst us) := (R7.kp D List.mem_cons_self nF).trans eD3
      have m37 : Same (hs (D :: cur C s2.rs as) H3) (hs (D :: cur C s7.rs as) H7) := m6.trans m7
      have R8 : Rel K (C.hide D H3) σ H7 env s7 as := R4.back R7 m37
      have n8 := R8.nD F nS
      have dD7 : DaAll K (hs (D :: cur C s7.rs as) H7) (acc ++ [z]) (us ++ [u]) := (dD3.same m37).snoc d7
      obtain ⟨R9, m9⟩ := R8.grow F n8 n2 (.lst (us ++ [u]))
      have hl := dD3.len
      refine ⟨us, e7, by rw [sizeLine_eq]; omega, s7, acc ++ [z], us ++ [u], _, hlt, p7, by rw [List.length_append]; show acc.length + 1 ≤ i + 1; omega, R9, ?_, (m35.trans m37).trans m9, upd_same, dD7.same m9⟩
      intro b hb hf
      rw [upd_ne (fun z => nS (by rw [← z]; exact hb))]
      exact hk0 R8 hk3 b hb hf
    | false =>
      have R8 : Rel K (C.hide D H3) σ H5 env s5 as := R4.back R6 m6
      exact ⟨s5, acc, us, _, hlt, p5, by omega, R8, hk3, m35.trans m6, e5, dD3.same m6⟩
  · rintro H2 ⟨s2, acc, us, Hk, li, p2, la, R3, hk, m3, eD, dD⟩
    rw [List.drop_length] at p2
    exact k acc s2 D us Hk H2 p2 R3 hk (m1.trans m3) eD dD (R3.nD F nS) n2
end
end FW
end

/-! W6 -/
section
namespace FW
open PySem PySem.Spec PyProof.Rows L2 FA
/-! calls -/
inductive PK
  | dat
  | deck
  | reg
  deriving DecidableEq
/-- what a def is worth: its data, the list that it may change, the draws so far -/
abbrev Fn := List PyData → List PyData → Nat → (PyData → List PyData → Nat → Prop) → Prop
def ArgsR (K : PySem.W.Frag) (W : Hp) (d a : Addr) : List PK → List V → List PyData → Prop
  | [], vs, xs => vs = [] ∧ xs = []
  | .dat :: l, vs, xs => ∃ v r x t, vs = v :: r ∧ xs = x :: t ∧ Da K W x v ∧ ArgsR K W d a l r t
  | .deck :: l, vs, xs => ∃ r, vs = .ref d :: r ∧ ArgsR K W d a l r xs
  | .reg :: l, vs, xs => ∃ r, vs = .ref a :: r ∧ ArgsR K W d a l r xs
theorem ArgsR.same {K : PySem.W.Frag} {W W' : Hp} {d a : Addr} (m : Same W W') : ∀ {l : List PK} {vs : List V} {xs : List PyData}, ArgsR K W d a l vs xs → ArgsR K W' d a l vs xs
  | [], _, _, h => h
  | .dat :: l, _, _, ⟨v, r, x, t, e1, e2, d, h⟩ => ⟨v, r, x, t, e1, e2, d.same m, h.same m⟩
  | .deck :: l, _, _, ⟨r, e, h⟩ => ⟨r, e, h.same m⟩
  | .reg :: l, _, _, ⟨r, e, h⟩ => ⟨r, e, h.same m⟩
theorem ArgsR.len {K : PySem.W.Frag} {W : Hp} {d a : Addr} : ∀ {l : List PK} {vs : List V} {xs : List PyData}, ArgsR K W d a l vs xs → vs.length = l.length
  | [], _, _, h => by rw [h.1]; rfl
  | .dat :: l, _, _, ⟨v, r, x, t, e1, e2, d, h⟩ => by rw [e1, List.length_cons, List.length_cons, h.len]
  | .deck :: l, _, _, ⟨r, e, h⟩ => by rw [e, List.length_cons, List.length_cons, h.len]
  | .reg :: l, _, _, ⟨r, e, h⟩ => by rw [e, List.length_cons, List.length_cons, h.len]
def flist (dk rg : Bool) (d c a : Addr) : List Addr := (if dk = true then [d, c] else []) ++ (if rg = true then [a] else [])
/-- a def's promise -/
def spW (K : PySem.W.Frag) (dk rg : Bool) (lay : List PK) (F : Fn) : Sp := fun vs H Q _ => ∃ (T : List Addr) (d c a : Addr) (n : Nat) (xs ys : List PyData) (post : PyData → List PyData → Nat → Prop),
  ArgsR K (hs T H) d a lay vs xs ∧ (∀ b ∈ T, H b ≠ none) ∧ (dk = true → Deck H d c n ∧ d ∈ T ∧ c ∈ T) ∧
  (rg = true → (∃ us, H a = some (.lst us) ∧ DaAll K (hs T H) ys us) ∧ a ∈ T ∧ (dk = true → a ≠ d ∧ a ≠ c)) ∧ F xs ys n post ∧
  ∀ r v H' ys' n', post r ys' n' → Same (hs (flist dk rg d c a) H) (hs (flist dk rg d c a) H') → (dk = true → Deck H' d c n') →
    (rg = true → ∃ us, H' a = some (.lst us) ∧ DaAll K (hs T H') ys' us) → Da K (hs T H') r v → Q v H'
theorem spW_size {K : PySem.W.Frag} {dk rg : Bool} {lay : List PK} {F : Fn} (vs : List V) (H : Hp) (Q : VK) (E : XK) (h : spW K dk rg lay F vs H Q E) : vs.length = lay.length := by
  obtain ⟨_, _, _, _, _, _, _, _, h, _⟩ := h
  exact h.len
/-- the arguments of a call -/
def SAL (K : PySem.W.Frag) (lay : List PK) (ir : Nat) (ta : TA) (e : EA) : Prop := ∀ (C : Fr) (σ : L2.St) (H : Hp) (env : Env) (s : S) (as : List Addr), FrOk C → Rel K C σ H env s as → ∀ (post : List PyData → S → Prop) (Q : List V → Hp → Prop), e env s post →
  (∀ xs s' vs H', post xs s' → Rel K C σ H' env s' as → Same (hs (cur C s.rs as) H) (hs (cur C s'.rs as) H') → (PK.deck ∈ lay → C.dk = true) →
    (∀ a, (PK.reg ∈ lay → ∀ j, env[ir]? = some (some (.reg j)) → as[j]? = some a) → ArgsR K (hs (cur C s'.rs as) H') C.d a lay vs xs) → Q vs H') → ta σ H Q
def fDeck (i : Nat) (b : EA) : EA := fun env s post => match env[i]? with
  | some (some .deck) => b env s post
  | _ => False
def fReg (i : Nat) (b : EA) : EA := fun env s post => match env[i]? with
  | some (some (.reg _)) => b env s post
  | _ => False
section
variable {K : PySem.W.Frag}
theorem sal_nil {ir : Nat} : SAL K [] ir tNil fNil := fun C σ H env s as _ R post Q p k => k _ _ _ _ p R (Same.refl _) (fun h => nomatch h) fun _ _ => ⟨rfl, rfl⟩
theorem sal_dat {ir : Nat} {lay : List PK} {ta : TE} {tr : TA} {a : E} {b : EA} (ha : SE K ta a) (hb : SAL K lay ir tr b) : SAL K (.dat :: lay) ir (tCons ta tr) (fCons a b) := by
  intro C σ H env s as f R post Q p k
  refine ha C σ H env s as f R _ _ p fun x s1 v H1 p1 R1 m1 d1 => hb C σ H1 env s1 as f R1 _ _ p1 fun y s2 u H2 p2 R2 m2 dk A => ?_
  exact k _ _ _ _ p2 R2 (m1.trans m2) (fun h => dk (by simpa using h)) fun a ha => ⟨v, u, x, y, rfl, rfl, d1.same m2, A a fun h => ha (List.mem_cons_of_mem _ h)⟩
theorem sal_deck {i ir : Nat} {lay : List PK} {tr : TA} {b : EA} (hb : SAL K lay ir tr b) : SAL K (.deck :: lay) ir (tCons (tVar i) tr) (fDeck i b) := by
  intro C σ H env s as f R post Q p k
  unfold fDeck at p
  split at p
  · rename_i e
    obtain ⟨v, h1, h2, rfl⟩ := R.env i _ e
    exact ⟨_, h1, hb C σ H env s as f R _ _ p fun y s2 u H2 p2 R2 m2 dk A => k _ _ _ _ p2 R2 m2 (fun _ => h2) fun a ha => ⟨u, rfl, A a fun h => ha (List.mem_cons_of_mem _ h)⟩⟩
  · exact p.elim
theorem sal_reg {ir : Nat} {lay : List PK} {tr : TA} {b : EA} (hb : SAL K lay ir tr b) : SAL K (.reg :: lay) ir (tCons (tVar ir) tr) (fReg ir b) := by
  intro C σ H env s as f R post Q p k
  unfold fReg at p
  split at p
  · rename_i j e
    obtain ⟨v, h1, a0, h2, rfl⟩ := R.env ir _ e
    refine ⟨_, h1, hb C σ H env s as f R _ _ p fun y s2 u H2 p2 R2 m2 dk A => k _ _ _ _ p2 R2 m2 (fun h => dk (by simpa using h)) fun a ha => ?_⟩
    have := ha List.mem_cons_self j e
    rw [h2] at this
    have := Option.some.inj this
    subst this
    exact ⟨u, rfl, A _ fun h => ha (List.mem_cons_of_mem _ h)⟩
  · exact p.elim
/-- a call that changes no list of ours -/
def fCall (F : Fn) (e : EA) : E := fun env s post => e env s fun xs s1 => F xs [] s1.n fun r _ n' => post r ⟨n', s1.rs⟩
/-- a call of a def without the deck -/
def fCall0 (F : Fn) (e : EA) : E := fun env s post => e env s fun xs s1 => F xs [] 0 fun r _ _ => post r s1
/-- a call that may change the list at the slot ir -/
def fCallR (F : Fn) (ir : Nat) (e : EA) : E := fun env s post => e env s fun xs s1 => match env[ir]? with
  | some (some (.reg j)) => (match s1.rs[j]? with
    | some ⟨true, o, ys⟩ => F xs ys s1.n fun r ys' n' => post r ⟨n', s1.rs.set j ⟨true, o, ys'⟩⟩
    | _ => False)
  | _ => False
theorem se_call0 {lay : List PK} {ir : Nat} {F : Fn} {ta : TA} {e : EA} (h : SAL K lay ir ta e) (hr : PK.reg ∉ lay := by decide) : SE K (tCall (spW K false false lay F) [] E0 ta) (fCall0 F e) := by
  intro C σ H env s as f R post Q p k
  refine h C σ H env s as f R _ _ p fun xs s1 vs H1 p1 R1 m1 dk A => ?_
  rw [List.append_nil]
  refine ⟨cur C s1.rs as, C.d, C.c, 0, 0, xs, [], _, A 0 (fun z => absurd z hr), R1.alloc, (fun z => nomatch z), (fun z => nomatch z), p1, fun r v H2 ys' n' p2 m2 _ _ d2 => ?_⟩
  have m2' : Same H1 H2 := by
    have : flist false false C.d C.c 0 = [] := rfl
    rw [this, hs_nil, hs_nil] at m2
    exact m2
  obtain ⟨R2, m3⟩ := R1.same m2'
  exact k r s1 v H2 p2 R2 (m1.trans m3) d2
theorem se_call {lay : List PK} {ir : Nat} {F : Fn} {ta : TA} {e : EA} (h : SAL K lay ir ta e) (hd : PK.deck ∈ lay := by decide) (hr : PK.reg ∉ lay := by decide) : SE K (tCall (spW K true false lay F) [] E0 ta) (fCall F e) := by
  intro C σ H env s as f R post Q p k
  refine h C σ H env s as f R _ _ p fun xs s1 vs H1 p1 R1 m1 dk A => ?_
  rw [List.append_nil]
  have dt := dk hd
  obtain ⟨q1, q2, q3, q4, q5⟩ := R1.deck dt
  refine ⟨cur C s1.rs as, C.d, C.c, 0, s1.n, xs, [], _, A 0 (fun z => absurd z hr), R1.alloc, fun _ => ⟨q1, List.mem_append_left _ q2, List.mem_append_left _ q3⟩, (fun z => nomatch z), p1, fun r v H2 ys' n' p2 m2 dk2 _ d2 => ?_⟩
  have D2 := dk2 rfl
  have fl : flist true false C.d C.c 0 = [C.d, C.c] := rfl
  rw [fl] at m2
  have ne : ∀ b ∈ [C.d, C.c], b = C.d ∨ b = C.c := fun b hb => by simpa using hb
  obtain ⟨R2, m3⟩ := R1.move (s' := ⟨n', s1.rs⟩) C.Hk [C.d, C.c] (fun b hb => by rcases ne b hb with z | z <;> rw [z]; exact List.mem_append_left _ q2; exact List.mem_append_left _ q3)
    (fun b hb => by rcases ne b hb with z | z <;> rw [z]; exact .inl q4; exact .inl q5) m2
    (fun b hb => by
      obtain ⟨t, m, cs, e1, e2, _⟩ := D2.is
      rcases ne b hb with z | z <;> rw [z]
      · rw [e1]; simp
      · rw [e2]; simp)
    (fun b hb hf => by
      have nb : b ∉ [C.d, C.c] := fun z => by
        rcases ne b z with y | y <;> rw [y] at hf
        · exact hf q4
        · exact hf q5
      have e1 := R1.kp b hb hf
      cases q : H1 b with
      | none => exact absurd q (R1.alloc b (List.mem_append_left _ hb))
      | some o =>
        have := m2 b o (by rw [hs_ne nb]; exact q)
        rw [hs_ne nb] at this
        rw [this, ← e1, q])
    (fun _ => D2) rfl (fun j a r ea er => by
      by_cases l : r.live = true
      · refine .inl ⟨fun z => ?_, er⟩
        have := (R1.dis j a r ea er l).1 dt
        rcases ne a z with y | y
        · exact this.1 y
        · exact this.2 y
      · exact .inr (.inl ⟨by simpa using l, er⟩))
  exact k r ⟨n', s1.rs⟩ v H2 p2 R2 (m1.trans m3) d2
theorem se_callR {dk : Bool} {lay : List PK} {ir : Nat} {F : Fn} {ta : TA} {e : EA} (h : SAL K lay ir ta e) (hd : PK.deck ∈ lay := by decide) : SE K (tCall (spW K true true lay F) [] E0 ta) (fCallR F ir e) := by
  intro C σ H env s as f R post Q p k
  refine h C σ H env s as f R _ _ p fun xs s1 vs H1 p1 R1 m1 dk A => ?_
  rw [List.append_nil]
  have dt := dk hd
  obtain ⟨q1, q2, q3, q4, q5⟩ := R1.deck dt
  split at p1
  · rename_i j ei
    split at p1
    · rename_i o ys er
      obtain ⟨a, us, ea, es, e0, hu⟩ := live_at R1 ei er
      have la := lives_get ea er rfl
      obtain ⟨d1, d2, d3⟩ := R1.dis j a _ ea er rfl
      have ac : a ∈ cur C s1.rs as := List.mem_append_right _ la
      refine ⟨cur C s1.rs as, C.d, C.c, a, s1.n, xs, ys, _, A a (fun _ j' e' => by rw [ei] at e'; have := Option.some.inj (Option.some.inj e'); cases this; exact ea), R1.alloc, fun _ => ⟨q1, List.mem_append_left _ q2, List.mem_append_left _ q3⟩,
        fun _ => ⟨⟨us, e0, hu⟩, ac, fun _ => d1 dt⟩, p1, fun r v H2 ys' n' p2 m2 dk2 rg2 d2' => ?_⟩
      have D2 := dk2 rfl
      obtain ⟨us2, e2, hu2⟩ := rg2 rfl
      have fl : flist true true C.d C.c a = [C.d, C.c, a] := rfl
      rw [fl] at m2
      have ne : ∀ b ∈ [C.d, C.c, a], b = C.d ∨ b = C.c ∨ b = a := fun b hb => by simpa using hb
      have lt := (List.getElem?_eq_some_iff.mp er).1
      obtain ⟨R2, m3⟩ := R1.move (s' := ⟨n', s1.rs.set j ⟨true, o, ys'⟩⟩) C.Hk [C.d, C.c, a] (fun b hb => by
          rcases ne b hb with z | z | z <;> rw [z]
          · exact List.mem_append_left _ q2
          · exact List.mem_append_left _ q3
          · exact ac)
        (fun b hb => by
          rcases ne b hb with z | z | z <;> rw [z]
          · exact .inl q4
          · exact .inl q5
          · exact d2.imp And.right fun y => y.2.1) m2
        (fun b hb => by
          obtain ⟨t, m, cs, e3, e4, _⟩ := D2.is
          rcases ne b hb with z | z | z <;> rw [z]
          · rw [e3]; simp
          · rw [e4]; simp
          · rw [e2]; simp)
        (fun b hb hf => by
          have nb : b ∉ [C.d, C.c, a] := fun z => by
            rcases ne b z with y | y | y
            · rw [y] at hf; exact hf q4
            · rw [y] at hf; exact hf q5
            · rcases d2 with w | w
              · exact hf (by rw [y]; exact w.2)
              · exact w.2.2 (by rw [← y]; exact hb)
          have e1 := R1.kp b hb hf
          cases q : H1 b with
          | none => exact absurd q (R1.alloc b (List.mem_append_left _ hb))
          | some o =>
            have := m2 b o (by rw [hs_ne nb]; exact q)
            rw [hs_ne nb] at this
            rw [this, ← e1, q])
        (fun _ => D2) (by
          show (s1.rs.set j ⟨true, o, ys'⟩).map Reg.tag = _
          apply List.ext_getElem?
          intro k
          rw [List.getElem?_map, List.getElem?_map]
          by_cases z : k = j
          · subst z
            rw [List.getElem?_set_self lt, er]
            rfl
          · rw [List.getElem?_set_ne (fun e => z e.symm)]) (fun i b r eb er2 => by
          rcases set_get er2 with ⟨rfl, rfl, _⟩ | ⟨nij, er3⟩
          · rw [ea] at eb
            have := Option.some.inj eb
            subst this
            refine .inr (.inr ⟨by simp, ?_⟩)
            unfold ROk
            rw [if_pos rfl]
            exact ⟨us2, e2, hu2⟩
          · by_cases l : r.live = true
            · refine .inl ⟨fun z => ?_, er3⟩
              have := (R1.dis i b r eb er3 l).1 dt
              rcases ne b z with y | y | y
              · exact this.1 y
              · exact this.2 y
              · exact nij (d3 i r (by rw [← y]; exact eb) er3 l)
            · exact .inr (.inl ⟨by simpa using l, er3⟩))
      exact k r ⟨n', s1.rs.set j ⟨true, o, ys'⟩⟩ v H2 p2 R2 (m1.trans m3) (by
        have ec : cur C (s1.rs.set j ⟨true, o, ys'⟩) as = cur C s1.rs as := by
          unfold cur
          rw [lives_congr]
          apply List.ext_getElem?
          intro k
          rw [List.getElem?_map, List.getElem?_map]
          by_cases z : k = j
          · subst z
            rw [List.getElem?_set_self lt, er]
            rfl
          · rw [List.getElem?_set_ne (fun e => z e.symm)]
        show Da K (hs (cur C (s1.rs.set j ⟨true, o, ys'⟩) as) H2) r v
        rw [ec]
        exact d2')
    · exact p1.elim
  · exact p1.elim
/-! a def by its body -/
def envOf : List PK → List PyData → Env
  | [], _ => []
  | .dat :: l, x :: xs => some (.dat x) :: envOf l xs
  | .dat :: l, [] => none :: envOf l []
  | .deck :: l, xs => some .deck :: envOf l xs
  | .reg :: l, xs => some (.reg 0) :: envOf l xs
def endOf (rg : Bool) (s' : S) (post : PyData → List PyData → Nat → Prop) (r : PyData) : Prop := match rg with
  | false => post r [] s'.n
  | true => (match s'.rs with
    | ⟨true, _, zs⟩ :: _ => post r zs s'.n
    | _ => False)
def fnOf (rg : Bool) (lay : List PK) (m : Nat) (f : ES) : Fn := fun xs ys n post => f (envOf lay xs ++ List.replicate m none) ⟨n, if rg = true then [⟨true, false, ys⟩] else []⟩ fun o s' => match o with
  | .ret r => endOf rg s' post r
  | .nxt _ => endOf rg s' post .none
  | _ => False
theorem argsR_env {W : Hp} {C : Fr} {a : Addr} (hc : C.dk = true ∨ True) : ∀ {lay : List PK} {vs : List V} {xs : List PyData}, ArgsR K W C.d a lay vs xs → (PK.deck ∈ lay → C.dk = true) → ∀ (as : List Addr), (PK.reg ∈ lay → as[0]? = some a) →
    ∀ (i : Nat) u, (envOf lay xs)[i]? = some (some u) → ∃ v, (vs.map some)[i]? = some (some v) ∧ UOk K W C as v u
  | [], vs, xs, h, _, _, _, i, u, e => by simp [envOf] at e
  | .dat :: l, vs, xs, ⟨v, r, x, t, e1, e2, d, h⟩, hd, as, hr, i, u, e => by
    subst e1 e2
    cases i with
    | zero =>
      have : U.dat x = u := Option.some.inj (Option.some.inj e)
      subst this
      exact ⟨v, rfl, d⟩
    | succ i => exact argsR_env hc h (fun z => hd (List.mem_cons_of_mem _ z)) as (fun z => hr (List.mem_cons_of_mem _ z)) i u e
  | .deck :: l, vs, xs, ⟨r, e1, h⟩, hd, as, hr, i, u, e => by
    subst e1
    cases i with
    | zero =>
      have : U.deck = u := Option.some.inj (Option.some.inj e)
      subst this
      exact ⟨.ref C.d, rfl, hd List.mem_cons_self, rfl⟩
    | succ i => exact argsR_env hc h (fun z => hd (List.mem_cons_of_mem _ z)) as (fun z => hr (List.mem_cons_of_mem _ z)) i u e
  | .reg :: l, vs, xs, ⟨r, e1, h⟩, hd, as, hr, i, u, e => by
    subst e1
    cases i with
    | zero =>
      have : U.reg 0 = u := Option.some.inj (Option.some.inj e)
      subst this
      exact ⟨.ref a, rfl, a, hr List.mem_cons_self, rfl⟩
    | succ i => exact argsR_env hc h (fun z => hd (List.mem_cons_of_mem _ z)) as (fun z => hr (List.mem_cons_of_mem _ z)) i u e
theorem envOf_len {W : Hp} {d a : Addr} : ∀ {lay : List PK} {vs : List V} {xs : List PyData}, ArgsR K W d a lay vs xs → (envOf lay xs).length = lay.length
  | [], _, _, _ => rfl
  | .dat :: l, _, _, ⟨v, r, x, t, e1, e2, d, h⟩ => by subst e2; show (envOf l t).length + 1 = _; rw [envOf_len h]; rfl
  | .deck :: l, _, _, ⟨r, e, h⟩ => by show (envOf l _).length + 1 = _; rw [envOf_len h]; rfl
  | .reg :: l, _, _, ⟨r, e, h⟩ => by show (envOf l _).length + 1 = _; rw [envOf_len h]; rfl
theorem fn_run {dk rg : Bool} {lay : List PK} {m : Nat} {f : ES} {t : TS} {N : List Str} {vs : List V} {H : Hp} {Q : VK} {E : XK} (hb : SS K t f) (hN : N.length = lay.length + m) (hdk : PK.deck ∈ lay → dk = true) (hrg : PK.reg ∈ lay → rg = true)
    (h : spW K dk rg lay (fnOf rg lay m f) vs H Q E) : t { nx := fun _ H' => Q .non H', rt := Q } (L2.start N vs) H := by
  obtain ⟨T, d, c, a, n, xs, ys, post, A, al, D, Rg, p, q⟩ := h
  let C : Fr := ⟨T, flist dk rg d c a, d, c, dk, H, H⟩
  have memfl : ∀ b ∈ flist dk rg d c a, b ∈ T := by
    intro b hb
    unfold flist at hb
    rcases List.mem_append.mp hb with z | z
    · split at z
      · rename_i e
        have : b = d ∨ b = c := by simpa using z
        rcases this with y | y <;> rw [y]
        · exact (D e).2.1
        · exact (D e).2.2
      · simp at z
    · split at z
      · rename_i e
        rw [List.mem_singleton.mp z]
        exact (Rg e).2.1
      · simp at z
  have F : FrOk C := ⟨memfl, fun e => by
    have e' : dk = true := e
    subst e'
    exact ⟨List.mem_append_left _ (show d ∈ [d, c] by simp), List.mem_append_left _ (show c ∈ [d, c] by simp)⟩⟩
  have hcur : cur C (if rg = true then [⟨true, false, ys⟩] else []) (if rg = true then [a] else []) = T ++ (if rg = true then [a] else []) := by
    cases rg <;> rfl
  have hview : hs (T ++ (if rg = true then [a] else [])) H = hs T H := by
    funext b
    unfold hs
    by_cases z : b ∈ T
    · rw [if_pos z, if_pos (List.mem_append_left _ z)]
    · rw [if_neg z, if_neg]
      intro y
      rcases List.mem_append.mp y with y | y
      · exact z y
      · split at y
        · rename_i e
          rw [List.mem_singleton.mp y] at z
          exact z (Rg e).2.1
        · simp at y
  have R : Rel K C (L2.start N vs) H (envOf lay xs ++ List.replicate m none) ⟨n, if rg = true then [⟨true, false, ys⟩] else []⟩ (if rg = true then [a] else []) := by
    refine ⟨Same.refl _, ?_, fun _ _ _ => rfl, ?_, ?_, ?_, ?_, ?_, ?_⟩
    · rw [hcur]
      intro b hb
      rcases List.mem_append.mp hb with z | z
      · exact al b z
      · split at z
        · rename_i e
          rw [List.mem_singleton.mp z]
          obtain ⟨us, e1, _⟩ := (Rg e).1
          rw [e1]
          simp
        · simp at z
    · intro e
      exact ⟨(D e).1, (D e).2.1, (D e).2.2, (F.dk e).1, (F.dk e).2⟩
    · cases rg <;> rfl
    · rw [hcur, hview]
      intro j b r eb er
      cases rg with
      | false => simp at er
      | true =>
        cases j with
        | zero =>
          have e1 : a = b := Option.some.inj eb
          have e2 : (⟨true, false, ys⟩ : Reg) = r := Option.some.inj er
          subst e1 e2
          unfold ROk
          rw [if_pos rfl]
          exact (Rg rfl).1
        | succ j => simp at er
    · intro j b r eb er l
      cases rg with
      | false => simp at er
      | true =>
        cases j with
        | zero =>
          have e1 : a = b := Option.some.inj eb
          have e2 : (⟨true, false, ys⟩ : Reg) = r := Option.some.inj er
          subst e1 e2
          refine ⟨(Rg rfl).2.2, .inl ⟨rfl, List.mem_append_right _ (by simp)⟩, fun i r' ei er' l' => ?_⟩
          cases i with
          | zero => rfl
          | succ i => simp at er'
        | succ j => simp at er
    · have l1 := A.len
      have l2 := envOf_len A
      unfold L2.start
      rw [List.length_append, List.length_append, List.length_map, List.length_replicate, List.length_replicate]
      omega
    · rw [hcur, hview]
      intro i u e
      have l1 := A.len
      have l2 := envOf_len A
      by_cases lt : i < (envOf lay xs).length
      · rw [List.getElem?_append_left lt] at e
        obtain ⟨v, h1, h2⟩ := argsR_env (C := C) (.inr trivial) A hdk (if rg = true then [a] else []) (fun z => by rw [hrg z]; rfl) i u e
        refine ⟨v, ?_, h2⟩
        unfold L2.start
        rw [List.getElem?_append_left (by rw [List.length_map]; omega)]
        exact h1
      · rw [List.getElem?_append_right (by omega), List.getElem?_replicate] at e
        split at e <;> cases e
  refine hb C _ H _ _ _ F R _ _ p fun o s' σ' H' env' ex x v p1 R1 m1 => ?_
  -- the end
  have fin : ∀ (r : PyData) (w : V), Da K (hs (cur C s'.rs ((if rg = true then [a] else []) ++ ex)) H') r w → endOf rg s' post r → Q w H' := by
    intro r w dr p2
    have sub : Same (hs (cur C s'.rs ((if rg = true then [a] else []) ++ ex)) H') (hs T H') := hs_less fun b hb => List.mem_append_left _ hb
    cases rg with
    | false => exact q r w H' [] s'.n p2 R1.frame (fun e => (R1.deck e).1) (fun e => nomatch e) (dr.same sub)
    | true =>
      unfold endOf at p2
      dsimp only at p2
      split at p2
      · rename_i o' zs rest er
        have er0 : s'.rs[0]? = some ⟨true, o', zs⟩ := by rw [er]; rfl
        have hR := R1.regs 0 a _ rfl er0
        unfold ROk at hR
        rw [if_pos rfl] at hR
        obtain ⟨us, e1, hu⟩ := hR
        exact q r w H' zs s'.n p2 R1.frame (fun e => (R1.deck e).1) (fun _ => ⟨us, e1, hu.same sub⟩) (dr.same sub)
      · exact p2.elim
  refine ⟨fun e => ?_, fun e => ?_, fun e => ?_, fun e d => ?_⟩
  · subst e
    exact fin .none .non (da_none.mpr rfl) p1
  · subst e
    exact p1.elim
  · subst e
    exact p1.elim
  · subst e
    exact fin x v d p1
end
end FW
end

/-! W7 -/
section
namespace PySem
open Sem (wp)
theorem meets_enumerate_newB1 {v : Value} {o : Obj} {H : Heap → Prop} (B : Begins v o H) :
    Meets (Builtin.«enumerate.__new__» ⟨[.type "enumerate", v], []⟩) (fun _ R s => H s.heap ∧
      R (.ok (.ret (.ref (s.heap.push o).objs.size))) { s with heap := (s.heap.push o).push { cls := .type "enumerate", data := .fields #[.none, .bool false, .ref s.heap.objs.size, rawInt 0, .none, .none] } }) :=
  .of_wp fun prog w A R s h => by
    obtain ⟨hp, g, d, tk, os⟩ := s; obtain ⟨h1, h⟩ := h
    have hsub := sub_enumerate
    have q1 : ∀ {A' : Around} {E : Value → Shared → Prop} {Q : Value → Shared → Prop}, Q (.ref hp.objs.size) ⟨hp.push o, g, d, tk, os⟩ → wpAny (model prog w) A' (pyIter v) Q E ⟨hp, g, d, tk, os⟩ :=
      fun q => B.iter prog w _ _ ⟨hp, g, d, tk, os⟩ _ h1 q
    wp_walk using q1
    refine wpAny_stack_any fun st => wpAny_pure ?_
    split
    · rename_i c _ _ _ _ _
      cases (c == Value.type "enumerate")
      · wp_walk using q1
        exact ⟨_, rfl, h⟩
      · wp_walk using q1
        exact ⟨_, rfl, h⟩
    · wp_walk using q1
      exact ⟨_, rfl, h⟩
section
variable {prog : Program} {w : World} {A : Around} {E : Value → Shared → Prop} {s : Shared}
theorem enum_begins1 {v : Value} {o : Obj} {H : Heap → Prop} {Q : Value → Shared → Prop} (B : Begins v o H) (h1 : H s.heap)
    (h : ∀ h', IsEnum h' (s.heap.objs.size + 1) s.heap.objs.size 0 .none → h'.get? s.heap.objs.size = some o → h'.objs.size = s.heap.objs.size + 2 →
      (∀ b o, s.heap.get? b = some o → h'.get? b = some o) → Q (.ref (s.heap.objs.size + 1)) { s with heap := h' }) :
    wpAny (model prog w) A (call (.type "enumerate") [v]) Q E s := by
  refine callType_new F.called_enumerate (by decide) (F.typeCall_enumerate_1 _) (F.newCall_enumerate_1 _) (fun obj => F.args_object_init_2 obj _) F.entry_enumerate_new
    (meets_enumerate_newB1 B) ⟨h1, ?_⟩
  have hz : (s.heap.push o).objs.size = s.heap.objs.size + 1 := Heap.size_push ..
  show _ ∧ _
  rw [hz]
  have he : IsEnum ((s.heap.push o).push { cls := .type "enumerate", data := .fields #[.none, .bool false, .ref s.heap.objs.size, rawInt 0, .none, .none] }) (s.heap.objs.size + 1) s.heap.objs.size 0 .none := by
    have := Heap.get?_push_size (s.heap.push o) (o := { cls := .type "enumerate", data := .fields #[.none, .bool false, .ref s.heap.objs.size, rawInt 0, .none, .none] }) rfl
    rw [hz] at this; exact this
  refine ⟨⟨_, he, rfl⟩, h _ he (Heap.get?_push_of_some _ (Heap.get?_push_size _ B.free)) (by rw [Heap.size_push, hz]) fun b o x => Heap.get?_push_of_some _ (Heap.get?_push_of_some _ x)⟩
end
end PySem
namespace FW
open PySem PySem.Spec PyProof.Rows L2
/-- the tuple at a, each item in a new pair -/
def IteT (K : PySem.W.Frag) (a : Addr) : It :=
  ⟨fun i H => ∃ (xs : List V) (x : V), SqT K H a xs ∧ xs[i]? = some x, fun i H v H' => ∃ T x, v = .ref T ∧ H T = none ∧ H' = upd H T (.tup [.int (i : Nat), x]) ∧ ∀ xs, SqT K H a xs → xs[i]? = some x, fun i H => ∃ xs : List V, SqT K H a xs ∧ xs.length ≤ i⟩
theorem turn_enumT {P : Program} {w : World} {K : PySem.W.Frag} {elts : List Expr} {kk : Nat} {tpos : Pos} (a e it : Addr) (hna : a ≠ it) (hea : e ≠ a) :
    Turn P w K (.Tuple elts kk tpos) (IteT K a) [e, it] e (fun i h => (∃ old, IsEnum h e it ((i : Nat) : Int) old) ∧ h.IsTupleIter it a i ∧ e ≠ it) where
  mem := by simp
  obj := fun i h st b hb => by
    obtain ⟨⟨old, he⟩, ⟨o, ho, hc, hd⟩, _⟩ := st
    have e' : b = e ∨ b = it := by simpa using hb
    rcases e' with z | z
    · rw [z]; exact ⟨_, he, fun v q => nomatch q⟩
    · rw [z]; exact ⟨o, ho, fun v q => by rw [hd] at q; cases q⟩
  keep := fun i h h' st k => let ⟨⟨old, he⟩, hi, hne⟩ := st; ⟨⟨old, k e (by simp) _ he⟩, hi.at fun o q => k it (by simp) o q, hne⟩
  item := by
    intro X hP hw hK hc i pins s σ H E I hf st hg
    subst hP hw hK
    obtain ⟨⟨old, he⟩, hit, hne⟩ := st
    obtain ⟨xs, x, hq, hx⟩ := hg
    obtain ⟨its, rv, p, hz⟩ := I.tuple hq
    obtain ⟨u, hu, ru⟩ := rv.get hx
    have hel : e < s.heap.objs.size := Heap.lt_size he
    have hil : it < s.heap.objs.size := by obtain ⟨_, q, _⟩ := hit; exact Heap.lt_size q
    have lt : i < its.toArray.size := by
      have := (List.getElem?_eq_some_iff.mp hu).1
      simpa using this
    refine wpAny_pyNext_enum_itemD (Draws.tuple (by show X.A.in1.handled = none; exact I.ok.hd hc) it a hna its.toArray) he ⟨hit, p⟩ lt hne (by simp [hne, hea]) fun y h' tk hy ho st' hT hsz hk => ?_
    obtain ⟨hit', _⟩ := st'
    have ey : y = u := by
      have : its.toArray[i]? = some u := by simpa using hu
      rw [this] at hy
      exact (Option.some.inj hy).symm
    subst ey
    refine ⟨_, rfl, wpAny_letOwnedTupleGo_enum (s := { s with heap := h', toks := tk + 1 }) ho fun h'' he' sb => ?_⟩
    have hT2 : h''.get? s.heap.objs.size = some { cls := .type "tuple", data := .seq #[.int i tk, y] } := (sb.2 _ (Nat.ne_of_gt hel)).trans hT
    have new : ObjOk X.prog X.w (upd H s.heap.objs.size (.tup [.int (i : Nat), x])) h'' s.heap.objs.size (.tup [.int (i : Nat), x]) :=
      ⟨by show 2 ≤ sizeLine; decide, [.int i tk, y], .cons ⟨_, rfl⟩ (.cons ru .nil), ⟨_, hT2, rfl, _, rfl⟩⟩
    have I1 : Inv X pins σ (upd H s.heap.objs.size (.tup [.int (i : Nat), x])) { s with heap := h'', toks := tk + 1 } :=
      I.turnedNew (ch := [e, it]) (fun b ob hb q => (sb.2 b (fun z => hb (by simp [z]))).trans (hk b ob (fun z => hb (by simp [z])) (fun z => hb (by simp [z])) q)) hf (Nat.le_refl _) new
    refine ⟨.ref s.heap.objs.size, _, I1, rfl, ⟨_, x, rfl, I.hok.fresh (Nat.le_refl _), rfl, fun ys hy => by rw [I.tuple_inj hy hq]; exact hx⟩, ⟨⟨y, ?_⟩, hit'.at fun o q => (sb.2 it (Ne.symm hne)).trans q, hne⟩, fun b hb => ?_⟩
    · have e1 : ((i + 1 : Nat) : Int) = (i : Int) + 1 := by omega
      rw [e1]; exact he'
    · have hb' : b < s.heap.objs.size := by
        have e' : b = e ∨ b = it := by simpa using hb
        rcases e' with z | z
        · rw [z]; exact hel
        · rw [z]; exact hil
      rw [upd_ne (Nat.ne_of_lt hb')]
      exact (hf b hb).1
  done := by
    intro X hP hw hK hc i pins s σ H E I hf st hg
    subst hP hw hK
    obtain ⟨⟨old, he⟩, hit, hne⟩ := st
    obtain ⟨xs, hq, hx⟩ := hg
    obtain ⟨its, rv, p, hz⟩ := I.tuple hq
    obtain ⟨f0, f1, f2, f3, f4, f5⟩ := hf it (by simp)
    have hl := rv.length
    have he' : IsEnum s.heap e it ((i : Nat) : Int) old := he
    unfold pyNext
    have hT : s.TypeIs (.ref e) "enumerate" := ⟨_, he, rfl⟩
    refine wpAny_bind (wpAny_attempt (wpAny_callSpecial?_slot (name := Str.ofString "__next__") hT F.slot_enumerate_next
      (wpAny_call_entry F.slot_enumerate_next hT F.entry_enumerate_next ?_ (F.args_enumerate_next_1 _))))
    show wpAny _ _ (field (.ref e) 2 >>= _) _ _ _
    refine wpAny_bind (wpAny_field he rfl (x := .ref it) rfl ?_)
    refine wpAny_bind (wpAny_nextOf_tuple_end (I.ok.hd hc) hit p (by simp; omega) fun h' x he2 hx' => ?_)
    obtain ⟨o, ho, hcl⟩ := hx'
    refine wpAny_bind (wpAny_isInstance (T := "StopIteration") (b := true) ⟨o, ho, hcl⟩ isSubtype_stop ?_)
    exact wpAny_pure ⟨rfl, I.turned (t' := s.toks) (fun b o hb q => he2 b o hb q) f0 f1 f3 f4 f5⟩
  self := fun A i s Q E st h => let ⟨⟨_, he⟩, _⟩ := st; wpAny_pyIter_enum he h
def iEnumA (K : PySem.W.Frag) (ta : TA) : TI := fun σ H R => ta σ H fun vs H1 => ∃ a xs, vs = [.ref a] ∧ ((SqL K H1 a xs ∧ R (Ite K a) H1) ∨ (SqT K H1 a xs ∧ R (IteT K a) H1))
theorem pi_enumA {X : Cx} {e : Expr} {ta : TA} {p pos tpos : Pos} {elts : List Expr} {kk : Nat} (hg : Gl X "enumerate") (hm : X.mg "enumerate" = none) (ha : PA X [e] ta) (hs : starEach [e] X.env = [(false, eval e X.env)] := by rfl) :
    PI X (.Tuple elts kk tpos) (.Call (.Name "enumerate" p) [e] [] pos) (iEnumA X.K ta) := by
  refine ⟨fun pins s σ H R I h => ?_⟩
  refine Call_ (ld_blt I hg hm boot_enumerate (PyProof.Rows.callWith_type1 (thn (ha.run pos pins s σ H _ I h) fun us s1 ⟨vs, H1, I1, r1, q1⟩ => ?_) hs rfl))
  obtain ⟨a, xs, ex, q1⟩ := q1
  subst ex
  have fresh2 : ∀ b ∈ [s1.heap.objs.size + 1, s1.heap.objs.size], FpOk X pins H1 b := fun b hb => by
    have e' : b = s1.heap.objs.size + 1 ∨ b = s1.heap.objs.size := by simpa using hb
    have hle : s1.heap.objs.size ≤ b := by
      rcases e' with z | z
      · rw [z]; exact Nat.le_add_right _ _
      · rw [z]; exact Nat.le_refl _
    exact I1.fpOk hle (I1.hok.fresh hle)
  cases r1 with
  | cons r rr =>
    cases rr
    cases r
    rcases q1 with ⟨hq, q⟩ | ⟨hq, q⟩
    · obtain ⟨its, rv, p', hz⟩ := I1.list hq
      refine call_enumerate_list p'.isList fun h' he hit hsz hk => wpAny_pyIter_enum he ?_
      have I2 : Inv X pins σ H1 { s1 with heap := h' } := I1.kept (t' := s1.toks) hk
      exact ⟨s1.heap.objs.size + 1, [s1.heap.objs.size + 1, s1.heap.objs.size], _, _, H1, rfl, I2, turn_enum a (s1.heap.objs.size + 1) s1.heap.objs.size, ⟨⟨.none, he⟩, hit, Nat.succ_ne_self _⟩, fresh2, q⟩
    · obtain ⟨its, rv, p', hz⟩ := I1.tuple hq
      have hal : a < s1.heap.objs.size := by
        obtain ⟨o, ho, _⟩ := p'
        exact Heap.lt_size ho
      refine enum_begins1 (begins_tuple a its.toArray) p' fun h' he hit hsz hk => wpAny_pyIter_enum he ?_
      have I2 : Inv X pins σ H1 { s1 with heap := h' } := I1.kept (t' := s1.toks) hk
      exact ⟨s1.heap.objs.size + 1, [s1.heap.objs.size + 1, s1.heap.objs.size], _, _, H1, rfl, I2, turn_enumT a (s1.heap.objs.size + 1) s1.heap.objs.size (Nat.ne_of_lt hal) (Nat.ne_of_gt (Nat.lt_succ_of_lt hal)), ⟨⟨.none, he⟩, ⟨_, hit, rfl, rfl⟩, Nat.succ_ne_self _⟩, fresh2, q⟩
theorem walk_enumT {K : PySem.W.Frag} {a : Addr} {xs : List V} : Walk (IteT K a) xs.length (fun H => SqT K H a xs) (YPair (fun i => some (.int (i : Nat))) (fun i => xs[i]?)) := by
  refine ⟨fun i _ hi q => ⟨xs, xs[i], q, by simp [hi]⟩, fun _ q => ⟨xs, q, Nat.le_refl _⟩, fun i H v H' _ q y => ?_⟩
  obtain ⟨T, x, h1, h2, h3, h4⟩ := y
  exact ⟨T, .int (i : Nat), x, h1, h2, h3, rfl, h4 xs q⟩
end FW
end

/-! W8 -/
section
namespace FW
open PySem PySem.Spec PyProof.Rows L2 FA
section
variable {K : PySem.W.Frag}
/-! data read off the heap -/
mutual
theorem reads_da {P : Program} {w : World} {H : Hp} {h : Heap} (ok : HOk P w H h) (kin : K.In h) : ∀ {d : PyData} {v : V} {u : Value}, Da K H d v → RelV v u → ∃ as, Reads h u d as ∧ ∀ b ∈ as, H b ≠ none
  | .none, v, u, e, r => by
    rw [da_none] at e; subst e
    obtain rfl : u = .none := r
    exact ⟨[], .none, by simp⟩
  | .bool b, v, u, e, r => by
    rw [da_bool] at e; subst e
    obtain rfl : u = .bool b := r
    exact ⟨[], .bool b, by simp⟩
  | .int i, v, u, e, r => by
    rw [da_int] at e; subst e
    obtain ⟨t, rfl⟩ : ∃ t, u = .int i t := r
    exact ⟨[], .int i t, by simp⟩
  | .str x, v, u, e, r => by
    rw [da_str] at e; subst e
    obtain ⟨t, rfl⟩ : ∃ t, u = .str x t := r
    exact ⟨[], .str x t, by simp⟩
  | .list ds, v, u, e, r => by
    obtain ⟨a, xs, rfl, ha, hd⟩ := da_list.mp e
    obtain rfl : u = .ref a := r
    obtain ⟨_, its, n, rv, g⟩ := ok a _ ha
    obtain ⟨as, h1, h2⟩ := readsAll_da ok kin hd rv
    refine ⟨a :: as, .list g rfl rfl (by simpa using h1), fun b hb => ?_⟩
    rcases List.mem_cons.mp hb with rfl | hb
    · rw [ha]; simp
    · exact h2 b hb
  | .tuple ds, v, u, e, r => by
    obtain ⟨a, xs, rfl, ha, hd⟩ := da_tuple.mp e
    obtain rfl : u = .ref a := r
    rcases ha with ha | ⟨o, its, n, lk, hc, hdat, _, rv⟩
    · obtain ⟨_, its, rv, o, g, hc, n, hn⟩ := ha.ok ok
      obtain ⟨as, h1, h2⟩ := readsAll_da ok kin hd rv
      exact ⟨as, .tuple g hc hn (by simpa using h1), h2⟩
    · obtain ⟨as, h1, h2⟩ := readsAll_da ok kin hd rv
      exact ⟨as, .tuple (kin _ _ lk) hc hdat (by simpa using h1), h2⟩
  | .dict kvs, v, u, e, r => by
    obtain ⟨a, es, rfl, ha, hd⟩ := da_dict.mp e
    obtain rfl : u = .ref a := r
    obtain ⟨_, _, vs, rel, o, ents, ep, g, hx, hdat, _, prs, _⟩ := ok a _ ha
    obtain ⟨as, bs, h1, h2, h3, h4⟩ := readsKv_da ok kin (es := es) (vs := vs) (ents := ents.toList) hd rel prs
    refine ⟨a :: as ++ bs, .dict g (by first | exact hx.1 | exact hx.cls) hdat h1 h2, fun b hb => ?_⟩
    rcases List.mem_append.mp hb with hb | hb
    · rcases List.mem_cons.mp hb with rfl | hb
      · rw [ha]; simp
      · exact h3 b hb
    · exact h4 b hb
theorem readsAll_da {P : Program} {w : World} {H : Hp} {h : Heap} (ok : HOk P w H h) (kin : K.In h) : ∀ {ds : List PyData} {xs : List V} {us : List Value}, DaAll K H ds xs → Vals xs us → ∃ as, ReadsAll h us ds as ∧ ∀ b ∈ as, H b ≠ none
  | [], xs, us, e, r => by
    rw [e.nil_eq] at r
    cases r
    exact ⟨[], .nil, by simp⟩
  | d :: ds, xs, us, e, r => by
    obtain ⟨y, ys, rfl, hy, hys⟩ := e.uncons
    cases r with
    | cons r1 r2 =>
      obtain ⟨as, h1, h2⟩ := reads_da ok kin hy r1
      obtain ⟨bs, h3, h4⟩ := readsAll_da ok kin hys r2
      exact ⟨as ++ bs, .cons h1 h3, fun b hb => (List.mem_append.mp hb).elim (h2 b) (h4 b)⟩
theorem readsKv_da {P : Program} {w : World} {H : Hp} {h : Heap} (ok : HOk P w H h) (kin : K.In h) : ∀ {kvs : List (PyData × PyData)} {es : List (Key × V)} {vs : List (Key × Value)} {ents : List DictEntry}, DaKv K H kvs es → KV es vs → PySem.Pairs (mixKind P w) ents vs →
    ∃ as bs, ReadsAll h (ents.map (·.key)) (kvs.map (·.1)) as ∧ ReadsAll h (ents.map (·.val)) (kvs.map (·.2)) bs ∧ (∀ b ∈ as, H b ≠ none) ∧ ∀ b ∈ bs, H b ≠ none
  | [], es, vs, ents, e, r, p => by
    simp only [DaKv] at e; subst e
    cases r
    cases p
    exact ⟨[], [], .nil, .nil, by simp, by simp⟩
  | (k, d) :: ds, es, vs, ents, e, r, p => by
    simp only [DaKv] at e
    obtain ⟨c, y, ys, rfl, rfl, hy, hys⟩ := e
    cases r with
    | cons r1 r2 =>
      cases p with
      | cons p1 p2 p3 =>
        obtain ⟨e1, e2⟩ := r1
        dsimp only at e1 e2
        obtain ⟨as, h1, h2⟩ := reads_da ok kin hy e2
        obtain ⟨cs, bs, h3, h4, h5, h6⟩ := readsKv_da ok kin hys r2 p3
        refine ⟨[] ++ cs, as ++ bs, .cons ?_ h3, .cons ?_ h4, by simpa using h5, fun b hb => (List.mem_append.mp hb).elim (h2 b) (h6 b)⟩
        · show Reads h _ (keyD c) []
          rw [e1]
          exact reads_key p1
        · rw [← p2] at h1
          exact h1
end
/-! repr -/
def rReprW (K : PySem.W.Frag) : List V → Hp → VK → Prop := fun xs H Q => ∃ v d, xs = [v] ∧ Da K H d v ∧ d.showable = true ∧ d.depth ≤ 60 ∧ d.shown.length ≤ sizeLine ∧ Q (.str d.shown) H
theorem call_reprW {X : Cx} {k : Nat} (K : PySem.W.Frag) (hK : X.K = K) (hg : X.A.guards = some []) (hr : Room k X.A) (hS : NoSys X) : CallR X (.builtin "repr") (rReprW K) := by
  subst hK
  intro pins s σ H xs us Q I r h
  obtain ⟨v, d, rfl, hd, hs, hdp, hz, q⟩ := h
  obtain ⟨u, rfl, ru⟩ := vals1 r
  obtain ⟨as, hR, hT⟩ := reads_da I.hok I.kIn hd ru
  have hsm : d.hasDict = true → sysModules ∉ as := fun _ hm => by
    obtain ⟨o, ho⟩ := hS
    exact hT _ hm (I.bs _ _ ho).2
  have hu := hr.units
  exact repr_any hR hs hsm hg (by omega) (fun h' t tk hk => ⟨.str _, H, I.kept hk, ⟨t, rfl⟩, q⟩) hz
theorem creprW {X : Cx} {j : Nat} {e : Expr} {t : TA} {p pos : Pos} (K : PySem.W.Frag) (hK : X.K = K) (R : Rdy j X) (hm : X.mg ("repr" : Str) = none) (ha : PA X [e] t) (hg : Gl X "repr" := by rfl)
    (he : starEach [e] X.env = (false, eval e X.env) :: starEach [] X.env := by rfl) (hpl : (backTo pos (starEach [] X.env)).any (·.1) = false := by rfl) :
    PE X (.Call (.Name "repr" p) [e] [] pos) (tCB (rReprW K) t) :=
  pe_callB (call_reprW K hK R.gd R.room R.sys) hg hm bt_repr ha (by decide) (by decide) he hpl
theorem cs_repr : CbS K (rReprW K) oReprD := by
  intro T H xs vs k Q al d p q
  unfold oReprD at p
  split at p
  · obtain ⟨v, rfl, h⟩ := one_of d
    exact ⟨v, _, rfl, h.same hs_sub, p.1, p.2.1, p.2.2.1, q _ _ _ p.2.2.2 (Same.refl _) (da_str.mpr rfl)⟩
  · exact p.elim
/-! sorted -/
def rSortW (K : PySem.W.Frag) : List V → Hp → VK → Prop := fun vs H Q => ∃ (a : Addr) (xs : List V) (ds : List PyData) (T : List Addr), vs = [V.ref a] ∧ H a = some (.lst xs) ∧ DaAll K (hs T H) ds xs ∧ PySem.W.AllAlike ds ∧ PySem.W.Sortable ds ∧ (∀ d ∈ ds, d.depth ≤ 60) ∧
  ∀ ys p, DaAll K (hs T H) (ds.mergeSort (PySem.W.dataLe false id)) ys → H p = none → Q (.ref p) (upd H p (.lst ys))
theorem each_of {T : List Addr} {H : Hp} : ∀ {ds : List PyData} {xs : List V} {us : List Value}, DaAll K (hs T H) ds xs → Vals xs us → PySem.W.EachIs (fun (u : Value) (d : PyData) => ∃ v, RelV v u ∧ Da K (hs T H) d v) us ds
  | [], xs, us, h, r => by
    rw [h.nil_eq] at r
    cases r
    exact .nil
  | d :: ds, xs, us, h, r => by
    obtain ⟨v, t, rfl, h1, h2⟩ := h.uncons
    cases r with
    | cons r1 r2 => exact .cons ⟨v, r1, h1⟩ (each_of h2 r2)
theorem of_each {T : List Addr} {H : Hp} : ∀ {ds : List PyData} {us : List Value}, PySem.W.EachIs (fun (u : Value) (d : PyData) => ∃ v, RelV v u ∧ Da K (hs T H) d v) us ds → ∃ xs, DaAll K (hs T H) ds xs ∧ Vals xs us
  | [], _, .nil => ⟨[], da_nil, .nil⟩
  | d :: ds, _, .cons ⟨v, r, h⟩ t => by
    obtain ⟨xs, h1, h2⟩ := of_each t
    exact ⟨v :: xs, da_cons h h1, .cons r h2⟩
theorem each_reads {P : Program} {w : World} {T : List Addr} {H : Hp} {h : Heap} (ok : HOk P w H h) (kin : K.In h) : ∀ {ds : List PyData} {us : List Value}, PySem.W.EachIs (fun (u : Value) (d : PyData) => ∃ v, RelV v u ∧ Da K (hs T H) d v) us ds → PySem.W.EachIs (fun v d => ∃ as, Reads h v (id d) as) us ds
  | [], _, .nil => .nil
  | d :: ds, _, .cons ⟨v, r, q⟩ t => by
    obtain ⟨as, h1, _⟩ := reads_da ok kin (q.same hs_sub) r
    exact .cons ⟨as, h1⟩ (each_reads ok kin t)
theorem cr_sortW {X : Cx} {k : Nat} (K : PySem.W.Frag) (hK : X.K = K) (hr : Room k X.A) : CallR X (.builtin "sorted") (rSortW K) := by
  subst hK
  intro pins s σ H vs us Q I r h
  obtain ⟨a, xs, ds, T, rfl, hs1, hd, hal, hso, hdp, q⟩ := h
  obtain ⟨u, rfl, ru⟩ := vals1 r
  obtain rfl : u = Value.ref a := ru
  obtain ⟨its, rv, pl, hz⟩ := I.list (SqL.of hs1)
  have e := each_of hd rv
  have er := each_reads I.hok I.kIn e
  have hu := hr.units
  have el : its.length = ds.length := by rw [← rv.length, hd.len]
  refine PySem.W.sorted_data (enc := id) pl.isList e er (by rw [List.map_id]; exact hal) (by rw [List.map_id]; exact hso) (by rw [← el, ← rv.length]; exact hz) (fun b hb => ?_) fun out hl eo => ?_
  · have := hdp b hb
    show _ + 2 + b.depth < _
    omega
  · obtain ⟨ys, h1, h2⟩ := of_each eo
    obtain ⟨c, hc⟩ := sortedAll_at s.heap its out.toArray
    have hn : H (s.heap.objs.size + 1) = none := I.hok.fresh (Nat.le_succ _)
    have hyl : ys.length ≤ sizeLine := by
      rw [h2.length, hl, ← el, ← rv.length]
      exact hz
    exact ⟨.ref (s.heap.objs.size + 1), upd H (s.heap.objs.size + 1) (.lst ys), I.laid (o := .lst ys) (t' := s.toks) (fun b o => sortedAll_old) (Nat.le_succ _) ⟨hyl, out, c, h2, hc⟩, rfl, q ys _ h1 hn⟩
def oSortD (xs : List PyData) (k : PyData → Prop) : Prop := match xs with
  | [.list ds] => PySem.W.AllAlike ds ∧ PySem.W.Sortable ds ∧ (∀ d ∈ ds, d.depth ≤ 60) ∧ k (.list (ds.mergeSort (PySem.W.dataLe false id)))
  | _ => False
theorem cs_sort : CbS K (rSortW K) oSortD := by
  intro T H xs vs k Q al d p q
  unfold oSortD at p
  split at p
  · obtain ⟨v, rfl, h⟩ := one_of d
    obtain ⟨a, us, rfl, e1, h1⟩ := da_list.mp h
    exact ⟨a, us, _, T, rfl, hs_list e1, h1, p.1, p.2.1, p.2.2.1, fun ys r hy hr => q _ _ _ p.2.2.2 (same_new hr _) (da_lst_new al hr hy)⟩
  · exact p.elim
theorem bt_sorted : bootBuiltins "sorted" = some (.builtin "sorted") := by decide +kernel
/-! str.split -/
def oSplitD : K2
  | .str a, .str b, k => (b.length == 0) = false ∧ a.length ≤ 1000000 ∧ k (.list ((Txt.split a b).map PyData.str))
  | _, _, _ => False
def fM1 (o : K2) (a b : E) : E := fOp o a b
theorem da_strs {H : Hp} : ∀ zs : List Str, DaAll K H (zs.map PyData.str) (zs.map V.str)
  | [] => da_nil
  | z :: r => da_cons (da_str.mpr rfl) (da_strs r)
theorem se_split {to te : TE} {a b : E} (ha : SE K to a) (hb : SE K te b) : SE K (tM1 (fun x xs H Q => ∃ a b, x = .str a ∧ xs = [.str b] ∧ (b.length == 0) = false ∧ a.length + 2 ≤ sizeLine ∧ rNewStrs (Txt.split a b) H Q) to te)
    (fun env s post => a env s fun x s1 => match x with
      | .str y => b env s1 fun z s2 => oSplitD (.str y) z fun r => post r s2
      | _ => False) := by
  intro C σ H env s as f R post Q p k
  refine ha C σ H env s as f R _ _ p fun x s1 v H1 p1 R1 m1 d1 => ?_
  cases x with
  | str y =>
    rw [da_str] at d1
    subst d1
    refine ⟨⟨y, rfl⟩, hb C σ H1 env s1 as f R1 _ _ p1 fun z s2 u H2 p2 R2 m2 d2 => ?_⟩
    cases z with
    | str z =>
      rw [da_str] at d2
      subst d2
      obtain ⟨q1, q2, q3⟩ := p2
      refine ⟨y, z, rfl, rfl, q1, by rw [sizeLine_eq]; omega, fun r hr => ?_⟩
      obtain ⟨R3, m3⟩ := R2.same (same_new hr (.lst ((Txt.split y z).map V.str)))
      exact k _ _ _ _ q3 R3 ((m1.trans m2).trans m3) (da_lst_new R2.alloc hr (da_strs _))
    | _ => exact False.elim p2
  | _ => exact False.elim p1
/-! d["k"] -/
def dlook (kvs : List (PyData × PyData)) (k : Str) : Option PyData := match kvs with
  | [] => none
  | (.str z, d) :: r => if z = k then some d else dlook r k
  | _ :: r => dlook r k
theorem dlook_of {H : Hp} {k : Str} : ∀ {kvs : List (PyData × PyData)} {es : List (Key × V)} {d : PyData}, DaKv K H kvs es → dlook kvs k = some d → ∃ v, valV es (Sum.inr k) = some v ∧ Da K H d v
  | [], es, d, h, e => by simp [dlook] at e
  | (k', d') :: r, es, d, h, e => by
    simp only [DaKv] at h
    obtain ⟨c, y, ys, rfl, rfl, h1, h2⟩ := h
    cases c with
    | inl i =>
      obtain ⟨v, h3, h4⟩ := dlook_of h2 (show dlook r k = some d from e)
      refine ⟨v, ?_, h4⟩
      unfold valV at h3 ⊢
      rw [List.find?_cons_of_neg (by simp)]
      exact h3
    | inr z =>
      have e' : (if z = k then some d' else dlook r k) = some d := e
      by_cases q : z = k
      · subst q
        rw [if_pos rfl] at e'
        have := Option.some.inj e'
        subst this
        exact ⟨y, by unfold valV; rw [List.find?_cons_of_pos (by simp)]; rfl, h1⟩
      · rw [if_neg q] at e'
        obtain ⟨v, h3, h4⟩ := dlook_of h2 e'
        refine ⟨v, ?_, h4⟩
        unfold valV at h3 ⊢
        rw [List.find?_cons_of_neg (by simpa using q)]
        exact h3
def oDGet : K2
  | .dict kvs, .str k, q => (match dlook kvs k with
    | some d => q d
    | none => False)
  | _, _, _ => False
theorem se_dget {td ty : TE} {a b : E} (ha : SE K td a) (hb : SE K ty b) : SE K (tDGet td ty) (fOp oDGet a b) := by
  intro C σ H env s as f R post Q p k
  refine ha C σ H env s as f R _ _ p fun x s1 v H1 p1 R1 m1 d1 => hb C σ H1 env s1 as f R1 _ _ p1 fun y s2 u H2 p2 R2 m2 d2 => ?_
  have d1 := d1.same m2
  cases x with
  | dict kvs =>
    cases y with
    | str z =>
      obtain ⟨c, es, rfl, e1, h1⟩ := da_dict.mp d1
      rw [da_str] at d2
      subst d2
      have p2 : (match dlook kvs z with
        | some d => post d s2
        | none => False) := p2
      split at p2
      · rename_i d e
        obtain ⟨w, h3, h4⟩ := dlook_of h1 e
        exact ⟨c, w, rfl, by have := DGet.k (k := Sum.inr z) (hs_some e1).2; rw [h3] at this; exact this, k _ _ _ _ p2 R2 (m1.trans m2) h4⟩
      · exact p2.elim
    | _ => exact False.elim p2
  | _ => exact False.elim p2
/-! enumerate -/
def enumD (xs : List PyData) : List PyData := (List.range xs.length).zipWith (fun (i : Nat) x => .tuple [.int i, x]) xs
theorem enumD_get {xs : List PyData} {i : Nat} {x : PyData} (h : xs[i]? = some x) : (enumD xs)[i]? = some (.tuple [.int (i : Int), x]) := by
  have lt := (List.getElem?_eq_some_iff.mp h).1
  unfold enumD
  rw [List.getElem?_zipWith, List.getElem?_range lt, h]
theorem enumD_len {xs : List PyData} : (enumD xs).length = xs.length := by
  unfold enumD
  rw [List.length_zipWith, List.length_range, Nat.min_self]
theorem si_enum {ta : TA} {e : EA} (h : SA K 1 ta e) : SI K (iEnumA K ta) (fun env s post => e env s fun xs s' => match xs with
    | [.list ys] => post (enumD ys) s'
    | [.tuple ys] => post (enumD ys) s'
    | _ => False) := by
  intro C σ H env s as F R post Q p k
  refine h C σ H env s as F R _ _ p fun xs s' vs H' p1 R1 m1 d1 l => ?_
  have go : ∀ (ys : List PyData) (us : List V) (T : List Addr), DaAll K (hs T H') ys us → ∀ (T2 : List Addr) (H2 : Hp) (i : Nat) (v : V) (H3 : Hp), Same (hs T H') (hs T2 H2) → (∀ a ∈ T2, H2 a ≠ none) →
      YPair (fun i => some (.int (i : Nat))) (fun i => us[i]?) i H2 v H3 → Same H2 H3 ∧ ∃ x, (enumD ys)[i]? = some x ∧ Da K (hs T2 H3) x v := by
    rintro ys us T hd T2 H2 i v H3 m al ⟨p, x, y, rfl, hp, rfl, hx, hy⟩
    obtain ⟨d, ed, dd⟩ := hd.of_get hy
    have := Option.some.inj hx
    subst this
    exact ⟨same_new hp _, _, enumD_get ed, da_tup_new al hp (da_cons (da_int.mpr rfl) (da_cons (dd.same m) da_nil))⟩
  match xs, p1 with
  | [.list ys], p1 =>
    obtain ⟨v, rfl, hv⟩ := one_of d1
    obtain ⟨a, us, rfl, e1, h1⟩ := da_list.mp hv
    exact ⟨a, us, rfl, .inl ⟨SqL.of (hs_list e1), k _ s' _ H' p1 R1 m1 ⟨_, _, by rw [enumD_len, ← h1.len]; exact walk_enum, fun T2 H2 m => SqL.of (hs_list (m _ _ e1)), fun T2 H2 i v H3 m al _ y => go ys us _ h1 T2 H2 i v H3 m al y⟩⟩⟩
  | [.tuple ys], p1 =>
    obtain ⟨v, rfl, hv⟩ := one_of d1
    obtain ⟨a, us, rfl, e1, h1⟩ := da_tuple.mp hv
    exact ⟨a, us, rfl, .inr ⟨sqT_hs e1, k _ s' _ H' p1 R1 m1 ⟨_, _, by rw [enumD_len, ← h1.len]; exact walk_enumT, fun T2 H2 m => sqT_hs (seqT_same m e1), fun T2 H2 i v H3 m al _ y => go ys us _ h1 T2 H2 i v H3 m al y⟩⟩⟩
end
/-! rules told K -/
section
variable {X : Cx} {K : PySem.W.Frag}
theorem pe_tupW {a : Expr} {ta : TE} {p pos : Pos} (K : PySem.W.Frag) (hK : X.K = K) (hg : Gl X "tuple") (hm : X.mg "tuple" = none) (ha : PE X a ta) (na : starEach [a] X.env = (false, eval a X.env) :: starEach [] X.env := by rfl) :
    PE X (.Call (.Name "tuple" p) [a] [] pos) (tThen ta (kTup K)) := by
  subst hK
  exact pe_tupleOf hg hm ha na
theorem pi_listW {tg l : Expr} {tl : TE} (K : PySem.W.Frag) (hK : X.K = K) (hl : PE X l tl) : PI X tg l (iList K tl) := by subst hK; exact pi_list hl
theorem pi_tupW {tg l : Expr} {tl : TE} (K : PySem.W.Frag) (hK : X.K = K) (hl : PE X l tl) : PI X tg l (iTup K tl) := by subst hK; exact pi_tup hl
theorem pi_enumW {e : Expr} {ta : TA} {p pos tpos : Pos} {elts : List Expr} {kk : Nat} (K : PySem.W.Frag) (hK : X.K = K) (hg : Gl X "enumerate") (hm : X.mg "enumerate" = none) (ha : PA X [e] ta) (hs : starEach [e] X.env = [(false, eval e X.env)] := by rfl) :
    PI X (.Tuple elts kk tpos) (.Call (.Name "enumerate" p) [e] [] pos) (iEnumA K ta) := by
  subst hK
  exact pi_enumA hg hm ha hs
end
end FW
namespace FW
open PySem PySem.Spec PyProof.Rows L2 FA
/-! names of the forms that the rules speak of -/
abbrev iListD (e : E) : EA := fun env s post => e env s fun x s' => match x with
    | .list xs => post xs s'
    | _ => False
abbrev iTupD (e : E) : EA := fun env s post => e env s fun x s' => match x with
    | .tuple xs => post xs s'
    | _ => False
abbrev iEnumD (e : EA) : EA := fun env s post => e env s fun xs s' => match xs with
    | [.list ys] => post (enumD ys) s'
    | [.tuple ys] => post (enumD ys) s'
    | _ => False
abbrev iRange1 (e : EA) : EA := fun env s post => e env s fun xs s' => match xs with
    | [.int j] => (-(2 ^ 62) ≤ j ∧ j < 2 ^ 62) ∧ post (rngD 0 j.toNat) s'
    | _ => False
abbrev iRange2 (e : EA) : EA := fun env s post => e env s fun xs s' => match xs with
    | [.int i, .int j] => (-(2 ^ 62) ≤ i ∧ i < 2 ^ 62 ∧ -(2 ^ 62) ≤ j ∧ j < 2 ^ 62) ∧ post (rngD i (j - i).toNat) s'
    | _ => False
abbrev lListOf (a : E) : EA := fun env s post => a env s fun x s1 => match x with
    | .list ys => post ys s1
    | .tuple ys => post ys s1
    | _ => False
abbrev fSplit (a b : E) : E := fun env s post => a env s fun x s1 => match x with
      | .str y => b env s1 fun z s2 => oSplitD (.str y) z fun r => post r s2
      | _ => False
section
variable {X : Cx}
theorem calK {f : Value} {r : PySem.W.Frag → List V → Hp → VK → Prop} (K : PySem.W.Frag) (h : X.K = K) (c : CallR X f (r X.K)) : CallR X f (r K) := by subst h; exact c
theorem oprK {f : Value → Value → Sem Value} {r : PySem.W.Frag → R2} (K : PySem.W.Frag) (h : X.K = K) (c : OpR X f (r X.K)) : OpR X f (r K) := by subst h; exact c
theorem calTK {f : Value} {r : PySem.W.Frag → List V → Hp → VK → Prop} (K : PySem.W.Frag) (h : X.K = K) (c : CallR X f (r X.K)) : CallR X f (r K) := by subst h; exact c
theorem pg_tupW {n : Nat} {elts : List Expr} {kk : Nat} {pos : Pos} {ts : TGs} (K : PySem.W.Frag) (hK : X.K = K) (hc : X.calm = true) (h : PGs X elts ts)
    (hn : (assignEach elts X.env).length = n := by rfl) (hst : (assignEach elts X.env).findIdx? (·.1) = none := by rfl) : PG X (.Tuple elts kk pos) (gTup K n ts) := by
  subst hK
  exact pg_tup hc h hn hst
variable {o e : Expr} {es : List Expr} {to : TE} {t : TA} {name : Str} {apos cpos : Pos} {T id : String} {r : V → List V → Hp → VK → Prop}
theorem pe_bm0W (K : PySem.W.Frag) (hK : X.K = K) (pa : PlainAttrs T) (slot : Slot T name id) (hty : typeOf (.builtin id) = pure (.type "method_descriptor")) (hm : MtR X id r) (ho : PE X o to)
    (hbase : attributeBase o name X.env (eval o X.env) = eval o X.env := by rfl) (hline : (apos.endLine == cpos.line) = true := by rfl) : PE X (.Call (.Attribute o name apos) [] [] cpos) (tBM0 K T r to) := by
  subst hK
  exact pe_bm0 pa slot hty hm ho hbase hline
theorem pe_bmW (K : PySem.W.Frag) (hK : X.K = K) (pa : PlainAttrs T) (slot : Slot T name id) (hty : typeOf (.builtin id) = pure (.type "method_descriptor")) (hm : MtR X id r) (ho : PE X o to) (ha : PA X (e :: es) t)
    (hbase : attributeBase o name X.env (eval o X.env) = eval o X.env := by rfl)
    (hfew : ((backTo cpos (starEach (e :: es) X.env)).all (fun x => !x.1) && (backToKw cpos (keywordEach [] X.env)).all (fun x => x.1.isSome)
      && decide ((e :: es).length + ([] : List Keyword).length + (if ([] : List Keyword).isEmpty then 0 else 1) < 30)) = true := by rfl)
    (hline : (apos.endLine == cpos.line) = true := by rfl) (hs : starEach (e :: es) X.env = (false, eval e X.env) :: starEach es X.env := by rfl) (hplain : (backTo cpos (starEach es X.env)).any (·.1) = false := by rfl) :
    PE X (.Call (.Attribute o name apos) (e :: es) [] cpos) (tBM K T r to t) := by
  subst hK
  exact pe_bm pa slot hty hm ho ha hbase hfew hline hs hplain
end
end FW
end

/-! W9 -/
section
namespace FW
open PySem PySem.Spec PyProof.Rows L2 FA
/-- a draw: any number below m -/
def drawF : Fn := fun xs _ n post => match xs with
  | [.int m] => n ≤ 1000000 ∧ 0 < m ∧ m.natAbs < 2 ^ 64 ∧ ∀ r : Int, 0 ≤ r → r < m → post (.int r) [] (n + 1)
  | _ => False
theorem hid_hs {d c : Addr} {H : Hp} : hid d c H = hs [d, c] H := by
  funext b
  unfold hid hs
  by_cases z : b = d ∨ b = c
  · rw [if_pos z, if_pos (by simpa using z)]
  · rw [if_neg z, if_neg (by simpa using z)]
theorem draw_weak {K : PySem.W.Frag} (vs : List V) (H : Hp) (Q : VK) (E : XK) (h : spW K true false [.deck, .dat] drawF vs H Q E) : spDraw vs H Q E := by
  obtain ⟨T, d, c, a, n, xs, ys, post, A, al, D, _, p, q⟩ := h
  obtain ⟨r, rfl, v, r2, x, t, rfl, rfl, dx, rfl, rfl⟩ := A
  cases x with
  | int m =>
    rw [da_int] at dx
    subst dx
    obtain ⟨p1, p2, p3, p4⟩ := p
    obtain ⟨D1, hd, hc⟩ := D rfl
    refine ⟨d, c, n, m, rfl, D1, p1, p2, p3, fun r H' r0 r1 D' s' => ?_⟩
    rw [hid_hs, hid_hs] at s'
    exact q _ (.int r) H' [] (n + 1) (p4 r r0 r1) s' (fun _ => D') (fun e => nomatch e) (da_int.mpr rfl)
  | _ => exact p.elim
end FW
end

/-! W10 -/
section
set_option autoImplicit false
namespace FW
open PySem PySem.Spec PyProof.Rows L2 FA
/-! loops, by an invariant -/
theorem lc_go {tg : ET} {cond : EB} {elt : E} {env : Env} {all : List PyData} {post : List PyData → S → Prop} (Iv : Nat → List PyData → S → Prop)
    (turn : ∀ (i : Nat) x acc s, all[i]? = some x → Iv i acc s → ∀ (kt : PyData → S → Prop) (kf : S → Prop), (∀ y s2, Iv (i + 1) (acc ++ [y]) s2 → kt y s2) → (∀ s2, Iv (i + 1) acc s2 → kf s2) →
      tg env x fun env1 => cond env1 s fun b s1 => if b = true then elt env1 s1 kt else kf s1)
    (done : ∀ acc s, Iv all.length acc s → post acc s) : ∀ (xs : List PyData) (i : Nat) (acc : List PyData) (s : S), all.drop i = xs → i ≤ all.length → Iv i acc s → lcGo tg cond elt env xs acc s post
  | [], i, acc, s, e, li, h => by
    have : all.length ≤ i := by
      have := congrArg List.length e
      rw [List.length_drop, List.length_nil] at this
      omega
    have : i = all.length := by omega
    subst this
    exact done acc s h
  | x :: xs, i, acc, s, e, li, h => by
    have ex : all[i]? = some x := by
      have := congrArg (fun l => l[0]?) e
      simpa [List.getElem?_drop] using this
    have lt := (List.getElem?_eq_some_iff.mp ex).1
    have e2 : all.drop (i + 1) = xs := by
      rw [← List.drop_drop, e]
      rfl
    exact turn i x acc s ex h _ _ (fun y s2 h2 => lc_go Iv turn done xs (i + 1) (acc ++ [y]) s2 e2 lt h2) (fun s2 h2 => lc_go Iv turn done xs (i + 1) acc s2 e2 lt h2)
/-- a comprehension -/
theorem lc_inv {tg : ET} {cond : EB} {elt : E} {env : Env} {all : List PyData} {s : S} {post : List PyData → S → Prop} (Iv : Nat → List PyData → S → Prop) (h0 : Iv 0 [] s)
    (turn : ∀ (i : Nat) x acc s, all[i]? = some x → Iv i acc s → ∀ (kt : PyData → S → Prop) (kf : S → Prop), (∀ y s2, Iv (i + 1) (acc ++ [y]) s2 → kt y s2) → (∀ s2, Iv (i + 1) acc s2 → kf s2) →
      tg env x fun env1 => cond env1 s fun b s1 => if b = true then elt env1 s1 kt else kf s1)
    (done : ∀ acc s, Iv all.length acc s → post acc s) : lcGo tg cond elt env all [] s post := lc_go Iv turn done all 0 [] s (List.drop_zero) (Nat.zero_le _) h0
/-- what a turn goes on with -/
def Kn (kn : Env → S → Prop) (kb : Env → S → Prop) (kr : PyData → S → Prop) : Out → S → Prop := fun o s' => match o with
  | .nxt e => kn e s'
  | .cnt e => kn e s'
  | .brk e => kb e s'
  | .ret y => kr y s'
theorem for_go {tg : ET} {body : ES} {all : List PyData} {post : Out → S → Prop} (Iv : Nat → Env → S → Prop)
    (turn : ∀ (i : Nat) x env s, all[i]? = some x → Iv i env s → ∀ kn : Env → S → Prop, (∀ e s2, Iv (i + 1) e s2 → kn e s2) →
      tg env x fun env1 => body env1 s (Kn kn (fun e s' => post (.nxt e) s') fun y s' => post (.ret y) s'))
    (done : ∀ env s, Iv all.length env s → post (.nxt env) s) : ∀ (xs : List PyData) (i : Nat) (env : Env) (s : S), all.drop i = xs → i ≤ all.length → Iv i env s → forGo tg body xs env s post
  | [], i, env, s, e, li, h => by
    have : all.length ≤ i := by
      have := congrArg List.length e
      rw [List.length_drop, List.length_nil] at this
      omega
    have : i = all.length := by omega
    subst this
    exact done env s h
  | x :: xs, i, env, s, e, li, h => by
    have ex : all[i]? = some x := by
      have := congrArg (fun l => l[0]?) e
      simpa [List.getElem?_drop] using this
    have lt := (List.getElem?_eq_some_iff.mp ex).1
    have e2 : all.drop (i + 1) = xs := by
      rw [← List.drop_drop, e]
      rfl
    exact turn i x env s ex h _ (fun e s2 h2 => for_go Iv turn done xs (i + 1) e s2 e2 lt h2)
/-- a for -/
theorem for_inv {tg : ET} {body : ES} {all : List PyData} {env : Env} {s : S} {post : Out → S → Prop} (Iv : Nat → Env → S → Prop) (h0 : Iv 0 env s)
    (turn : ∀ (i : Nat) x env s, all[i]? = some x → Iv i env s → ∀ kn : Env → S → Prop, (∀ e s2, Iv (i + 1) e s2 → kn e s2) →
      tg env x fun env1 => body env1 s (Kn kn (fun e s' => post (.nxt e) s') fun y s' => post (.ret y) s'))
    (done : ∀ env s, Iv all.length env s → post (.nxt env) s) : forGo tg body all env s post := for_go Iv turn done all 0 env s (List.drop_zero) (Nat.zero_le _) h0
theorem rng_get {lo : Int} {n i : Nat} {x : PyData} (h : (rngD lo n)[i]? = some x) : i < n ∧ x = .int (lo + (i : Int)) := by
  unfold rngD at h
  rw [List.getElem?_map] at h
  cases e : (List.range n)[i]? with
  | none => rw [e] at h; cases h
  | some j =>
    rw [e] at h
    have lt := (List.getElem?_eq_some_iff.mp e).1
    rw [List.length_range] at lt
    rw [List.getElem?_range lt] at e
    have := Option.some.inj e
    subst this
    exact ⟨lt, (Option.some.inj h).symm⟩
theorem rng_len {lo : Int} {n : Nat} : (rngD lo n).length = n := by rw [rngD, List.length_map, List.length_range]
/-! what defs of the laws are worth -/
/-- a draw -/
def DrawSp (f : Fn) : Prop := ∀ (m : Int) (n : Nat) (post : PyData → List PyData → Nat → Prop), n + 1 ≤ 1000000 → 0 < m → m < 2 ^ 60 → (∀ r : Int, 0 ≤ r → r < m → post (.int r) [] (n + 1)) → f [.int m] [] n post
theorem draw_sp : DrawSp drawF := fun m n post h1 h2 h3 q => ⟨by omega, h2, by omega, q⟩
/-- a pick -/
def PickSp (f : Fn) : Prop := ∀ (xs : List PyData) (n : Nat) (post : PyData → List PyData → Nat → Prop), n + 1 ≤ 1000000 → 0 < xs.length → xs.length ≤ 100000 → (∀ x ∈ xs, post x [] (n + 1)) → f [.list xs] [] n post ∧ f [.tuple xs] [] n post
theorem at_some {α : Type} {xs : List α} {r : Int} (h0 : 0 ≤ r) (h1 : r < xs.length) : ∃ x ∈ xs, atI xs r = some x := by
  have hj : r.toNat < xs.length := by omega
  have er : r = ((r.toNat : Nat) : Int) := by omega
  refine ⟨xs[r.toNat], List.getElem_mem hj, ?_⟩
  have := atI_nat (List.getElem?_eq_getElem hj)
  rw [← er] at this
  exact this
/-- names, short ones -/
def Nm (z : Str) : Prop := z.length ≤ 10 ∧ Low z
theorem okd_nm {D W : Nat} {z : Str} (h : Nm z) (hW : 10 ≤ W) : Okd D W (.str z) := okd_str h.2 (Nat.le_trans h.1 hW)
/-- a part of a datum -/
def sub : PyData → List Nat → Option PyData
  | x, [] => some x
  | .tuple xs, i :: r => (match xs[i]? with
    | some y => sub y r
    | none => none)
  | _, _ :: _ => none
def repl : PyData → List Nat → PyData → Option PyData
  | _, [], y => some y
  | .tuple xs, i :: r, y => (match xs[i]? with
    | some x => (match repl x r y with
      | some z => some (.tuple (xs.set i z))
      | none => none)
    | none => none)
  | _, _ :: _, _ => none
theorem sub_cons {xs : List PyData} {i : Nat} {r : List Nat} : sub (.tuple xs) (i :: r) = (match xs[i]? with
    | some y => sub y r
    | none => none) := rfl
theorem sub_bad {x : PyData} {i : Nat} {r : List Nat} {y : PyData} (h : sub x (i :: r) = some y) : ∃ xs z, x = .tuple xs ∧ xs[i]? = some z ∧ sub z r = some y := by
  cases x with
  | tuple xs =>
    rw [sub_cons] at h
    cases e : xs[i]? with
    | none => rw [e] at h; cases h
    | some z => rw [e] at h; exact ⟨xs, z, rfl, e, h⟩
  | _ => simp [sub] at h
theorem sub_app : ∀ {x y : PyData} {l m : List Nat}, sub x l = some y → sub x (l ++ m) = sub y m
  | x, y, [], m, h => by
    have : x = y := Option.some.inj h
    rw [this]
    rfl
  | x, y, i :: r, m, h => by
    obtain ⟨xs, z, rfl, e, h⟩ := sub_bad h
    show sub (.tuple xs) (i :: (r ++ m)) = _
    rw [sub_cons, e]
    exact sub_app h
theorem repl_of {y : PyData} : ∀ {x p : PyData} {l : List Nat}, sub x l = some p → ∃ z, repl x l y = some z ∧ sub z l = some y ∧ ∀ w, repl z l w = repl x l w
  | x, p, [], h => ⟨y, rfl, rfl, fun w => rfl⟩
  | .tuple xs, p, i :: r, h => by
    unfold sub at h
    cases e : xs[i]? with
    | none => rw [e] at h; cases h
    | some x =>
      rw [e] at h
      obtain ⟨z, h1, h2, h3⟩ := repl_of (y := y) h
      have lt := (List.getElem?_eq_some_iff.mp e).1
      have eg : (xs.set i z)[i]? = some z := List.getElem?_set_self lt
      refine ⟨.tuple (xs.set i z), ?_, ?_, fun w => ?_⟩
      · unfold repl
        rw [e]
        dsimp only
        rw [h1]
      · unfold sub
        rw [eg]
        exact h2
      · unfold repl
        rw [eg, e]
        dsimp only
        rw [h3 w]
        cases repl x r w with
        | none => rfl
        | some v =>
          dsimp only
          rw [List.set_set]
  | .none, _, _ :: _, h => by simp [sub] at h
  | .bool _, _, _ :: _, h => by simp [sub] at h
  | .int _, _, _ :: _, h => by simp [sub] at h
  | .str _, _, _ :: _, h => by simp [sub] at h
  | .list _, _, _ :: _, h => by simp [sub] at h
  | .dict _, _, _ :: _, h => by simp [sub] at h
theorem repl_self : ∀ {x p : PyData} {l : List Nat}, sub x l = some p → repl x l p = some x
  | x, p, [], h => by
    have := Option.some.inj h
    subst this
    rfl
  | .tuple xs, p, i :: r, h => by
    unfold sub at h
    unfold repl
    cases e : xs[i]? with
    | none => rw [e] at h; cases h
    | some x =>
      rw [e] at h
      dsimp only
      rw [repl_self h]
      dsimp only
      have lt := (List.getElem?_eq_some_iff.mp e).1
      have : xs.set i x = xs := by
        have := (List.getElem?_eq_some_iff.mp e).2
        rw [← this, List.set_getElem_self]
      rw [this]
  | .none, _, _ :: _, h => by simp [sub] at h
  | .bool _, _, _ :: _, h => by simp [sub] at h
  | .int _, _, _ :: _, h => by simp [sub] at h
  | .str _, _, _ :: _, h => by simp [sub] at h
  | .list _, _, _ :: _, h => by simp [sub] at h
  | .dict _, _, _ :: _, h => by simp [sub] at h
theorem cutD_take (xs : List PyData) (k : Nat) : cutD xs none (some (k : Int)) = xs.take k := by
  unfold cutD
  have e : HT.sIx xs.length xs.length (some (k : Int)) = min k xs.length := HT.sIx_nat xs.length xs.length k
  rw [e]
  show (xs.drop 0).take (min k xs.length - 0) = xs.take k
  rw [List.drop_zero, Nat.sub_zero, List.take_eq_take_iff]
  omega
theorem cutD_drop (xs : List PyData) (k : Nat) : cutD xs (some (k : Int)) none = xs.drop k := by
  unfold cutD
  have e : HT.sIx xs.length 0 (some (k : Int)) = min k xs.length := HT.sIx_nat xs.length 0 k
  rw [e]
  show (xs.drop (min k xs.length)).take (xs.length - min k xs.length) = xs.drop k
  by_cases h : k ≤ xs.length
  · rw [Nat.min_eq_left h, List.take_of_length_le (by rw [List.length_drop]; exact Nat.le_refl _)]
  · rw [Nat.min_eq_right (by omega), List.drop_eq_nil_of_le (Nat.le_refl _), List.drop_eq_nil_of_le (by omega)]
    simp
theorem cutD_mid (xs : List PyData) (i j : Nat) : cutD xs (some (i : Int)) (some (j : Int)) = (xs.drop i).take (j - i) := by
  unfold cutD
  have e1 : HT.sIx xs.length 0 (some (i : Int)) = min i xs.length := HT.sIx_nat xs.length 0 i
  have e2 : HT.sIx xs.length xs.length (some (j : Int)) = min j xs.length := HT.sIx_nat xs.length xs.length j
  rw [e1, e2]
  by_cases h : i ≤ xs.length
  · rw [Nat.min_eq_left h, List.take_eq_take_iff, List.length_drop]
    omega
  · have e3 : min i xs.length = xs.length := Nat.min_eq_right (by omega)
    rw [e3, List.drop_eq_nil_of_le (Nat.le_refl _), List.drop_eq_nil_of_le (i := i) (by omega)]
    simp
theorem at0 {α : Type} {x : α} {xs : List α} : atI (x :: xs) 0 = some x := atI_nat (j := 0) rfl
theorem ixT0 {x : PyData} {xs : List PyData} {k : PyData → Prop} (h : k x) : oIxD (.tuple (x :: xs)) (.int 0) k := by
  show (match atI (x :: xs) 0 with
    | some z => k z
    | none => False)
  rw [at0]
  exact h
theorem ixL0 {x : PyData} {xs : List PyData} {k : PyData → Prop} (h : k x) : oIxD (.list (x :: xs)) (.int 0) k := by
  show (match atI (x :: xs) 0 with
    | some z => k z
    | none => False)
  rw [at0]
  exact h
theorem dgetS {kvs : List (PyData × PyData)} {t : Str} {d : PyData} {k : PyData → Prop} (e : dlook kvs t = some d) (h : k d) : oDGet (.dict kvs) (.str t) k := by
  show (match dlook kvs t with
    | some d => k d
    | none => False)
  rw [e]
  exact h
def intsD (l : List Nat) : List PyData := l.map fun (i : Nat) => .int (i : Int)
end FW
end

/-! W11 -/
section
set_option autoImplicit false
namespace FW
open PySem PySem.Spec PyProof.Rows L2 FA
/-! d[k] = v -/
def isKey (k : Str) (kv : PyData × PyData) : Bool := match kv.1 with
  | .str z => decide (z = k)
  | _ => false
def putD (kvs : List (PyData × PyData)) (k : Str) (v : PyData) : List (PyData × PyData) :=
  if kvs.any (isKey k) = true then kvs.map (fun kv => if isKey k kv = true then (kv.1, v) else kv) else kvs ++ [(.str k, v)]
theorem dlook_any {k : Str} : ∀ {kvs : List (PyData × PyData)}, kvs.any (isKey k) = (dlook kvs k).isSome
  | [] => rfl
  | (x, d) :: r => by
    rw [List.any_cons, dlook_any (kvs := r)]
    cases x with
    | str z =>
      show (decide (z = k) || _) = (if z = k then some d else dlook r k).isSome
      by_cases h : z = k
      · rw [if_pos h, decide_eq_true h]; rfl
      · rw [if_neg h, decide_eq_false h]; rfl
    | _ => rfl
theorem dlook_map {k t : Str} {v : PyData} : ∀ {kvs : List (PyData × PyData)}, dlook (kvs.map (fun kv => if isKey k kv = true then (kv.1, v) else kv)) t = if t = k then (dlook kvs t).map (fun _ => v) else dlook kvs t
  | [] => by
    show none = _
    split <;> rfl
  | (x, d) :: r => by
    rw [List.map_cons]
    have ih := dlook_map (k := k) (t := t) (v := v) (kvs := r)
    cases x with
    | str z =>
      by_cases h : z = k
      · subst h
        rw [if_pos (show isKey z (.str z, d) = true from decide_eq_true rfl)]
        show (if z = t then some v else dlook (r.map _) t) = if t = z then (if z = t then some d else dlook r t).map (fun _ => v) else (if z = t then some d else dlook r t)
        by_cases q : z = t
        · subst q; rw [if_pos rfl, if_pos rfl, if_pos rfl]; rfl
        · rw [if_neg q, if_neg (fun e => q e.symm), if_neg q, ih, if_neg (fun e => q e.symm)]
      · rw [if_neg (show ¬ isKey k (.str z, d) = true by show ¬ decide (z = k) = true; simpa using h)]
        show (if z = t then some d else dlook (r.map _) t) = if t = k then (if z = t then some d else dlook r t).map (fun _ => v) else (if z = t then some d else dlook r t)
        by_cases q : z = t
        · subst q; rw [if_pos rfl, if_neg h, if_pos rfl]
        · rw [if_neg q, if_neg q, ih]
    | _ => exact ih
theorem dlook_app {k t : Str} {v : PyData} : ∀ {kvs : List (PyData × PyData)}, dlook (kvs ++ [(.str k, v)]) t = (dlook kvs t).or (if k = t then some v else none)
  | [] => rfl
  | (x, d) :: r => by
    have ih := dlook_app (k := k) (t := t) (v := v) (kvs := r)
    cases x with
    | str z =>
      show (if z = t then some d else dlook (r ++ _) t) = (if z = t then some d else dlook r t).or _
      by_cases q : z = t
      · rw [if_pos q, if_pos q]; rfl
      · rw [if_neg q, if_neg q, ih]
    | _ => exact ih
theorem dlook_put_self {kvs : List (PyData × PyData)} {k : Str} {v : PyData} : dlook (putD kvs k v) k = some v := by
  unfold putD
  split
  · rename_i h
    rw [dlook_map, if_pos rfl]
    rw [dlook_any] at h
    cases e : dlook kvs k with
    | none => rw [e] at h; cases h
    | some d => rfl
  · rename_i h
    rw [dlook_app, if_pos rfl]
    rw [dlook_any] at h
    cases e : dlook kvs k with
    | none => rfl
    | some d => rw [e] at h; exact absurd rfl h
theorem dlook_put_ne {kvs : List (PyData × PyData)} {k t : Str} {v : PyData} (h : t ≠ k) : dlook (putD kvs k v) t = dlook kvs t := by
  unfold putD
  split
  · rw [dlook_map, if_neg h]
  · rw [dlook_app, if_neg (fun e => h e.symm)]
    cases dlook kvs t <;> rfl
theorem putD_len {kvs : List (PyData × PyData)} {k : Str} {v : PyData} : (putD kvs k v).length ≤ kvs.length + 1 := by
  unfold putD
  split
  · rw [List.length_map]; omega
  · rw [List.length_append]; exact Nat.le_refl _
section
variable {K : PySem.W.Frag}
theorem isKey_of {k : Str} {c : Key} {d : PyData} : isKey k (keyD c, d) = decide (c = Sum.inr k) := by
  cases c with
  | inl i => exact (decide_eq_false (fun e => nomatch e)).symm
  | inr z =>
    show decide (z = k) = _
    by_cases h : z = k
    · subst h; rw [decide_eq_true rfl, decide_eq_true rfl]
    · rw [decide_eq_false h, decide_eq_false (fun e => h (Sum.inr.inj e))]
theorem DaKv.anyK {H : Hp} {k : Str} : ∀ {kvs : List (PyData × PyData)} {es : List (Key × V)}, DaKv K H kvs es → (es.any fun kv => decide (kv.1 = Sum.inr k)) = kvs.any (isKey k)
  | [], es, h => by
    have : es = [] := by simpa only [DaKv] using h
    subst this
    rfl
  | (x, d) :: r, es, h => by
    simp only [DaKv] at h
    obtain ⟨c, y, ys, rfl, rfl, h1, h2⟩ := h
    rw [List.any_cons, List.any_cons, h2.anyK, isKey_of]
theorem DaKv.mapK {H : Hp} {k : Str} {v : PyData} {u : V} (hv : Da K H v u) : ∀ {kvs : List (PyData × PyData)} {es : List (Key × V)}, DaKv K H kvs es → DaKv K H (kvs.map (fun kv => if isKey k kv = true then (kv.1, v) else kv)) (es.map fun kv => if kv.1 = Sum.inr k then (kv.1, u) else kv)
  | [], es, h => by
    have : es = [] := by simpa only [DaKv] using h
    subst this
    simp only [List.map_nil, DaKv]
  | (x, d) :: r, es, h => by
    simp only [DaKv] at h
    obtain ⟨c, y, ys, rfl, rfl, h1, h2⟩ := h
    rw [List.map_cons, List.map_cons, isKey_of]
    have ih := h2.mapK (k := k) hv
    by_cases e : c = Sum.inr k
    · rw [if_pos (decide_eq_true e), if_pos e]
      simp only [DaKv]
      exact ⟨_, _, _, rfl, rfl, hv, ih⟩
    · rw [if_neg (by simpa using e), if_neg e]
      simp only [DaKv]
      exact ⟨_, _, _, rfl, rfl, h1, ih⟩
theorem DaKv.snocK {H : Hp} {k : Str} {v : PyData} {u : V} (hv : Da K H v u) : ∀ {kvs : List (PyData × PyData)} {es : List (Key × V)}, DaKv K H kvs es → DaKv K H (kvs ++ [(.str k, v)]) (es ++ [(Sum.inr k, u)])
  | [], es, h => by
    have : es = [] := by simpa only [DaKv] using h
    subst this
    simp only [List.nil_append, DaKv]
    exact ⟨_, _, _, rfl, rfl, hv, rfl⟩
  | (x, d) :: r, es, h => by
    simp only [DaKv] at h
    obtain ⟨c, y, ys, rfl, rfl, h1, h2⟩ := h
    simp only [List.cons_append, DaKv]
    exact ⟨_, _, _, rfl, rfl, h1, h2.snocK hv⟩
theorem DaKv.put {H : Hp} {k : Str} {v : PyData} {u : V} {kvs : List (PyData × PyData)} {es : List (Key × V)} (h : DaKv K H kvs es) (hv : Da K H v u) : DaKv K H (putD kvs k v) (putK es (Sum.inr k) u) := by
  unfold putD putK
  rw [h.anyK (k := k)]
  split
  · exact h.mapK hv
  · exact h.snocK hv
theorem DaKv.len {H : Hp} : ∀ {kvs : List (PyData × PyData)} {es : List (Key × V)}, DaKv K H kvs es → es.length = kvs.length
  | [], es, h => by
    have : es = [] := by simpa only [DaKv] using h
    subst this
    rfl
  | (x, d) :: r, es, h => by
    simp only [DaKv] at h
    obtain ⟨c, y, ys, rfl, rfl, h1, h2⟩ := h
    rw [List.length_cons, List.length_cons, h2.len]
end
/-! {'tables': t, 'columns': {}}, and a column list for each table -/
def wGo (a : ET) (e : E) (it iw : Nat) (P : Addr) (post : Env → List (PyData × PyData) → S → Prop) : List PyData → List (PyData × PyData) → Env → S → Prop
  | [], acc, env, s => env[iw]? = some (some (.adr P)) ∧ post env acc s
  | x :: xs, acc, env, s => a env x fun env1 => e env1 s fun y s1 => env1[iw]? = some (some (.adr P)) ∧ acc.length ≤ 1000 ∧ (match env1[it]? with
    | some (some (.dat (.str z))) => wGo a e it iw P post xs (putD acc z y) env1 s1
    | _ => False)
def sWorld (iw is it : Nat) (src : EA) (a : ET) (e : E) : ES := fun env s post => match env[is]? with
  | some (some (.dat x1)) => ∀ P, src (env.set iw (some (.adr P))) s fun xs s1 => wGo a e it iw P (fun env2 kvs s2 => post (.nxt (env2.set iw (some (.dat (.dict [(.str "tables", x1), (.str "columns", .dict kvs)]))))) s2) xs [] (env.set iw (some (.adr P))) s1
  | _ => False
theorem set_same {α : Type} {l : List α} {i : Nat} {x : α} (h : l[i]? = some x) : l.set i x = l := by
  apply List.ext_getElem?
  intro k
  by_cases z : k = i
  · subst z
    rw [List.getElem?_set_self (List.getElem?_eq_some_iff.mp h).1, h]
  · rw [List.getElem?_set_ne (fun e => z e.symm)]
section
variable {K : PySem.W.Frag}
theorem ss_world {iw is it : Nat} {wi : TI} {g : TG} {te : TE} {src : EA} {a : ET} {e : E} {t : TS} {f : ES} (hi : SI K wi src) (hg : SG K g a) (he : SE K te e) (hr : SS K t f) :
    SS K (tSeq (tAsg (tDisp [(tC (.str "tables"), tVar is), (tC (.str "columns"), tDNewK)]) (gName iw)) (tSeq (tFor wi g (sDPut (tDGet (tVar iw) (tC (.str "columns"))) (tVar it) te)) t)) (sSeq (sWorld iw is it src a e) f) := by
  intro C σ H env s as F R post Dn p k
  unfold sSeq sWorld at p
  split at p
  case h_2 => exact p.elim
  rename_i x1 e1
  obtain ⟨v1, σ1, d1⟩ := R.env is _ e1
  intro P hP
  obtain ⟨R1, m1⟩ := R.hide F hP (.dK [])
  obtain ⟨nP, nP0⟩ := R.fresh0 F hP
  have F1 : FrOk (C.hide P (upd H P (.dK []))) := F.hide
  refine ⟨v1, σ1, ?_⟩
  intro q hq
  obtain ⟨R2, m2⟩ := R1.hide F1 hq (.dK [])
  obtain ⟨nq, nq0⟩ := R1.fresh0 F1 hq
  have nPq : P ≠ q := ne_of_none upd_same hq
  refine ⟨(upd_ne nPq).trans upd_same, [(.inr "tables", v1), (.inr "columns", .ref q)], rfl, by show 2 ≤ 15; decide, ?_⟩
  show gName iw (.ref P) σ (upd (upd (upd H P (.dK [])) q (.dK [])) P (.dK [(.inr "tables", v1), (.inr "columns", .ref q)])) _
  -- the dict, whole
  generalize eH2 : upd (upd H P (.dK [])) q (.dK []) = H2 at R2 m2
  have nd : C.dk = true → C.d ≠ P ∧ C.c ≠ P := fun e => ⟨fun z => nP (by rw [← z]; exact List.mem_append_left _ (F.sub _ (F.dk e).1)), fun z => nP (by rw [← z]; exact List.mem_append_left _ (F.sub _ (F.dk e).2))⟩
  have nS : P ∉ C.S0 := fun z => nP (List.mem_append_left _ z)
  have nFr : P ∉ C.fr := fun z => nS (F.sub _ z)
  have nqS : q ∉ (C.hide P (upd H P (.dK []))).S0 := fun z => nq (List.mem_append_left _ z)
  have nqFr : q ∉ C.fr := fun z => nqS (F1.sub _ z)
  have nqS0 : q ∉ C.S0 := fun z => nqS (List.mem_cons_of_mem _ z)
  have F2 : ∀ Hk, FrOk (((C.hide P (upd H P (.dK []))).hide q Hk)) := fun Hk => F1.hide
  obtain ⟨R3, m3⟩ := R2.move (s' := s) (H' := upd H2 P (.dK [(.inr "tables", v1), (.inr "columns", .ref q)])) (upd H2 P (.dK [(.inr "tables", v1), (.inr "columns", .ref q)])) [P]
    (fun b hb => by rw [List.mem_singleton.mp hb]; exact List.mem_append_left _ (List.mem_cons_of_mem _ List.mem_cons_self))
    (fun b hb => .inr (by rw [List.mem_singleton.mp hb]; exact nP0)) (by rw [hs_upd (by simp)]; exact Same.refl _)
    (fun b hb => by rw [List.mem_singleton.mp hb, upd_same]; simp) (fun _ _ _ => rfl)
    (fun e => (R2.deck e).1.upd (nd e).1.symm (nd e).2.symm) rfl
    (fun j b r eb er => by
      by_cases l : r.live = true
      · refine .inl ⟨fun z => nP ?_, er⟩
        rw [← List.mem_singleton.mp z]
        exact List.mem_append_right _ (lives_get eb er l)
      · exact .inr (.inl ⟨by simpa using l, er⟩))
  have eP3 : upd H2 P (.dK [(.inr "tables", v1), (.inr "columns", .ref q)]) P = some (.dK [(.inr "tables", v1), (.inr "columns", .ref q)]) := upd_same
  have eq3 : upd H2 P (.dK [(.inr "tables", v1), (.inr "columns", .ref q)]) q = some (.dK []) := by rw [upd_ne nPq.symm, ← eH2, upd_same]
  have hk3 : ∀ a ∈ C.S0, a ∉ C.fr → upd H2 P (.dK [(.inr "tables", v1), (.inr "columns", .ref q)]) a = C.Hk a := by
    intro b hb hf
    have nb1 : b ≠ P := fun z => nS (by rw [← z]; exact hb)
    have nb2 : b ≠ q := fun z => nqS0 (by rw [← z]; exact hb)
    rw [upd_ne nb1, ← eH2, upd_ne nb2, upd_ne nb1]
    exact R.kp b hb hf
  have m13 := (m1.trans m2).trans m3
  generalize upd H2 P (.dK [(.inr "tables", v1), (.inr "columns", .ref q)]) = H3 at R3 m3 eP3 eq3 hk3 m13
  have R4 := R3.set (i := iw) (u := .adr P) (v := .ref P) rfl
  refine hi _ _ _ _ _ _ (F2 H3) R4 _ _ (p P) fun xs s1 J H4 p4 R5 m5 ok => ?_
  obtain ⟨G, Y, w, hG, hY⟩ := ok
  have keep : ∀ {Ha : Hp} {σa : L2.St} {enva : Env} {sa : S} {Hk : Hp}, Rel K ((C.hide P (upd H P (.dK []))).hide q Hk) σa Ha enva sa as → (∀ a ∈ C.S0, a ∉ C.fr → Hk a = C.Hk a) → Hk P = some (.dK [(.inr "tables", v1), (.inr "columns", .ref q)]) →
      (∀ a ∈ C.S0, a ∉ C.fr → Ha a = C.Hk a) ∧ Ha P = some (.dK [(.inr "tables", v1), (.inr "columns", .ref q)]) ∧ Ha q = Hk q := fun {_ _ _ _ _} r h1 h2 =>
    ⟨fun b hb hf => (r.kp b (List.mem_cons_of_mem _ (List.mem_cons_of_mem _ hb)) hf).trans (h1 b hb hf), (r.kp P (List.mem_cons_of_mem _ List.mem_cons_self) nFr).trans h2, r.kp q List.mem_cons_self nqFr⟩
  have k4 := keep R5 hk3 eP3
  have R5 := R5.rebase
  refine for_it w (fun i σ' H' => ∃ env' s' acc es, wGo a e it iw P (fun env2 kvs s2 => f (env2.set iw (some (.dat (.dict [(.str "tables", x1), (.str "columns", .dict kvs)])))) s2 post) (xs.drop i) acc env' s' ∧
      Rel K ((C.hide P (upd H P (.dK []))).hide q H') σ' H' env' s' as ∧ (∀ a ∈ C.S0, a ∉ C.fr → H' a = C.Hk a) ∧ H' P = some (.dK [(.inr "tables", v1), (.inr "columns", .ref q)]) ∧ H' q = some (.dK es) ∧
      Same (hs (q :: P :: cur C s1.rs as) H4) (hs (q :: P :: cur C s'.rs as) H') ∧ DaKv K (hs (q :: P :: cur C s'.rs as) H') acc es)
    ⟨_, s1, [], [], by rw [List.drop_zero]; exact p4, R5, k4.1, k4.2.1, k4.2.2.trans eq3, Same.refl _, by simp only [DaKv]⟩ (fun i σ' H' _ ⟨_, _, _, _, _, _, _, _, _, m, _⟩ => hG _ _ m) ?_ ?_
  · rintro i v σ6 H6 H7 hlt ⟨env6, s6, acc, es, p6, R6, k6, eP6, eq6, m6, d6⟩ y
    obtain ⟨m7, x, ex, dx⟩ := hY (q :: P :: cur C s6.rs as) H6 i v H7 m6 R6.alloc hlt y
    obtain ⟨R7, m8⟩ := R6.same m7
    have ed : xs.drop i = x :: xs.drop (i + 1) := by
      obtain ⟨h1, h2⟩ := List.getElem?_eq_some_iff.mp ex
      rw [← h2]
      exact List.drop_eq_getElem_cons h1
    rw [ed] at p6
    obtain ⟨k7, eP7, eq7⟩ := keep R7 k6 eP6
    have R7 := R7.rebase
    refine hg _ σ6 H7 env6 s6 as R7 x v _ _ dx p6 fun env8 σ8 p8 R8 => ?_
    refine he _ σ8 H7 env8 s6 as (F2 H7) R8 _ _ p8 fun y9 s9 u9 H9 p9 R9 m9 d9 => ?_
    obtain ⟨k9, eP9, eq9⟩ := keep R9 k7 eP7
    have eq9 := eq9.trans (eq7.trans eq6)
    obtain ⟨pw, pl, pt⟩ := p9
    split at pt
    case h_2 => exact pt.elim
    rename_i z ez
    obtain ⟨vw, w1, w2⟩ := R9.env iw _ pw
    obtain ⟨vt, t1, t2⟩ := R9.env it _ ez
    have w2 : vw = .ref P := w2
    have t2 : vt = .str z := (da_str (K := K) (H := hs (cur (((C.hide P (upd H P (.dK []))).hide q H7)) s9.rs as) H9)).mp t2
    subst w2 t2
    have d9' : DaKv K (hs (q :: P :: cur C s9.rs as) H9) acc es := (d6.same m8).same m9
    have hl := d9'.len
    refine ⟨_, w1, P, .ref q, rfl, ?_, _, t1, q, _, rfl, DPut.k (k := Sum.inr z) eq9 (by rw [sizeLine_eq]; omega), ?_⟩
    · exact DGet.k (k := Sum.inr "columns") eP9
    · obtain ⟨R10, m10⟩ := R9.grow F1 (R9.nD F1 nqS) nq0 (.dK (putK es (Sum.inr z) u9))
      refine ⟨env8, s9, putD acc z y9, _, pt, R10, ?_, by rw [upd_ne nPq]; exact eP9, upd_same, ((m6.trans m8).trans m9).trans m10, (d9'.put d9).same m10⟩
      intro b hb hf
      rw [upd_ne (fun z => nqS0 (by rw [← z]; exact hb))]
      exact k9 b hb hf
  · rintro σ6 H6 ⟨env6, s6, acc, es, p6, R6, k6, eP6, eq6, m6, d6⟩
    rw [List.drop_length] at p6
    obtain ⟨pw, p6⟩ := p6
    obtain ⟨vw, w1, w2⟩ := R6.env iw _ pw
    have w2 : vw = .ref P := w2
    subst w2
    obtain ⟨R7, m7⟩ := Rel.show (C := C.hide P H6) (D := q) R6 F.hide (R6.nD F1 nqS) (fun _ _ _ => rfl)
    have nP7 := R7.nD F nS
    obtain ⟨R8, m8⟩ := Rel.show (C := C) (D := P) R7 F nP7 k6
    have vall := m7.trans m8
    have all : Same (hs (cur C s.rs as) H) (hs (cur C s6.rs as) H6) := (m13.trans m5).trans (m6.trans vall)
    have dd : Da K (hs (cur C s6.rs as) H6) (.dict [(.str "tables", x1), (.str "columns", .dict acc)]) (.ref P) := by
      have nqc : q ∉ cur C s6.rs as := fun z => R6.nD F1 nqS (List.mem_cons_of_mem _ z)
      refine da_dict.mpr ⟨P, _, rfl, by rw [hs_ne nP7]; exact eP6, ?_⟩
      simp only [DaKv]
      exact ⟨_, _, _, rfl, rfl, Da.same all d1, _, _, _, rfl, rfl, da_dict.mpr ⟨q, es, rfl, by rw [hs_ne nqc]; exact eq6, d6.same vall⟩, rfl⟩
    have R9 := R8.set (i := iw) (u := .dat (.dict [(.str "tables", x1), (.str "columns", .dict acc)])) (v := .ref P) dd
    rw [set_same w1] at R9
    exact hr C σ6 H6 _ s6 as F R9 post Dn p6 fun o s2 σ2 H2 env2 ex2 x v p2 R2 m2 => k o s2 σ2 H2 env2 ex2 x v p2 R2 (all.trans m2)
end
end FW
end

/-! W12 -/
section
set_option autoImplicit false
namespace FW
open PySem PySem.Spec PyProof.Rows L2 FA
/-- the arguments by their names -/
def fCallK (F : Fn) (g : List PyData → List PyData) (e : EA) : E := fun env s post => e env s fun xs s1 => F (g xs) [] 0 fun r _ _ => post r s1
def swapK : ∀ {α : Type}, List α → List α := fun l => l.reverse
theorem DaAll.rev {K : PySem.W.Frag} {H : Hp} : ∀ {ds : List PyData} {vs : List V}, DaAll K H ds vs → DaAll K H ds.reverse vs.reverse
  | [], _, h => by rw [h.nil_eq]; exact da_nil
  | d :: ds, _, h => by
    obtain ⟨v, r, rfl, h1, h2⟩ := h.uncons
    rw [List.reverse_cons, List.reverse_cons]
    exact h2.rev.app (da_cons h1 da_nil)
theorem argsR_dats {K : PySem.W.Frag} {W : Hp} {d a : Addr} : ∀ {xs : List PyData} {vs : List V}, DaAll K W xs vs → ArgsR K W d a (List.replicate xs.length PK.dat) vs xs
  | [], _, h => ⟨h.nil_eq, rfl⟩
  | x :: xs, _, h => by
    obtain ⟨v, r, rfl, h1, h2⟩ := h.uncons
    exact ⟨v, r, x, xs, rfl, rfl, h1, argsR_dats h2⟩
theorem se_ck0 {K : PySem.W.Frag} {n : Nat} {lay : List PK} {F : Fn} {ta : TA} {e : EA} {gv : List V → List V} {gx : List PyData → List PyData} (h : SA K n ta e) (hl : lay = List.replicate n PK.dat) (hn : ∀ xs, (gx xs).length = xs.length)
    (hg : ∀ {W : Hp} {xs : List PyData} {vs : List V}, DaAll K W xs vs → DaAll K W (gx xs) (gv vs)) : SE K (tKw n (spW K false false lay F) gv E0 ta) (fCallK F gx e) := by
  intro C σ H env s as f R post Q p k
  refine h C σ H env s as f R _ _ p fun xs s1 vs H1 p1 R1 m1 d1 l => ⟨by rw [d1.len, l], ?_⟩
  refine ⟨cur C s1.rs as, C.d, C.c, 0, 0, gx xs, [], _, ?_, R1.alloc, (fun z => nomatch z), (fun z => nomatch z), p1, fun r v H2 ys' n' p2 m2 _ _ d2 => ?_⟩
  · have := argsR_dats (d := C.d) (a := 0) (hg d1)
    rw [hn, l] at this
    rw [hl]
    exact this
  · have m2' : Same H1 H2 := by
      have : flist false false C.d C.c 0 = [] := rfl
      rw [this, hs_nil, hs_nil] at m2
      exact m2
    obtain ⟨R2, m3⟩ := R1.same m2'
    exact k r s1 v H2 p2 R2 (m1.trans m3) d2
theorem se_swap {K : PySem.W.Frag} {n : Nat} {lay : List PK} {F : Fn} {ta : TA} {e : EA} (h : SA K n ta e) (hl : lay = List.replicate n PK.dat := by rfl) : SE K (tKw n (spW K false false lay F) swapK E0 ta) (fCallK F swapK e) :=
  se_ck0 h hl (fun xs => List.length_reverse) fun d => d.rev
theorem se_inplace {K : PySem.W.Frag} {n : Nat} {lay : List PK} {F : Fn} {ta : TA} {e : EA} (h : SA K n ta e) (hl : lay = List.replicate n PK.dat := by rfl) : SE K (tKw n (spW K false false lay F) (fun l => l) E0 ta) (fCallK F (fun l => l) e) :=
  se_ck0 h hl (fun xs => rfl) fun d => d
/-- what follows the deck, of a law -/
theorem rest_run {K : PySem.W.Frag} {t : TS} {f : ES} {H : Hp} {d c : Addr} {σ : L2.St} {env : FW.Env} {Q : VK} {X : L2.St → Hp → Prop} {B1 B2 : L2.St → Hp → Prop} {post : Out → S → Prop} (hb : SS K t f) (D : Deck H d c 0) (hl : σ.length = env.length)
    (he : ∀ (i : Nat) (u : U), env[i]? = some (some u) → u = U.deck ∧ σ[i]? = some (some (V.ref d))) (p : f env ⟨0, []⟩ post) (hp : ∀ o s', post o s' → o = .ret (.bool true)) (q : ∀ H', Q (.bl true) H') :
    t { nx := X, bk := B1, ct := B2, rt := Q } σ H := by
  obtain ⟨t0, n0, cs, e1, e2, _⟩ := D.is
  let C : Fr := ⟨[d, c], [d, c], d, c, true, H, H⟩
  have F : FrOk C := ⟨fun a h => h, fun _ => ⟨by simp [C], by simp [C]⟩⟩
  have R : Rel K C σ H env ⟨0, []⟩ [] := by
    refine ⟨Same.refl _, ?_, fun _ _ _ => rfl, fun _ => ⟨D, by simp [C], by simp [C], by simp [C], by simp [C]⟩, rfl, ?_, ?_, ?_, ?_⟩
    · intro a ha
      have : a = d ∨ a = c := by simpa [cur, C, lives] using ha
      rcases this with z | z <;> rw [z]
      · rw [e1]; simp
      · rw [e2]; simp
    · intro j a r h; simp at h
    · intro j a r h; simp at h
    · exact hl
    · intro i u e
      obtain ⟨rfl, h⟩ := he i u e
      exact ⟨_, h, rfl, rfl⟩
  refine hb C σ H env _ [] F R post _ p fun o s' σ' H' env' ex x v p1 R1 m1 => ?_
  have := hp o s' p1
  subst this
  refine ⟨fun e => (nomatch e), fun e => (nomatch e), fun e => (nomatch e), fun e d1 => ?_⟩
  cases e
  have : v = .bl true := da_bool.mp d1
  subst this
  exact q H'
end FW
namespace FW
open PySem PySem.Spec PyProof.Rows L2 FA
theorem env_deck {d : Addr} {m : Nat} {σ : L2.St} (h : σ[1]? = some (some (V.ref d))) : ∀ (i : Nat) (u : U), (([none, some U.deck] : FW.Env) ++ List.replicate m none)[i]? = some (some u) → u = U.deck ∧ σ[i]? = some (some (V.ref d))
  | 0, u, e => by cases Option.some.inj e
  | 1, u, e => by
    have : U.deck = u := Option.some.inj (Option.some.inj e)
    exact ⟨this.symm, h⟩
  | i + 2, u, e => by
    have : (List.replicate m (none : Option U))[i]? = some (some u) := e
    rw [List.getElem?_replicate] at this
    split at this <;> cases this
end FW
namespace FW
open PySem PySem.Spec PyProof.Rows L2 FA
theorem fnG_none {P : Program} {w : World} {K : PySem.W.Frag} {mg : Str → Option Value} {base : Heap} {CX : CXT} {k : Nat} {f : Addr} {fd : FuncData} {ps : List Str} {dk rg : Bool} {lay : List PK} : FnG P w K mg base CX k f fd ps (spW K dk rg lay fun _ _ _ _ => False) :=
  ⟨fun _ _ _ _ ⟨_, _, _, _, _, _, _, _, _, _, _, _, p, _⟩ => p.elim, fun _ _ _ _ _ _ _ _ _ _ _ _ _ _ ⟨_, _, _, _, _, _, _, _, _, _, _, _, p, _⟩ => p.elim⟩
theorem rel_swapK {zs : List V} {ws : List Value} (h : Vals zs ws) : Vals (swapK zs) (swapK ws) := by
  induction h with
  | nil => exact .nil
  | cons r _ ih =>
    show Vals (List.reverse (_ :: _)) (List.reverse (_ :: _))
    rw [List.reverse_cons, List.reverse_cons]
    exact Vals.append ih (.cons r .nil)
end FW
end

/-! W13 -/
section
set_option autoImplicit false
namespace FW
open PySem PySem.Spec PyProof.Rows L2 FA
/-! what the top of the text writes: tuples of values, tables with text keys -/
mutual
def datB (K : PySem.W.Frag) : PyData → Value → Bool
  | .none, .none => true
  | .bool b, .bool c => b == c
  | .int i, .int j _ => decide (i = j)
  | .str x, .str y _ => decide (x = y)
  | .tuple ds, .ref a => match K.lookup a with
    | some ⟨.type c, _, .seq its _, _⟩ => decide (c = "tuple") && (decide (its.size ≤ 1000000) && datAllB K ds its.toList)
    | _ => false
  | _, _ => false
def datAllB (K : PySem.W.Frag) : List PyData → List Value → Bool
  | [], [] => true
  | d :: ds, v :: vs => datB K d v && datAllB K ds vs
  | _, _ => false
end
mutual
theorem datB_ok {K : PySem.W.Frag} : ∀ {d : PyData} {u : Value}, datB K d u = true → ∃ v : V, RelV v u ∧ ∀ H, Da K H d v
  | .none, u, h => by cases u <;> first | exact ⟨.non, rfl, fun H => da_none.mpr rfl⟩ | cases h
  | .bool b, u, h => by
    cases u with
    | bool c =>
      have : b = c := beq_iff_eq.mp h
      subst this
      exact ⟨.bl b, rfl, fun H => da_bool.mpr rfl⟩
    | _ => cases h
  | .int i, u, h => by
    cases u with
    | int j t =>
      have : i = j := of_decide_eq_true h
      subst this
      exact ⟨.int i, ⟨t, rfl⟩, fun H => da_int.mpr rfl⟩
    | _ => cases h
  | .str x, u, h => by
    cases u with
    | str y t =>
      have : x = y := of_decide_eq_true h
      subst this
      exact ⟨.str x, ⟨t, rfl⟩, fun H => da_str.mpr rfl⟩
    | _ => cases h
  | .list ds, u, h => by cases u <;> cases h
  | .dict kvs, u, h => by cases u <;> cases h
  | .tuple ds, u, h => by
    cases u with
    | ref a =>
      have h : (match K.lookup a with
        | some ⟨.type c, _, .seq its _, _⟩ => decide (c = "tuple") && (decide (its.size ≤ 1000000) && datAllB K ds its.toList)
        | _ => false) = true := by
        unfold datB at h
        exact h
      cases q : K.lookup a with
      | none => rw [q] at h; cases h
      | some o =>
        obtain ⟨oc, od, dt, osl⟩ := o
        rw [q] at h
        cases oc with
        | type c =>
          cases dt with
          | seq its n =>
            have h : (decide (c = "tuple") && (decide (its.size ≤ 1000000) && datAllB K ds its.toList)) = true := h
            rw [Bool.and_eq_true, Bool.and_eq_true] at h
            obtain ⟨h1, h2, h3⟩ := h
            have e : c = "tuple" := of_decide_eq_true h1
            have z : its.size ≤ 1000000 := of_decide_eq_true h2
            obtain ⟨vs, r, d⟩ := datAllB_ok h3
            subst e
            exact ⟨.ref a, rfl, fun H => da_tuple.mpr ⟨a, vs, rfl, .inr ⟨_, its, n, q, rfl, rfl, by rw [sizeLine_eq]; omega, r⟩, d H⟩⟩
          | _ => cases h
        | _ => cases dt <;> cases h
    | _ => cases h
theorem datAllB_ok {K : PySem.W.Frag} : ∀ {ds : List PyData} {us : List Value}, datAllB K ds us = true → ∃ vs : List V, Vals vs us ∧ ∀ H, DaAll K H ds vs
  | [], us, h => by
    cases us with
    | nil => exact ⟨[], .nil, fun H => da_nil⟩
    | cons u us => cases h
  | d :: ds, us, h => by
    cases us with
    | nil => cases h
    | cons u us =>
      have h : (datB K d u && datAllB K ds us) = true := by
        unfold datAllB at h
        exact h
      rw [Bool.and_eq_true] at h
      obtain ⟨v, r, q⟩ := datB_ok h.1
      obtain ⟨vs, rs, qs⟩ := datAllB_ok h.2
      exact ⟨v :: vs, .cons r rs, fun H => da_cons (q H) (qs H)⟩
end
/-- a constant of the top -/
structure Gd (K : PySem.W.Frag) (mg : Str → Option Value) (x : Str) (d : PyData) : Prop where
  ex : ∃ (u : Value) (v : V), mg x = some u ∧ RelV v u ∧ ∀ H, Da K H d v
def gdB (K : PySem.W.Frag) (x : Str) (d : PyData) : Bool := match PySem.W.nsIn K mainGlobals x with
  | some (some u) => datB K d u
  | _ => false
theorem gdB_ok {K : PySem.W.Frag} {h : Heap} {mg : Str → Option Value} (X : K.In h) (G : h.Ns mainGlobals mg) {x : Str} {d : PyData} (c : gdB K x d = true) : Gd K mg x d := by
  unfold gdB at c
  cases e : PySem.W.nsIn K mainGlobals x with
  | none => rw [e] at c; cases c
  | some o =>
    rw [e] at c
    cases o with
    | none => cases c
    | some u =>
      obtain ⟨v, r, q⟩ := datB_ok (show datB K d u = true from c)
      exact ⟨u, v, PySem.W.mg_of X G e, r, q⟩
/-- a table of the top -/
structure Gt (K : PySem.W.Frag) (w : World) (mg : Str → Option Value) (x : Str) (kvs : List (Str × PyData)) : Prop where
  ex : ∃ (a : Addr) (es : Array DictEntry) (n : Nat), mg x = some (.ref a) ∧ KDict K w a es n ∧ ∀ q ∈ kvs, ∃ (u : Value) (v : V), PySem.W.nsIn K a q.1 = some (some u) ∧ RelV v u ∧ ∀ H, Da K H q.2 v
def gtB (K : PySem.W.Frag) (x : Str) (kvs : List (Str × PyData)) : Bool := kvs.all fun q => match PySem.W.nsIn K (He.ga K x) q.1 with
  | some (some u) => datB K q.2 u
  | _ => false
theorem gtB_ok {K : PySem.W.Frag} {w : World} {h : Heap} {mg : Str → Option Value} {x : Str} {kvs : List (Str × PyData)} {es : Array DictEntry} {n : Nat} (g : mg x = some (.ref (He.ga K x))) (D : KDict K w (He.ga K x) es n) (c : gtB K x kvs = true) : Gt K w mg x kvs := by
  refine ⟨He.ga K x, es, n, g, D, fun q hq => ?_⟩
  have h2 := List.all_eq_true.mp c q hq
  cases e : PySem.W.nsIn K (He.ga K x) q.1 with
  | none => rw [e] at h2; cases h2
  | some o =>
    rw [e] at h2
    cases o with
    | none => cases h2
    | some u =>
      obtain ⟨v, r, p⟩ := datB_ok (show datB K q.2 u = true from h2)
      exact ⟨u, v, rfl, r, p⟩
def tGd (K : PySem.W.Frag) (d : PyData) : TE := fun _ H Q => ∀ v, (∀ H, Da K H d v) → Q v H
def tGt (K : PySem.W.Frag) (kvs : List (Str × PyData)) (ti : TE) : TE := fun σ H Q => ti σ H fun y H1 => ∃ q ∈ kvs, y = .str q.1 ∧ ∀ v, (∀ H, Da K H q.2 v) → Q v H1
section
variable {X : Cx} {x : Str} {p pos : Pos} {i : Expr} {ti : TE} {d : PyData} {kvs : List (Str × PyData)}
theorem pe_gd (K : PySem.W.Frag) (hK : X.K = K) {mg : Str → Option Value} (g : Gd K mg x d) (hm : X.mg = mg := by rfl) (hg : Gl X x := by rfl) (hd : (x == ("__debug__" : Str)) = false := by decide) : PE X (.Name x p) (tGd K d) := by
  subst hK hm
  obtain ⟨u, v, h1, h2, h3⟩ := g.ex
  exact ⟨fun pins s σ H Q I h => (pe_glob hg h1 h2 hd).run pins s σ H Q I (h v h3)⟩
theorem pe_gt (K : PySem.W.Frag) (hK : X.K = K) {w : World} {mg : Str → Option Value} (g : Gt K w mg x kvs) (hi : PE X i ti) (hs : NoSl i) (hw : X.w = w := by rfl) (hm : X.mg = mg := by rfl) (hg : Gl X x := by rfl) (hd : (x == ("__debug__" : Str)) = false := by decide) :
    PE X (.Subscript (.Name x p) i pos) (tGt K kvs ti) := by
  subst hK hm hw
  obtain ⟨a, es, n, h1, D, h3⟩ := g.ex
  refine ⟨fun pins s σ H Q I h => ?_⟩
  refine subD_of PySem.F.slot_dict_getitem.lookup hs (thn ((pe_glob (v := .ref a) hg h1 rfl hd).run pins s σ H (fun v H' => v = .ref a ∧ H' = H) I ⟨rfl, rfl⟩) fun u s1 ⟨z, H1, I1, rx, ez, eH⟩ => ?_)
  subst ez eH
  refine thn (hi.run pins s1 σ _ _ I1 h) fun iv s2 ⟨y, H2, I2, ry, q, hq, ey, k⟩ => ?_
  obtain ⟨u0, v0, e0, r0, d0⟩ := h3 q hq
  cases rx
  exact ⟨kd_type D I2, op_item_kd D pins s2 σ H2 (.ref a) y (.ref a) iv Q I2 rfl ry ⟨q.1, u0, v0, rfl, ey, e0, r0, k v0 d0⟩⟩
end
/-- the value at a key of a table of the top -/
def tlook : List (Str × PyData) → Str → Option PyData
  | [], _ => none
  | (z, d) :: r, k => if z = k then some d else tlook r k
theorem tlook_mem {k : Str} {d : PyData} : ∀ {kvs : List (Str × PyData)}, tlook kvs k = some d → (k, d) ∈ kvs
  | [], h => by cases h
  | (z, e) :: r, h => by
    unfold tlook at h
    split at h
    · rename_i q
      subst q
      cases h
      exact List.mem_cons_self
    · exact List.mem_cons_of_mem _ (tlook_mem h)
def fGt (kvs : List (Str × PyData)) (a : E) : E := fun env s post => a env s fun x s1 => match x with
  | .str z => (match tlook kvs z with
    | some d => post d s1
    | none => False)
  | _ => False
/-- x.extend(e) -/
def sExt (i : Nat) (e : E) : ES := fun env s post => match env[i]? with
  | some (some (.reg j)) => (match s.rs[j]? with
    | some ⟨true, _, _⟩ => e env s fun y s' => (match s'.rs[j]?, y with
      | some ⟨true, o, xs⟩, .list ys => xs.length + ys.length ≤ 1000000 ∧ post (.nxt env) ⟨s'.n, s'.rs.set j ⟨true, o, xs ++ ys⟩⟩
      | _, _ => False)
    | _ => False)
  | _ => False
section
variable {K : PySem.W.Frag}
theorem se_gd {d : PyData} : SE K (tGd K d) (fC d) := fun C σ H env s as _ R post Q p k v hv => k _ _ _ _ p R (Same.refl _) (hv _)
theorem se_gt {kvs : List (Str × PyData)} {ti : TE} {a : E} (h : SE K ti a) : SE K (tGt K kvs ti) (fGt kvs a) := by
  intro C σ H env s as f R post Q p k
  refine h C σ H env s as f R _ _ p fun x s1 v H1 p1 R1 m1 d1 => ?_
  cases x with
  | str z =>
    have e : v = .str z := da_str.mp d1
    have p1 : (match tlook kvs z with
      | some d => post d s1
      | none => False) := p1
    cases q : tlook kvs z with
    | none => rw [q] at p1; exact p1.elim
    | some d =>
      rw [q] at p1
      exact ⟨(z, d), tlook_mem q, e, fun v hv => k _ _ _ _ p1 R1 m1 (hv _)⟩
  | _ => exact p1.elim
theorem ss_ext {i : Nat} {te : TE} {e : E} (h : SE K te e) : SS K (tDrop (tBM K "list" rExtend (tVar i) (tCons te tNil))) (sExt i e) := by
  intro C σ H env s as F R post Dn p k
  unfold sExt at p
  split at p
  · rename_i j ei
    split at p
    · rename_i o0 xs0 er0
      obtain ⟨a, vs0, ea, es, e0, _⟩ := live_at R ei er0
      refine ⟨.ref a, es, .inl ⟨rfl, vs0, SqL.of e0⟩, h C σ H env s as F R _ _ p fun y s' w H' p1 R1 m1 d1 => ?_⟩
      split at p1
      · rename_i y' o xs ys er
        obtain ⟨a', vs, ea', es', e1, hd⟩ := live_at R1 ei er
        rw [ea] at ea'
        have := Option.some.inj ea'
        subst this
        obtain ⟨b, zs, rfl, eb, hz⟩ := da_list.mp d1
        have hl := hd.len
        have hl2 := hz.len
        refine ⟨a, b, vs, zs, rfl, rfl, e1, (hs_some eb).2, by rw [sizeLine_eq]; omega, ?_⟩
        obtain ⟨R2, m2⟩ := R1.chg F ea er (hd.app hz)
        exact (k _ _ σ _ env [] .none .non p1.2 (by simpa using R2) (by simpa using m1.trans m2)).1 rfl
      · exact p1.elim
    · exact p.elim
  · exact p.elim
end
/-- the head's facts, its tables, the table of modules, and one test more -/
def hookU (n : Nat) (fa : List He.Fa) (fn : List He.DefD) (ts : List He.Tab) (B : PySem.W.Frag → Bool) : PySem.W.Hook where
  α := He.AlT × Bool × Bool
  obs := fun s => (He.obsTG n fa fn ts s.heap.get?, sysB s.heap.get?, B (He.frG s.heap.get? (He.asD s.heap.get? n)))
  val := fun w => (He.valT fn ts w, true, true)
  says := fun w h => (∃ K, K.In h ∧ He.SaysT fa fn ts w K ∧ B K = true) ∧ ∃ o es m, h.get? sysModules = some o ∧ o.data = Data.dict es m
  of := fun _ s e => ⟨⟨_, He.frG_in, congrArg Prod.fst e, congrArg (fun p => p.2.2) e⟩, sysB_ok (congrArg (fun p => p.2.1) e)⟩
  keeps := fun _ h h' z k => ⟨let ⟨K, i, s, b⟩ := z.1; ⟨K, i.keeps k, s, b⟩, let ⟨o, es, m, e, d⟩ := z.2; ⟨o, es, m, k _ _ e, d⟩⟩
end FW
end

/-! K21a -/
section
set_option autoImplicit false
open PySem PySem.Spec PyProof.Rows L2 FA FW
namespace K21
def top (i : Nat) : Stmt := PySem.Challenge.pw_failsalike_k21_places_and_main_parts.main.body.getD i (.Pass ⟨0, 0, 0, 0⟩)
abbrev FnP (K : PySem.W.Frag) (x : Str) (i : Nat) (f : Addr) (fd : FuncData) : Prop := FunD K x x (defArgs (top i)) (defBody (top i)) (defScope (top i)) [] [] f fd
def dat_BOTH : PyData := .tuple [.str "and", .str "or"]
def tab_STEPS : List (Str × PyData) := [("column", .tuple []), ("value", .tuple []), ("plus", .tuple [.tuple [.int 1]]), ("only", .tuple [.tuple [.int 1, .int 1], .tuple [.int 2]]), ("first", .tuple [.tuple [.int 1, .int 1], .tuple [.int 2]]), ("less", .tuple [.tuple [.int 1], .tuple [.int 2]]), ("most", .tuple [.tuple [.int 1], .tuple [.int 2]]), ("same", .tuple [.tuple [.int 1], .tuple [.int 2]]), ("is", .tuple [.tuple [.int 1]]), ("exists", .tuple [.tuple [.int 1, .int 1]]), ("not", .tuple [.tuple [.int 1]]), ("and", .tuple [.tuple [.int 1], .tuple [.int 2]]), ("or", .tuple [.tuple [.int 1], .tuple [.int 2]])]
section
variable {P : Program} {w : World} {K : PySem.W.Frag} {mg : Str → Option Value} {base : Heap} {f : Addr} {fd : FuncData}
def lay_at_place : List PK := [.dat, .dat]
def fn_at_place : Fn := fnOf false lay_at_place 1 (sSeq (sFor (iTupD (fVar 1)) (aName 2) (sAsg (fOp oIxD (fVar 0) (fVar 2)) (aName 0))) (sRet (fVar 0)))
theorem sc_at_place : FnScope ["part", "place", "step"] ["part", "place"] (defScope (top 3)) := ⟨rfl, rfl, rfl, by decide +kernel, rfl, by decide +kernel, by decide +kernel⟩
theorem ok_at_place (F : FnP K "at_place" 3 f fd) (hS : ∃ o, base.get? sysModules = some o)   :
    FnG P w K mg base CX0 1 f fd ["part", "place"] (spW K false false lay_at_place (fn_at_place)) := by
  refine okD F sc_at_place hS (fun vs H Q E h => spW_size vs H Q E h) (fun cdv A outer s H vs Q E R h => ?_)
  have nd := sc_at_place.nd
  refine ⟨_, (pss_cons (ps_for PassesOwn.never rfl (pi_tupW K rfl (pv 1)) (pg_name (i := 2) nd rfl (Or.inl rfl)) (pss_one (ps_set (i := 0) nd rfl (Or.inl rfl) (pe_ix (ixAnyW K rfl) (pv 0) (pv 2) (fun _ _ => rfl))))) (pss_one (ps_ret (pv 0)))), ?r⟩
  case r => exact fn_run (ss_seq (ss_for (si_tup (se_var (i := 1))) (sg_name (i := 2)) (ss_asg (se_op os_ix (se_var (i := 0)) (se_var (i := 2))) sg_name)) (ss_ret (se_var (i := 0)))) rfl (by decide) (by decide) h
def lay_parts_of : List PK := [.dat]
def fnb_parts_of (fn_at_place : Fn) (fn_parts_of : Fn) : Fn := fnOf false lay_parts_of 2 (sSeq (sNew 1 (fCons (fVar 0) fNil)) (sSeq (sFor (iTupD (fGt tab_STEPS (fOp oIxD (fVar 0) (fC (.int 0))))) (aName 2) (sExt 1 (fCall0 fn_parts_of (fCons (fCall0 fn_at_place (fCons (fVar 0) (fCons (fVar 2) fNil))) fNil)))) (sRet (fFrz 1))))
def fn_parts_of (fn_at_place : Fn) : Nat → Fn
  | 0 => fun _ _ _ _ => False
  | n + 1 => fnb_parts_of fn_at_place (fn_parts_of fn_at_place n)
theorem sc_parts_of : FnScope ["part", "found", "step"] ["part"] (defScope (top 4)) := ⟨rfl, rfl, rfl, by decide +kernel, rfl, by decide +kernel, by decide +kernel⟩
theorem ok_parts_of {fn_at_place fn_parts_of : Fn} (l : Nat) (hl : 1 ≤ l) (F : FnP K "parts_of" 4 f fd) (hS : ∃ o, base.get? sysModules = some o)  (d_STEPS : Gt K w mg "STEPS" tab_STEPS) (c_at_place : Cal P w K mg base 1 "at_place" ["part", "place"] (spW K false false lay_at_place fn_at_place)) (c_parts_of : Cal P w K mg base l "parts_of" ["part"] (spW K false false lay_parts_of fn_parts_of)) :
    FnG P w K mg base CX0 (l + 1) f fd ["part"] (spW K false false lay_parts_of (fnb_parts_of fn_at_place fn_parts_of)) := by
  refine okD F sc_parts_of hS (fun vs H Q E h => spW_size vs H Q E h) (fun cdv A outer s H vs Q E R h => ?_)
  have nd := sc_parts_of.nd
  refine ⟨_, (pss_cons (ps_set (i := 1) nd rfl (Or.inl rfl) (pe_lst (pa_cons (pv 0) pa_nil))) (pss_cons (ps_for PassesOwn.never rfl (pi_tupW K rfl (pe_gt K rfl d_STEPS (pe_ix (ixAnyW K rfl) (pv 0) pe_int (fun _ _ => rfl)) (fun _ _ => rfl))) (pg_name (i := 2) nd rfl (Or.inl rfl)) (pss_one (ps_expr (pe_bmW K rfl PySem.F.plainAttrs_list PySem.F.slot_list_extend PySem.F.type_list_extend mt_extend (pv 1) (pa_cons (cc c_parts_of R (pa_cons (cc c_at_place R (pa_cons (pv 0) (pa_cons (pv 2) pa_nil))) pa_nil)) pa_nil))))) (pss_one (ps_ret (pv 1))))), ?r⟩
  case r => exact fn_run (ss_seq (ss_new (sl_lst (sa_cons (se_var (i := 0)) sa_nil))) (ss_seq (ss_for (si_tup (se_gt (se_op os_ix (se_var (i := 0)) se_int))) (sg_name (i := 2)) (ss_ext (i := 1) (se_call0 (ir := 0) (sal_dat (se_call0 (ir := 0) (sal_dat (se_var (i := 0)) (sal_dat (se_var (i := 2)) sal_nil))) sal_nil)))) (ss_ret (se_frz (i := 1))))) rfl (by decide) (by decide) h
def lay_leaves_of : List PK := [.dat, .dat]
def fnb_leaves_of (fn_leaves_of : Fn) : Fn := fnOf false lay_leaves_of 0 (sSeq (sIf (fTest (fOp oEqD (fOp oIxD (fVar 0) (fC (.int 0))) (fC (.str "not")))) (sRet (fCall0 fn_leaves_of (fCons (fOp oIxD (fVar 0) (fC (.int 1))) (fCons (fOp oAddD (fVar 1) (fTup (fCons (fC (.int 1)) fNil))) fNil)))) sNext) (sSeq (sIf (fTest (fOp (oInD false) (fOp oIxD (fVar 0) (fC (.int 0))) (fC dat_BOTH))) (sRet (fOp oAddD (fCall0 fn_leaves_of (fCons (fOp oIxD (fVar 0) (fC (.int 1))) (fCons (fOp oAddD (fVar 1) (fTup (fCons (fC (.int 1)) fNil))) fNil))) (fCall0 fn_leaves_of (fCons (fOp oIxD (fVar 0) (fC (.int 2))) (fCons (fOp oAddD (fVar 1) (fTup (fCons (fC (.int 2)) fNil))) fNil))))) sNext) (sRet (fLst (fCons (fVar 1) fNil)))))
def fn_leaves_of : Nat → Fn
  | 0 => fun _ _ _ _ => False
  | n + 1 => fnb_leaves_of (fn_leaves_of n)
theorem sc_leaves_of : FnScope ["condition", "place"] ["condition", "place"] (defScope (top 5)) := ⟨rfl, rfl, rfl, by decide +kernel, rfl, by decide +kernel, by decide +kernel⟩
theorem ok_leaves_of {fn_leaves_of : Fn} (l : Nat) (hl : 0 ≤ l) (F : FnP K "leaves_of" 5 f fd) (hS : ∃ o, base.get? sysModules = some o)  (d_BOTH : Gd K mg "BOTH" dat_BOTH)  (c_leaves_of : Cal P w K mg base l "leaves_of" ["condition", "place"] (spW K false false lay_leaves_of fn_leaves_of)) :
    FnG P w K mg base CX0 (l + 1) f fd ["condition", "place"] (spW K false false lay_leaves_of (fnb_leaves_of fn_leaves_of)) := by
  refine okD F sc_leaves_of hS (fun vs H Q E h => spW_size vs H Q E h) (fun cdv A outer s H vs Q E R h => ?_)
  have nd := sc_leaves_of.nd
  refine ⟨_, (pss_cons (ps_if (pt_cmpR op_eq (pe_ix (ixAnyW K rfl) (pv 0) pe_int (fun _ _ => rfl)) pe_str (by rfl)) (pss_one (ps_ret (cc c_leaves_of R (pa_cons (pe_ix (ixAnyW K rfl) (pv 0) pe_int (fun _ _ => rfl)) (pa_cons (pe_op (opAddW K rfl) (pv 1) (pe_tup (pa_cons pe_int pa_nil))) pa_nil))))) pss_nil) (pss_cons (ps_if (pt_cmpR (oprK (r := fun K => rIn K false) K rfl op_in_seq) (pe_ix (ixAnyW K rfl) (pv 0) pe_int (fun _ _ => rfl)) (pe_gd K rfl d_BOTH) (by rfl)) (pss_one (ps_ret (pe_op (opAddW K rfl) (cc c_leaves_of R (pa_cons (pe_ix (ixAnyW K rfl) (pv 0) pe_int (fun _ _ => rfl)) (pa_cons (pe_op (opAddW K rfl) (pv 1) (pe_tup (pa_cons pe_int pa_nil))) pa_nil))) (cc c_leaves_of R (pa_cons (pe_ix (ixAnyW K rfl) (pv 0) pe_int (fun _ _ => rfl)) (pa_cons (pe_op (opAddW K rfl) (pv 1) (pe_tup (pa_cons pe_int pa_nil))) pa_nil)))))) pss_nil) (pss_one (ps_ret (pe_lst (pa_cons (pv 1) pa_nil)))))), ?r⟩
  case r => exact fn_run (ss_seq (ss_if (st_test (se_op os_eq (se_op os_ix (se_var (i := 0)) se_int) se_str)) (ss_ret (se_call0 (ir := 0) (sal_dat (se_op os_ix (se_var (i := 0)) se_int) (sal_dat (se_op os_add (se_var (i := 1)) (se_tup (sa_cons se_int sa_nil))) sal_nil)))) ss_next) (ss_seq (ss_if (st_test (se_op (os_in false) (se_op os_ix (se_var (i := 0)) se_int) se_gd)) (ss_ret (se_op os_add (se_call0 (ir := 0) (sal_dat (se_op os_ix (se_var (i := 0)) se_int) (sal_dat (se_op os_add (se_var (i := 1)) (se_tup (sa_cons se_int sa_nil))) sal_nil))) (se_call0 (ir := 0) (sal_dat (se_op os_ix (se_var (i := 0)) se_int) (sal_dat (se_op os_add (se_var (i := 1)) (se_tup (sa_cons se_int sa_nil))) sal_nil))))) ss_next) (ss_ret (se_lst (sa_cons (se_var (i := 1)) sa_nil))))) rfl (by decide) (by decide) h
def lay_part_at : List PK := [.dat, .dat]
def fn_part_at (fn_at_place : Fn) : Fn := fnOf false lay_part_at 0 (sRet (fCall0 fn_at_place (fCons (fVar 0) (fCons (fVar 1) fNil))))
theorem sc_part_at : FnScope ["question", "place"] ["question", "place"] (defScope (top 7)) := ⟨rfl, rfl, rfl, by decide +kernel, rfl, by decide +kernel, by decide +kernel⟩
theorem ok_part_at {fn_at_place : Fn} (F : FnP K "part_at" 7 f fd) (hS : ∃ o, base.get? sysModules = some o)  (c_at_place : Cal P w K mg base 1 "at_place" ["part", "place"] (spW K false false lay_at_place fn_at_place)) :
    FnG P w K mg base CX0 2 f fd ["question", "place"] (spW K false false lay_part_at (fn_part_at fn_at_place)) := by
  refine okD F sc_part_at hS (fun vs H Q E h => spW_size vs H Q E h) (fun cdv A outer s H vs Q E R h => ?_)
  have nd := sc_part_at.nd
  refine ⟨_, (pss_one (ps_ret (cc c_at_place R (pa_cons (pv 0) (pa_cons (pv 1) pa_nil))))), ?r⟩
  case r => exact fn_run (ss_ret (se_call0 (ir := 0) (sal_dat (se_var (i := 0)) (sal_dat (se_var (i := 1)) sal_nil)))) rfl (by decide) (by decide) h
def lay_main_parts : List PK := [.dat]
def fn_main_parts (fn_leaves_of : Fn) : Fn := fnOf false lay_main_parts 2 (sSeq (sAsg (fIf (fTest (fOp oIsN (fOp oIxD (fVar 0) (fC (.int 1))) (fC .none))) (fLst fNil) (fCall0 fn_leaves_of (fCons (fOp oIxD (fVar 0) (fC (.int 1))) (fCons (fTup (fCons (fC (.int 1)) fNil)) fNil)))) (aName 1)) (sRet (fUn oTupD (fOp oAddD (fVar 1) (fLst (fLc (iRange1 (fCons (fCb oLenD (fCons (fOp oIxD (fVar 0) (fC (.int 2))) fNil)) fNil)) (aName 2) bYes (fTup (fCons (fC (.int 2)) (fCons (fVar 2) fNil))) [2]))))))
theorem sc_main_parts : FnScope ["question", "leaves", "at"] ["question"] (defScope (top 8)) := ⟨rfl, rfl, rfl, by decide +kernel, rfl, by decide +kernel, by decide +kernel⟩
theorem ok_main_parts {fn_leaves_of : Fn} (F : FnP K "main_parts" 8 f fd) (hS : ∃ o, base.get? sysModules = some o) (m_len : mg "len" = none) (m_tuple : mg "tuple" = none) (m_range : mg "range" = none) (c_leaves_of : Cal P w K mg base 20 "leaves_of" ["condition", "place"] (spW K false false lay_leaves_of fn_leaves_of)) :
    FnG P w K mg base CX0 21 f fd ["question"] (spW K false false lay_main_parts (fn_main_parts fn_leaves_of)) := by
  refine okD F sc_main_parts hS (fun vs H Q E h => spW_size vs H Q E h) (fun cdv A outer s H vs Q E R h => ?_)
  have nd := sc_main_parts.nd
  refine ⟨_, (pss_cons (ps_set (i := 1) nd rfl (Or.inl rfl) (pe_ifExp (pt_cmpR op_isN (pe_ix (ixAnyW K rfl) (pv 0) pe_int (fun _ _ => rfl)) pe_non (by rfl)) (pe_lst pa_nil) (cc c_leaves_of R (pa_cons (pe_ix (ixAnyW K rfl) (pv 0) pe_int (fun _ _ => rfl)) (pa_cons (pe_tup (pa_cons pe_int pa_nil)) pa_nil))))) (pss_one (ps_ret (pe_tupW K rfl rfl m_tuple (pe_op (opAddW K rfl) (pv 1) (pe_lc (own := [("at", 2)]) rfl nd (pi_range1 rfl m_range (pa_cons (pe_callB (calK (r := rLenA) K rfl call_lenA) rfl m_len bt_len (pa_cons (pe_ix (ixAnyW K rfl) (pv 0) pe_int (fun _ _ => rfl)) pa_nil)) pa_nil)) (blkOk_by (by kernel_rfl)) (fun _ _ _ _ _ => (pg_name (i := 2) nd rfl (Or.inl rfl))) (fun _ _ _ _ _ => pts_nil) (fun _ _ _ _ _ => (pe_tup (pa_cons pe_int (pa_cons (pv 2) pa_nil)))))))))), ?r⟩
  case r => exact fn_run (ss_seq (ss_asg (se_if (st_test (se_op os_isN (se_op os_ix (se_var (i := 0)) se_int) se_non)) (se_lst sa_nil) (se_call0 (ir := 0) (sal_dat (se_op os_ix (se_var (i := 0)) se_int) (sal_dat (se_tup (sa_cons se_int sa_nil)) sal_nil)))) sg_name) (ss_ret (se_then us_tup (se_op os_add (se_var (i := 1)) (SL.se (sl_lc (vs := [2]) (si_range1 (sa_cons (se_cb cs_len (sa_cons (se_op os_ix (se_var (i := 0)) se_int) sa_nil)) sa_nil)) (sg_name (i := 2)) (gin_name (by decide)) st_yes (se_tup (sa_cons se_int (sa_cons (se_var (i := 2)) sa_nil))))))))) rfl (by decide) (by decide) h
def lay_named : List PK := [.dat, .dat]
def fn_named (fn_parts_of fn_part_at : Fn) : Fn := fnOf false lay_named 5 (sSeq (sAsg (fCall0 fn_parts_of (fCons (fCall0 fn_part_at (fCons (fVar 0) (fCons (fVar 1) fNil))) fNil)) (aName 2)) (sSeq (sAsg (fLst (fLc (iListD (fVar 2)) (aName 4) (fTest (fOp oEqD (fOp oIxD (fVar 4) (fC (.int 0))) (fC (.str "column")))) (fOp oIxD (fVar 4) (fC (.int 1))) [4])) (aName 3)) (sRet (fUn oTupD (fCb oSortD (fCons (fLst (fLc (iTupD (fOp oIxD (fVar 0) (fC (.int 0)))) (aTup [(aName 5), (aName 6)]) (fTest (fOp (oInD false) (fVar 5) (fVar 3))) (fVar 5) [5, 6])) fNil))))))
theorem sc_named : FnScope ["question", "place", "parts", "columns", "part", "alias", "_"] ["question", "place"] (defScope (top 9)) := ⟨rfl, rfl, rfl, by decide +kernel, rfl, by decide +kernel, by decide +kernel⟩
theorem ok_named {fn_parts_of fn_part_at : Fn} (F : FnP K "named" 9 f fd) (hS : ∃ o, base.get? sysModules = some o) (m_tuple : mg "tuple" = none) (m_sorted : mg "sorted" = none) (c_parts_of : Cal P w K mg base 21 "parts_of" ["part"] (spW K false false lay_parts_of fn_parts_of)) (c_part_at : Cal P w K mg base 2 "part_at" ["question", "place"] (spW K false false lay_part_at fn_part_at)) :
    FnG P w K mg base CX0 22 f fd ["question", "place"] (spW K false false lay_named (fn_named fn_parts_of fn_part_at)) := by
  refine okD F sc_named hS (fun vs H Q E h => spW_size vs H Q E h) (fun cdv A outer s H vs Q E R h => ?_)
  have nd := sc_named.nd
  refine ⟨_, (pss_cons (ps_set (i := 2) nd rfl (Or.inl rfl) (cc c_parts_of R (pa_cons (cc c_part_at R (pa_cons (pv 0) (pa_cons (pv 1) pa_nil))) pa_nil))) (pss_cons (ps_set (i := 3) nd rfl (Or.inr rfl) (pe_lc (own := [("part", 4)]) rfl nd (pi_listW K rfl (pv 2)) (blkOk_by (by kernel_rfl)) (fun _ _ _ _ _ => (pg_name (i := 4) nd rfl (Or.inl rfl))) (fun _ _ _ _ _ => (pts_one (pt_cmpR op_eq (pe_ix (ixAnyW K rfl) (pv 4) pe_int (fun _ _ => rfl)) pe_str (by rfl)))) (fun _ _ _ _ _ => (pe_ix (ixAnyW K rfl) (pv 4) pe_int (fun _ _ => rfl))))) (pss_one (ps_ret (pe_tupW K rfl rfl m_tuple (pe_callB (cr_sortW K rfl R.room) rfl m_sorted bt_sorted (pa_cons (pe_lc (own := [("alias", 5), ("_", 6)]) rfl nd (pi_tupW K rfl (pe_ix (ixAnyW K rfl) (pv 0) pe_int (fun _ _ => rfl))) (blkOk_by (by kernel_rfl)) (fun _ _ _ _ _ => (pg_tupW (n := 2) K rfl rfl (pgs_cons (pg_name (i := 5) nd rfl (Or.inl rfl)) (pgs_cons (pg_name (i := 6) nd rfl (Or.inl rfl)) pgs_nil)))) (fun _ _ _ _ _ => (pts_one (pt_cmpR (oprK (r := fun K => rIn K false) K rfl op_in_seq) (pv 5) (pv 3) (by rfl)))) (fun _ _ _ _ _ => (pv 5))) pa_nil))))))), ?r⟩
  case r => exact fn_run (ss_seq (ss_asg (se_call0 (ir := 0) (sal_dat (se_call0 (ir := 0) (sal_dat (se_var (i := 0)) (sal_dat (se_var (i := 1)) sal_nil))) sal_nil)) sg_name) (ss_seq (ss_asg (SL.se (sl_lc (vs := [4]) (si_list (se_var (i := 2))) (sg_name (i := 4)) (gin_name (by decide)) (st_test (se_op os_eq (se_op os_ix (se_var (i := 4)) se_int) se_str)) (se_op os_ix (se_var (i := 4)) se_int))) sg_name) (ss_ret (se_then us_tup (se_cb cs_sort (sa_cons (SL.se (sl_lc (vs := [5, 6]) (si_tup (se_op os_ix (se_var (i := 0)) se_int)) (sg_tup rfl (sgs_cons (sg_name (i := 5)) (sgs_cons (sg_name (i := 6)) sgs_nil))) (gin_tup (gsin_name (by decide) (gsin_name (by decide) gsin_nil))) (st_test (se_op (os_in false) (se_var (i := 5)) (se_var (i := 3)))) (se_var (i := 5)))) sa_nil)))))) rfl (by decide) (by decide) h
end
end K21
end

/-! K21b -/
section
open PySem PySem.Spec PyProof.Rows L2 FA
namespace K21
section
variable {P : Program} {w : World} {K : PySem.W.Frag} {mg : Str → Option Value} {base : Heap} {f : Addr} {fd : FuncData}
def spDeck (K : PySem.W.Frag) : Sp := fun vs H Q _ => ∃ (a : Addr) (ns : List Int), vs = [.ref a] ∧ SqL K H a (ns.map V.int) ∧ ns.length ≤ 63 ∧
  ∀ d c H', H d = none → H c = none → Deck H' d c 0 → Same H H' → Q (.ref d) H'
theorem cut_ints (ns : List Int) (lo hi : Option Int) : ∃ cs : List Int, cutV (ns.map V.int) lo hi = cs.map V.int ∧ cs.length ≤ ns.length := by
  unfold cutV
  refine ⟨(ns.drop (HT.sIx (ns.map V.int).length 0 lo)).take (HT.sIx (ns.map V.int).length (ns.map V.int).length hi - HT.sIx (ns.map V.int).length 0 lo), ?_, ?_⟩
  · rw [List.map_take, List.map_drop]
  · rw [List.length_take, List.length_drop]
    omega
theorem sc__law_deck : FnScope ["_law_script", "_law_cells", "_law_total", "_law_cell"] ["_law_script"] (defScope (top 11)) := ⟨rfl, rfl, rfl, by decide +kernel, rfl, by decide +kernel, by decide +kernel⟩
theorem ok__law_deck (F : FnP K "_law_deck" 11 f fd) (hS : ∃ o, base.get? sysModules = some o) (B : Blt mg) :
    FnG P w K mg base CX0 1 f fd ["_law_script"] (spDeck K) := by
  refine okD F sc__law_deck hS (fun vs H Q E h => ?_) (fun cdv A outer s H vs Q E R h => ?_)
  · obtain ⟨a, ns, rfl, _⟩ := h
    rfl
  obtain ⟨a, ns, rfl, hS, hl, q⟩ := h
  obtain ⟨m_isinstance, m_len, m_all, m_abs, m_repr, m_str, m_int, m_bool, m_list, m_tuple, m_range⟩ := B
  have nd := sc__law_deck.nd
  refine ⟨_, (pss_cons (ps_par (i := 1) (j := 2) rfl nd rfl rfl (by decide) rfl rfl (pa_cons (pe_callTy call_list_of rfl m_list bt_list (pa_cons (pe_slice slAny (pv 0) po_none (po_some pe_int)) pa_nil)) (pa_cons pe_int pa_nil)) rfl) (pss_cons (ps_for PassesOwn.never rfl (pi_list (pv 1)) (pg_name (i := 3) nd rfl (Or.inl rfl)) (pss_one (ps_set (i := 2) nd rfl (Or.inl rfl) (pe_op op_mod (pe_op opAdd (pe_op opAdd (pe_op opMul (pv 2) pe_int) (pe_op op_mod (pv 3) pe_int)) pe_int) pe_int)))) (pss_one (ps_ret (pe_disp (pps_cons pe_str (pe_revL (pv 1)) (pps_cons pe_str (pv 2) (pps_cons pe_str pe_int pps_nil))) rfl rfl (by decide) (by decide)))))), ?r⟩
  case r =>
    refine ⟨_, rfl, _, rfl, .inl ⟨a, _, rfl, hS, fun p hp => ?_⟩⟩
    obtain ⟨cs, ecs, lcs⟩ := cut_ints ns none (some 63)
    rw [ecs]
    refine ⟨p, _, rfl, .inl (.inl (.inl upd_same)), fun l hl2 => ?_⟩
    have s1 : Same H (upd H p (.lst (cs.map V.int))) := same_new hp _
    have s2 := s1.trans (same_new hl2 (.lst (cs.map V.int)))
    have hl0 : H l = none := s1.free hl2
    refine ⟨_, _, rfl, ?_⟩
    refine ⟨_, rfl, l, rfl, ⟨_, .inl (.inl upd_same)⟩, for_list (K := K) (a := l) (xs := cs.map V.int)
      (fun i σ H' => ∃ (t : Int) (v : Option V), σ = [some (.ref a), some (.ref l), some (.int t), v] ∧ Same H H' ∧ H' l = some (.lst (cs.map V.int)))
      ⟨_, _, rfl, s2, upd_same⟩ (fun i σ H' _ ⟨_, _, _, _, e⟩ => .inl (.inl e)) ?_ ?_⟩
    · rintro i y σ H' hi ⟨t, v, rfl, s3, e3⟩
      obtain ⟨u, rfl⟩ : ∃ u, y = V.int u := by
        rw [List.getElem?_map] at hi
        cases e : cs[i]? with
        | none => rw [e] at hi; cases hi
        | some u => rw [e] at hi; exact ⟨u, (Option.some.inj hi).symm⟩
      refine ⟨_, rfl, .inl (.inl ⟨_, _, rfl, rfl, .inr ⟨by decide, by decide⟩, ?_⟩)⟩
      refine ⟨_, rfl, _, _, rfl, rfl, (by dsimp only; decide), .inl (.inl ⟨_, _, rfl, rfl, ?_⟩)⟩
      refine .inl (.inl ⟨_, _, rfl, rfl, _, _, rfl, rfl, (by dsimp only; decide), ?_⟩)
      exact ⟨_, _, rfl, s3, e3⟩
    · rintro σ H' ⟨t, v, rfl, s3, e3⟩
      intro d hd
      have nld : l ≠ d := ne_of_none e3 hd
      refine ⟨_, rfl, l, _, rfl, .inl (.inl ((upd_ne nld).trans e3)), fun c hc => ?_⟩
      have nd1 : d ≠ c := ne_of_none upd_same hc
      have s4 : Same H (upd H' d (.dK [])) := same_mut s3 (s3.free hd)
      have hc0 : H c = none := s4.free hc
      refine ⟨_, rfl, (upd_ne nd1).trans upd_same, deckKvs c t 0, rfl, by show 3 ≤ 15; decide, ?_⟩
      rw [dk_merge]
      refine q d c _ (s3.free hd) hc0 ⟨t, 0, cs.reverse, upd_same, ?_, ?_, Int.le_refl _, Int.le_refl _⟩ ?_
      · rw [upd_ne nd1.symm, upd_same, List.map_reverse]
      · rw [List.length_reverse]
        omega
      · exact same_mut (same_mut s4 hc0) (s3.free hd)
theorem sc__law_draw : FnScope ["_law_deck_here", "_law_many", "_law_turn", "_law_cell", "_law_mixed"] ["_law_deck_here", "_law_many"] (defScope (top 12)) := ⟨rfl, rfl, rfl, by decide +kernel, rfl, by decide +kernel, by decide +kernel⟩
theorem ok__law_draw (F : FnP K "_law_draw" 12 f fd) (hS : ∃ o, base.get? sysModules = some o) (B : Blt mg) :
    FnG P w K mg base CX0 1 f fd ["_law_deck_here", "_law_many"] spDraw := by
  refine okD F sc__law_draw hS (fun vs H Q E h => ?_) (fun cdv A outer s H vs Q E R h => ?_)
  · obtain ⟨d, c, n, m, rfl, _⟩ := h
    rfl
  obtain ⟨d, c, n, m, rfl, D, hn, h0, h64, q⟩ := h
  obtain ⟨m_isinstance, m_len, m_all, m_abs, m_repr, m_str, m_int, m_bool, m_list, m_tuple, m_range⟩ := B
  have nd := sc__law_draw.nd
  refine ⟨_, (pss_cons (ps_par (i := 2) (j := 3) rfl nd rfl rfl (by decide) rfl rfl (pa_cons (pe_op opAdd (pe_dget (hu_of R.room) (pv 0) pe_str (fun _ _ => rfl)) pe_int) (pa_cons (pe_dget (hu_of R.room) (pv 0) pe_str (fun _ _ => rfl)) pa_nil)) rfl) (pss_cons (ps_dput (hu_of R.room) (pv 0) pe_str (pv 2) rfl) (pss_cons (ps_if (pt_cmpR (op_neD R.room.units) (pe_dget (hu_of R.room) (pv 0) pe_str (fun _ _ => rfl)) (pe_lst pa_nil) (nomark _)) (pss_cons (ps_set (i := 3) nd rfl (Or.inl rfl) (pe_bm0 PySem.F.plainAttrs_list PySem.F.slot_list_pop PySem.F.type_list_pop mt_pop (pe_dget (hu_of R.room) (pv 0) pe_str (fun _ _ => rfl)))) (pss_cons (ps_if (pt_cmpR op_ge (pv 3) (pe_op op_pow pe_int pe_int) (nomark _)) (pss_cons (ps_expr (pe_bm PySem.F.plainAttrs_list PySem.F.slot_list_append PySem.F.type_list_append mt_append (pe_dget (hu_of R.room) (pv 0) pe_str (fun _ _ => rfl)) (pa_cons (pe_op op_fdivW (pv 3) (pv 1)) pa_nil))) (pss_one (ps_ret (pe_op op_mod (pv 3) (pv 1))))) pss_nil) (pss_one (ps_set (i := 3) nd rfl (Or.inl rfl) (pe_op opAdd (pv 3) (pe_dget (hu_of R.room) (pv 0) pe_str (fun _ _ => rfl))))))) pss_nil) (pss_cons (ps_set (i := 4) nd rfl (Or.inl rfl) (pe_op op_mod (pe_op opMul (pe_op opAdd (pe_op opAdd (pe_op op_mod (pv 3) pe_int) (pe_op opMul (pe_op opMul pe_int (pv 2)) (pv 2))) pe_int) pe_int) pe_int)) (pss_cons (ps_set (i := 4) nd rfl (Or.inl rfl) (pe_op op_mod (pe_op opAdd (pe_op opAdd (pe_op opMul (pv 4) (pv 4)) (pe_op opMul pe_int (pv 2))) pe_int) pe_int)) (pss_one (ps_ret (pe_op op_mod (pe_op op_fdivW (pe_op op_mod (pe_op opMul (pv 4) pe_int) pe_int) pe_int) (pv 1))))))))), ?r⟩
  case r =>
    obtain ⟨t, k, cs, hd, hc, hl, k0, kn⟩ := D.is
    have ndc := D.dc
    refine ⟨_, rfl, _, _, rfl, dg_draws hd, .inl (.inl ⟨_, _, rfl, rfl, ?_⟩)⟩
    refine ⟨_, rfl, _, _, rfl, dg_total hd, _, _, rfl, ?_⟩
    refine ⟨_, rfl, _, rfl, d, _, rfl, dp_draws hd, ?_⟩
    -- the deck, one draw more
    have hd1 : upd H d (.dK (deckKvs c t (k + 1))) d = some (.dK (deckKvs c t (k + 1))) := upd_same
    have hc1 : upd H d (.dK (deckKvs c t (k + 1))) c = some (.lst (cs.map V.int)) := by rw [upd_ne ndc.symm]; exact hc
    have same1 : Same (hid d c H) (hid d c (upd H d (.dK (deckKvs c t (k + 1))))) := by
      rw [hid_upd (Or.inl rfl)]
      exact Same.refl _
    generalize upd H d (.dK (deckKvs c t (k + 1))) = H1 at hd1 hc1 same1
    have k1 : k + 1 ≤ (n : Int) + 1 := by omega
    have div64 : ∀ i, CDivW i m := fun i => wide_div h0 h64 (by decide) (by decide)
    -- the last rows, whatever the cell is
    have rows : ∀ (x : Int) (H2 : Hp) (v : Option V), (∃ cs2 : List Int, H2 d = some (.dK (deckKvs c t (k + 1))) ∧ H2 c = some (.lst (cs2.map V.int)) ∧ cs2.length ≤ 63) → Same (hid d c H) (hid d c H2) →
        (tSeq (tAsg (tOp rModA (tOp rMulA (tOp rAddA (tOp rAddA (tOp rModA (tVar 3) (tC (V.int 2147483629))) (tOp rMulA (tOp rMulA (tC (V.int 60209)) (tVar 2)) (tVar 2))) (tC (V.int 53))) (tC (V.int 40692))) (tC (V.int 2147483647))) (gName 4)) (tSeq (tAsg (tOp rModA (tOp rAddA (tOp rAddA (tOp rMulA (tVar 4) (tVar 4)) (tOp rMulA (tC (V.int 69761)) (tVar 2))) (tC (V.int 37))) (tC (V.int 2147483587))) (gName 4)) (tRet (tOp rModA (tOp rDivA (tOp rModA (tOp rMulA (tVar 4) (tC (V.int 39373))) (tC (V.int 2147483563))) (tC (V.int 64))) (tVar 1))))) { nx := fun _ H' => Q .non H', rt := Q } [some (.ref d), some (.int m), some (.int (k + 1)), some (.int x), v] H2 := by
      rintro x H2 v ⟨cs2, e1, e2, e3⟩ s2
      have kb : -(2 ^ 64) < k + 1 ∧ k + 1 < 2 ^ 64 := by omega
      refine ⟨_, rfl, _, _, rfl, rfl, (by dsimp only; decide), ?_⟩
      refine ⟨_, rfl, .inl (.inl ⟨_, _, rfl, rfl, .inr kb, ?_⟩)⟩
      refine ⟨_, rfl, .inl (.inl ⟨_, _, rfl, rfl, .inr kb, ?_⟩)⟩
      refine .inl (.inl ⟨_, _, rfl, rfl, .inl (.inl ⟨_, _, rfl, rfl, .inl (.inl ⟨_, _, rfl, rfl, .inr ⟨by decide, by decide⟩, ?_⟩)⟩)⟩)
      refine ⟨_, _, rfl, rfl, (by dsimp only; decide), ?_⟩
      refine ⟨_, rfl, _, rfl, .inl (.inl ⟨_, _, rfl, rfl, .inr (emb _ (by decide) (by decide)), ?_⟩)⟩
      refine ⟨_, rfl, .inl (.inl ⟨_, _, rfl, rfl, .inr kb, ?_⟩)⟩
      refine .inl (.inl ⟨_, _, rfl, rfl, .inl (.inl ⟨_, _, rfl, rfl, _, _, rfl, rfl, (by dsimp only; decide), ?_⟩)⟩)
      refine ⟨_, rfl, .inl (.inl ⟨_, _, rfl, rfl, .inr ⟨by decide, by decide⟩, ?_⟩)⟩
      refine ⟨_, _, rfl, rfl, (by dsimp only; decide), _, _, rfl, rfl, ⟨by decide, by decide +kernel⟩, ?_⟩
      exact ⟨_, rfl, _, _, rfl, rfl, h0, q _ _ (Int.emod_nonneg _ (by omega)) (Int.emod_lt_of_pos _ h0) ⟨t, k + 1, cs2, e1, e2, e3, by omega, by omega⟩ s2⟩
    refine ⟨_, rfl, _, _, rfl, dg_cells hd1, Nat.zero_le _, fun p hp => ?_⟩
    have npd : p ≠ d := fun e => by rw [e, hd1] at hp; cases hp
    have npc : p ≠ c := fun e => by rw [e, hc1] at hp; cases hp
    have hd2 : upd H1 p (.lst []) d = some (.dK (deckKvs c t (k + 1))) := by rw [upd_ne npd.symm]; exact hd1
    have hc2 : upd H1 p (.lst []) c = some (.lst (cs.map V.int)) := by rw [upd_ne npc.symm]; exact hc1
    have same2 : Same (hid d c H) (hid d c (upd H1 p (.lst []))) := same1.trans (hid_same (same_new hp _))
    refine ⟨_, _, .lst (SqL.of hc2) (ints_dp cs), .lst (SqL.of upd_same) .nil, ints_shaped cs, rfl, _, rfl, ?_⟩
    generalize upd H1 p (.lst []) = H2 at hd2 hc2 same2
    refine ite2 (fun ce => ?_) (fun ce => rows _ _ _ ⟨cs, hd2, hc2, hl⟩ same2)
    have ne : cs ≠ [] := by
      rintro rfl
      exact absurd ce (by decide)
    have hlast : (cs.map V.int)[(cs.map V.int).length - 1]? = some (.int (cs.getLast ne)) := by
      rw [List.length_map, List.getElem?_map, List.getLast_eq_getElem]
      rw [List.getElem?_eq_getElem]
      rfl
    refine ⟨_, rfl, _, _, rfl, dg_cells hd2, .inl ⟨rfl, _, SqL.of hc2⟩, c, _, _, rfl, rfl, hc2, hlast, ?_⟩
    have hd3 : upd H2 c (.lst (cs.map V.int).dropLast) d = some (.dK (deckKvs c t (k + 1))) := by rw [upd_ne ndc]; exact hd2
    have hc3 : upd H2 c (.lst (cs.map V.int).dropLast) c = some (.lst (cs.dropLast.map V.int)) := by rw [upd_same, List.map_dropLast]
    have same3 : Same (hid d c H) (hid d c (upd H2 c (.lst (cs.map V.int).dropLast))) := by
      rw [hid_upd (Or.inr rfl)]
      exact same2
    generalize upd H2 c (.lst (cs.map V.int).dropLast) = H3 at hd3 hc3 same3
    have hl3 : cs.dropLast.length < 63 := by
      rw [List.length_dropLast]
      have : 0 < cs.length := List.length_pos_iff.mpr ne
      omega
    refine ⟨_, rfl, _, _, rfl, rfl, ⟨by decide, by decide, by decide⟩, _, _, rfl, rfl, _, rfl, ?_⟩
    refine ite2 (fun cg => ?_) (fun cg => ?_)
    · refine ⟨_, rfl, _, _, rfl, dg_cells hd3, .inl ⟨rfl, _, SqL.of hc3⟩, _, rfl, _, rfl, _, _, rfl, rfl, div64 _, c, _, _, rfl, rfl, hc3, ?_, ?_⟩
      · rw [List.length_map]
        exact Nat.lt_trans hl3 (by decide)
      · refine ⟨_, rfl, _, rfl, _, _, rfl, rfl, h0, q _ _ (Int.emod_nonneg _ (by omega)) (Int.emod_lt_of_pos _ h0) ⟨t, k + 1, cs.dropLast ++ [cs.getLast ne / m], ?_, ?_, ?_, by omega, by omega⟩ ?_⟩
        · rw [upd_ne ndc]
          exact hd3
        · rw [upd_same, List.map_append]
          rfl
        · rw [List.length_append, List.length_singleton]
          omega
        · rw [hid_upd (Or.inr rfl)]
          exact same3
    · exact ⟨_, rfl, _, rfl, _, _, rfl, dg_total hd3, .inl (.inl ⟨_, _, rfl, rfl, rows _ _ _ ⟨_, hd3, hc3, Nat.le_of_lt hl3⟩ same3⟩)⟩

end
end K21
end

/-! K21d -/
section
set_option autoImplicit false
open PySem PySem.Spec PyProof.Rows L2 FA FW
namespace K21
def lay__law_draw : List PK := [.deck, .dat]
section
variable {P : Program} {w : World} {K : PySem.W.Frag} {mg : Str → Option Value} {base : Heap} {f : Addr} {fd : FuncData}
def lay__law_pick : List PK := [.deck, .dat]
def fn__law_pick (fn__law_draw : Fn) : Fn := fnOf false lay__law_pick 0 (sRet (fOp oIxD (fVar 1) (fCall fn__law_draw (fDeck 0 (fCons (fCb oLenD (fCons (fVar 1) fNil)) fNil)))))
theorem sc__law_pick : FnScope ["_law_deck_here", "_law_some"] ["_law_deck_here", "_law_some"] (defScope (top 13)) := ⟨rfl, rfl, rfl, by decide +kernel, rfl, by decide +kernel, by decide +kernel⟩
theorem ok__law_pick {fn__law_draw : Fn} (F : FnP K "_law_pick" 13 f fd) (hS : ∃ o, base.get? sysModules = some o) (m_len : mg "len" = none) (c__law_draw : Cal P w K mg base 1 "_law_draw" ["_law_deck_here", "_law_many"] (spW K true false lay__law_draw fn__law_draw)) :
    FnG P w K mg base CX0 2 f fd ["_law_deck_here", "_law_some"] (spW K true false lay__law_pick (fn__law_pick fn__law_draw)) := by
  refine okD F sc__law_pick hS (fun vs H Q E h => spW_size vs H Q E h) (fun cdv A outer s H vs Q E R h => ?_)
  have nd := sc__law_pick.nd
  refine ⟨_, (pss_one (ps_ret (pe_ix (ixAnyW K rfl) (pv 1) (cc c__law_draw R (pa_cons (pv 0) (pa_cons (pe_callB (calK (r := rLenA) K rfl call_lenA) rfl m_len bt_len (pa_cons (pv 1) pa_nil)) pa_nil))) (fun _ _ => rfl)))), ?r⟩
  case r => exact fn_run (ss_ret (se_op os_ix (se_var (i := 1)) (se_call (ir := 0) (sal_deck (i := 0) (sal_dat (se_cb cs_len (sa_cons (se_var (i := 1)) sa_nil)) sal_nil))))) rfl (by decide) (by decide) h
def lay__law_names : List PK := [.deck, .dat]
def fn__law_names (fn__law_draw : Fn) : Fn := fnOf false lay__law_names 4 (sSeq (sAsg (fTup (fCons (fCall fn__law_draw (fDeck 0 (fCons (fC (.int 17)) fNil))) (fCons (fCall fn__law_draw (fDeck 0 (fCons (fC (.int 2)) fNil))) fNil))) (aTup [(aName 2), (aName 3)])) (sSeq (sAsg (fSplit (fC (.str "less is plus from in only where not first nothing exists or t tell limit and order")) (fC (.str " "))) (aName 4)) (sRet (fLst (fLc (iRange1 (fCons (fVar 1) fNil)) (aName 5) bYes (fOp oIxD (fOp oIxD (fLst (fCons (fVar 4) (fCons (fC (.str "abcdefghijklmnopq")) fNil))) (fVar 3)) (fOp oModD (fOp oAddD (fVar 2) (fOp oMulD (fC (.int 5)) (fVar 5))) (fC (.int 17)))) [5])))))
theorem sc__law_names : FnScope ["_law_deck_here", "_law_many", "_law_first", "_law_way", "_law_words", "_law_k"] ["_law_deck_here", "_law_many"] (defScope (top 14)) := ⟨rfl, rfl, rfl, by decide +kernel, rfl, by decide +kernel, by decide +kernel⟩
theorem ok__law_names {fn__law_draw : Fn} (F : FnP K "_law_names" 14 f fd) (hS : ∃ o, base.get? sysModules = some o) (m_range : mg "range" = none) (c__law_draw : Cal P w K mg base 1 "_law_draw" ["_law_deck_here", "_law_many"] (spW K true false lay__law_draw fn__law_draw)) :
    FnG P w K mg base CX0 2 f fd ["_law_deck_here", "_law_many"] (spW K true false lay__law_names (fn__law_names fn__law_draw)) := by
  refine okD F sc__law_names hS (fun vs H Q E h => spW_size vs H Q E h) (fun cdv A outer s H vs Q E R h => ?_)
  have nd := sc__law_names.nd
  refine ⟨_, (pss_cons (ps_asg (pe_tup (pa_cons (cc c__law_draw R (pa_cons (pv 0) (pa_cons pe_int pa_nil))) (pa_cons (cc c__law_draw R (pa_cons (pv 0) (pa_cons pe_int pa_nil))) pa_nil))) (pg_tupW (n := 2) K rfl rfl (pgs_cons (pg_name (i := 2) nd rfl (Or.inr rfl)) (pgs_cons (pg_name (i := 3) nd rfl (Or.inr rfl)) pgs_nil)))) (pss_cons (ps_set (i := 4) nd rfl (Or.inr rfl) (pe_split pe_str pe_str)) (pss_one (ps_ret (pe_lc (own := [("_law_k", 5)]) rfl nd (pi_range1 rfl m_range (pa_cons (pv 1) pa_nil)) (blkOk_by (by kernel_rfl)) (fun _ _ _ _ _ => (pg_name (i := 5) nd rfl (Or.inl rfl))) (fun _ _ _ _ _ => pts_nil) (fun _ _ _ _ _ => (pe_ix (ixAnyW K rfl) (pe_ix (ixAnyW K rfl) (pe_lst (pa_cons (pv 4) (pa_cons pe_str pa_nil))) (pv 3) (fun _ _ => rfl)) (pe_op op_mod (pe_op (opAddW K rfl) (pv 2) (pe_op opMul pe_int (pv 5))) pe_int) (fun _ _ => rfl)))))))), ?r⟩
  case r => exact fn_run (ss_seq (ss_asg (se_tup (sa_cons (se_call (ir := 0) (sal_deck (i := 0) (sal_dat se_int sal_nil))) (sa_cons (se_call (ir := 0) (sal_deck (i := 0) (sal_dat se_int sal_nil))) sa_nil))) (sg_tup rfl (sgs_cons (sg_name (i := 2)) (sgs_cons (sg_name (i := 3)) sgs_nil)))) (ss_seq (ss_asg (se_split se_str se_str) sg_name) (ss_ret (SL.se (sl_lc (vs := [5]) (si_range1 (sa_cons (se_var (i := 1)) sa_nil)) (sg_name (i := 5)) (gin_name (by decide)) st_yes (se_op os_ix (se_op os_ix (se_lst (sa_cons (se_var (i := 4)) (sa_cons se_str sa_nil))) (se_var (i := 3))) (se_op os_mod (se_op os_add (se_var (i := 2)) (se_op os_mul se_int (se_var (i := 5)))) se_int))))))) rfl (by decide) (by decide) h
def lay__law_schema : List PK := [.deck, .dat, .dat]
def fn__law_schema (fn__law_draw fn__law_pick : Fn) : Fn := fnOf false lay__law_schema 8 (sSeq (sNew 3 fNil) (sSeq (sAsg (fLst (fCons (fTup (fCons (fC (.str "number")) fNil)) (fCons (fTup (fCons (fC (.str "number")) (fCons (fC (.str "word")) fNil))) (fCons (fTup (fCons (fC (.str "nothing")) (fCons (fC (.str "number")) (fCons (fC (.str "word")) fNil)))) (fCons (fTup (fCons (fC (.str "word")) fNil)) (fCons (fTup (fCons (fC (.str "nothing")) (fCons (fC (.str "number")) fNil))) fNil)))))) (aName 4)) (sSeq (sFor (iRange1 (fCons (fVar 2) fNil)) (aName 5) (sSeq (sAsg (fUn oTupD (fLst (fLc (iListD (fSl oSlD (fVar 1) (fPart (fOp oAddD (fC (.int 5)) (fVar 5))) (fPart (fOp oAddD (fOp oAddD (fC (.int 6)) (fVar 5)) (fCall fn__law_draw (fDeck 0 (fCons (fC (.int 3)) fNil))))))) (aName 9) bYes (fTup (fCons (fVar 9) (fCons (fCall fn__law_pick (fDeck 0 (fCons (fVar 4) fNil))) fNil))) [9]))) (aName 6)) (sSeq (sAsg (fIf (fTest (fOp oEqD (fCall fn__law_draw (fDeck 0 (fCons (fC (.int 6)) fNil))) (fC (.int 0)))) (fTup (fCons (fOp oIxD (fOp oIxD (fVar 6) (fC (.int 0))) (fC (.int 0))) fNil)) (fTup fNil)) (aName 7)) (sSeq (sAsg (fUn oTupD (fCb oSortD (fCons (fLst (fLc (iTupD (fVar 6)) (aTup [(aName 9), (aName 10)]) (fTest (fOp oGtD (fCall fn__law_draw (fDeck 0 (fCons (fC (.int 3)) fNil))) (fC (.int 0)))) (fVar 9) [9, 10])) fNil))) (aName 8)) (sApp 3 (fTup (fCons (fOp oIxD (fVar 1) (fVar 5)) (fCons (fVar 6) (fCons (fVar 7) (fCons (fVar 8) fNil)))))))))) (sRet (fUn oTupD (fCb oSortD (fCons (fFrz 3) fNil)))))))
theorem sc__law_schema : FnScope ["_law_deck_here", "_law_names_here", "_law_many", "_law_found", "_law_kinds", "_law_at", "_law_columns", "_law_keys", "_law_indexes", "_law_name", "_law_some"] ["_law_deck_here", "_law_names_here", "_law_many"] (defScope (top 15)) := ⟨rfl, rfl, rfl, by decide +kernel, rfl, by decide +kernel, by decide +kernel⟩
theorem ok__law_schema {fn__law_draw fn__law_pick : Fn} (F : FnP K "_law_schema" 15 f fd) (hS : ∃ o, base.get? sysModules = some o) (m_tuple : mg "tuple" = none) (m_sorted : mg "sorted" = none) (m_range : mg "range" = none) (c__law_draw : Cal P w K mg base 1 "_law_draw" ["_law_deck_here", "_law_many"] (spW K true false lay__law_draw fn__law_draw)) (c__law_pick : Cal P w K mg base 2 "_law_pick" ["_law_deck_here", "_law_some"] (spW K true false lay__law_pick fn__law_pick)) :
    FnG P w K mg base CX0 3 f fd ["_law_deck_here", "_law_names_here", "_law_many"] (spW K true false lay__law_schema (fn__law_schema fn__law_draw fn__law_pick)) := by
  refine okD F sc__law_schema hS (fun vs H Q E h => spW_size vs H Q E h) (fun cdv A outer s H vs Q E R h => ?_)
  have nd := sc__law_schema.nd
  refine ⟨_, (pss_cons (ps_set (i := 3) nd rfl (Or.inl rfl) (pe_lst pa_nil)) (pss_cons (ps_set (i := 4) nd rfl (Or.inr rfl) (pe_lst (pa_cons (pe_tup (pa_cons pe_str pa_nil)) (pa_cons (pe_tup (pa_cons pe_str (pa_cons pe_str pa_nil))) (pa_cons (pe_tup (pa_cons pe_str (pa_cons pe_str (pa_cons pe_str pa_nil)))) (pa_cons (pe_tup (pa_cons pe_str pa_nil)) (pa_cons (pe_tup (pa_cons pe_str (pa_cons pe_str pa_nil))) pa_nil))))))) (pss_cons (ps_for PassesOwn.never rfl (pi_range1 rfl m_range (pa_cons (pv 2) pa_nil)) (pg_name (i := 5) nd rfl (Or.inl rfl)) (pss_cons (ps_set (i := 6) nd rfl (Or.inl rfl) (pe_tupW K rfl rfl m_tuple (pe_lc (own := [("_law_name", 9)]) rfl nd (pi_listW K rfl (pe_slice (slAnyW K rfl) (pv 1) (po_some (pe_op (opAddW K rfl) pe_int (pv 5))) (po_some (pe_op (opAddW K rfl) (pe_op (opAddW K rfl) pe_int (pv 5)) (cc c__law_draw R (pa_cons (pv 0) (pa_cons pe_int pa_nil))))))) (blkOk_by (by kernel_rfl)) (fun _ _ _ _ _ => (pg_name (i := 9) nd rfl (Or.inl rfl))) (fun _ _ _ _ _ => pts_nil) (fun _ _ _ _ _ => (pe_tup (pa_cons (pv 9) (pa_cons (cc c__law_pick (R.blk _ _ _ _ _) (pa_cons (pv 0) (pa_cons (pv 4) pa_nil))) pa_nil))))))) (pss_cons (ps_set (i := 7) nd rfl (Or.inl rfl) (pe_ifExp (pt_cmpR op_eq (cc c__law_draw R (pa_cons (pv 0) (pa_cons pe_int pa_nil))) pe_int (by rfl)) (pe_tup (pa_cons (pe_ix (ixAnyW K rfl) (pe_ix (ixAnyW K rfl) (pv 6) pe_int (fun _ _ => rfl)) pe_int (fun _ _ => rfl)) pa_nil)) (pe_tup pa_nil))) (pss_cons (ps_set (i := 8) nd rfl (Or.inl rfl) (pe_tupW K rfl rfl m_tuple (pe_callB (cr_sortW K rfl R.room) rfl m_sorted bt_sorted (pa_cons (pe_lc (own := [("_law_name", 9), ("_law_some", 10)]) rfl nd (pi_tupW K rfl (pv 6)) (blkOk_by (by kernel_rfl)) (fun _ _ _ _ _ => (pg_tupW (n := 2) K rfl rfl (pgs_cons (pg_name (i := 9) nd rfl (Or.inl rfl)) (pgs_cons (pg_name (i := 10) nd rfl (Or.inl rfl)) pgs_nil)))) (fun _ _ _ _ _ => (pts_one (pt_cmpR op_gt (cc c__law_draw (R.blk _ _ _ _ _) (pa_cons (pv 0) (pa_cons pe_int pa_nil))) pe_int (by rfl)))) (fun _ _ _ _ _ => (pv 9))) pa_nil)))) (pss_one (ps_expr (pe_bmW K rfl PySem.F.plainAttrs_list PySem.F.slot_list_append PySem.F.type_list_append mt_append (pv 3) (pa_cons (pe_tup (pa_cons (pe_ix (ixAnyW K rfl) (pv 1) (pv 5) (fun _ _ => rfl)) (pa_cons (pv 6) (pa_cons (pv 7) (pa_cons (pv 8) pa_nil))))) pa_nil)))))))) (pss_one (ps_ret (pe_tupW K rfl rfl m_tuple (pe_callB (cr_sortW K rfl R.room) rfl m_sorted bt_sorted (pa_cons (pv 3) pa_nil)))))))), ?r⟩
  case r => exact fn_run (ss_seq (ss_new (sl_lst sa_nil)) (ss_seq (ss_asg (se_lst (sa_cons (se_tup (sa_cons se_str sa_nil)) (sa_cons (se_tup (sa_cons se_str (sa_cons se_str sa_nil))) (sa_cons (se_tup (sa_cons se_str (sa_cons se_str (sa_cons se_str sa_nil)))) (sa_cons (se_tup (sa_cons se_str sa_nil)) (sa_cons (se_tup (sa_cons se_str (sa_cons se_str sa_nil))) sa_nil)))))) sg_name) (ss_seq (ss_for (si_range1 (sa_cons (se_var (i := 2)) sa_nil)) (sg_name (i := 5)) (ss_seq (ss_asg (se_then us_tup (SL.se (sl_lc (vs := [9]) (si_list (se_sl ss_any (se_var (i := 1)) (so_some (se_op os_add se_int (se_var (i := 5)))) (so_some (se_op os_add (se_op os_add se_int (se_var (i := 5))) (se_call (ir := 0) (sal_deck (i := 0) (sal_dat se_int sal_nil))))))) (sg_name (i := 9)) (gin_name (by decide)) st_yes (se_tup (sa_cons (se_var (i := 9)) (sa_cons (se_call (ir := 0) (sal_deck (i := 0) (sal_dat (se_var (i := 4)) sal_nil))) sa_nil)))))) sg_name) (ss_seq (ss_asg (se_if (st_test (se_op os_eq (se_call (ir := 0) (sal_deck (i := 0) (sal_dat se_int sal_nil))) se_int)) (se_tup (sa_cons (se_op os_ix (se_op os_ix (se_var (i := 6)) se_int) se_int) sa_nil)) (se_tup sa_nil)) sg_name) (ss_seq (ss_asg (se_then us_tup (se_cb cs_sort (sa_cons (SL.se (sl_lc (vs := [9, 10]) (si_tup (se_var (i := 6))) (sg_tup rfl (sgs_cons (sg_name (i := 9)) (sgs_cons (sg_name (i := 10)) sgs_nil))) (gin_tup (gsin_name (by decide) (gsin_name (by decide) gsin_nil))) (st_test (se_op os_gt (se_call (ir := 0) (sal_deck (i := 0) (sal_dat se_int sal_nil))) se_int)) (se_var (i := 9)))) sa_nil))) sg_name) (ss_app (i := 3) (se_tup (sa_cons (se_op os_ix (se_var (i := 1)) (se_var (i := 5))) (sa_cons (se_var (i := 6)) (sa_cons (se_var (i := 7)) (sa_cons (se_var (i := 8)) sa_nil)))))))))) (ss_ret (se_then us_tup (se_cb cs_sort (sa_cons (se_frz (i := 3)) sa_nil))))))) rfl (by decide) (by decide) h
def lay__law_any_value : List PK := [.deck, .dat]
def fn__law_any_value (fn__law_pick : Fn) : Fn := fnOf false lay__law_any_value 1 (sSeq (sAsg (fCall fn__law_pick (fDeck 0 (fCons (fVar 1) fNil))) (aName 2)) (sSeq (sIf (fTest (fOp oEqD (fVar 2) (fC (.str "nothing")))) (sRet (fC .none)) sNext) (sSeq (sIf (fTest (fOp oEqD (fVar 2) (fC (.str "word")))) (sRet (fCall fn__law_pick (fDeck 0 (fCons (fLst (fCons (fC (.str "a")) (fCons (fC (.str "b")) (fCons (fC (.str "less")) fNil)))) fNil)))) sNext) (sRet (fCall fn__law_pick (fDeck 0 (fCons (fLst (fCons (fC (.int 0)) (fCons (fC (.int 1)) (fCons (fC (.int 2)) (fCons (fC (.int 2)) (fCons (fC (.int 3)) (fCons (fOp oPowD (fC (.int 10)) (fC (.int 12))) (fCons (fOp oSubD (fC (.int 1)) (fOp oPowD (fC (.int 10)) (fC (.int 12)))) fNil)))))))) fNil)))))))
theorem sc__law_any_value : FnScope ["_law_deck_here", "_law_kinds", "_law_kind"] ["_law_deck_here", "_law_kinds"] (defScope (top 16)) := ⟨rfl, rfl, rfl, by decide +kernel, rfl, by decide +kernel, by decide +kernel⟩
theorem ok__law_any_value {fn__law_pick : Fn} (F : FnP K "_law_any_value" 16 f fd) (hS : ∃ o, base.get? sysModules = some o)  (c__law_pick : Cal P w K mg base 2 "_law_pick" ["_law_deck_here", "_law_some"] (spW K true false lay__law_pick fn__law_pick)) :
    FnG P w K mg base CX0 3 f fd ["_law_deck_here", "_law_kinds"] (spW K true false lay__law_any_value (fn__law_any_value fn__law_pick)) := by
  refine okD F sc__law_any_value hS (fun vs H Q E h => spW_size vs H Q E h) (fun cdv A outer s H vs Q E R h => ?_)
  have nd := sc__law_any_value.nd
  refine ⟨_, (pss_cons (ps_set (i := 2) nd rfl (Or.inl rfl) (cc c__law_pick R (pa_cons (pv 0) (pa_cons (pv 1) pa_nil)))) (pss_cons (ps_if (pt_cmpR op_eq (pv 2) pe_str (by rfl)) (pss_one (ps_ret pe_non)) pss_nil) (pss_cons (ps_if (pt_cmpR op_eq (pv 2) pe_str (by rfl)) (pss_one (ps_ret (cc c__law_pick R (pa_cons (pv 0) (pa_cons (pe_lst (pa_cons pe_str (pa_cons pe_str (pa_cons pe_str pa_nil)))) pa_nil))))) pss_nil) (pss_one (ps_ret (cc c__law_pick R (pa_cons (pv 0) (pa_cons (pe_lst (pa_cons pe_int (pa_cons pe_int (pa_cons pe_int (pa_cons pe_int (pa_cons pe_int (pa_cons (pe_op op_pow pe_int pe_int) (pa_cons (pe_op op_sub pe_int (pe_op op_pow pe_int pe_int)) pa_nil)))))))) pa_nil)))))))), ?r⟩
  case r => exact fn_run (ss_seq (ss_asg (se_call (ir := 0) (sal_deck (i := 0) (sal_dat (se_var (i := 1)) sal_nil))) sg_name) (ss_seq (ss_if (st_test (se_op os_eq (se_var (i := 2)) se_str)) (ss_ret se_non) ss_next) (ss_seq (ss_if (st_test (se_op os_eq (se_var (i := 2)) se_str)) (ss_ret (se_call (ir := 0) (sal_deck (i := 0) (sal_dat (se_lst (sa_cons se_str (sa_cons se_str (sa_cons se_str sa_nil)))) sal_nil)))) ss_next) (ss_ret (se_call (ir := 0) (sal_deck (i := 0) (sal_dat (se_lst (sa_cons se_int (sa_cons se_int (sa_cons se_int (sa_cons se_int (sa_cons se_int (sa_cons (se_op os_pow se_int se_int) (sa_cons (se_op os_sub se_int (se_op os_pow se_int se_int)) sa_nil)))))))) sal_nil))))))) rfl (by decide) (by decide) h
def lay__law_column : List PK := [.deck, .dat, .dat]
def fn__law_column (fn__law_pick : Fn) : Fn := fnOf false lay__law_column 2 (sSeq (sAsg (fCall fn__law_pick (fDeck 0 (fCons (fVar 2) fNil))) (aTup [(aName 3), (aName 4)])) (sRet (fTup (fCons (fC (.str "column")) (fCons (fVar 3) (fCons (fCall fn__law_pick (fDeck 0 (fCons (fOp oDGet (fOp oDGet (fVar 1) (fC (.str "columns"))) (fVar 4)) fNil))) fNil))))))
theorem sc__law_column : FnScope ["_law_deck_here", "_law_world", "_law_refs", "_law_alias", "_law_table"] ["_law_deck_here", "_law_world", "_law_refs"] (defScope (top 17)) := ⟨rfl, rfl, rfl, by decide +kernel, rfl, by decide +kernel, by decide +kernel⟩
theorem ok__law_column {fn__law_pick : Fn} (F : FnP K "_law_column" 17 f fd) (hS : ∃ o, base.get? sysModules = some o)  (c__law_pick : Cal P w K mg base 2 "_law_pick" ["_law_deck_here", "_law_some"] (spW K true false lay__law_pick fn__law_pick)) :
    FnG P w K mg base CX0 3 f fd ["_law_deck_here", "_law_world", "_law_refs"] (spW K true false lay__law_column (fn__law_column fn__law_pick)) := by
  refine okD F sc__law_column hS (fun vs H Q E h => spW_size vs H Q E h) (fun cdv A outer s H vs Q E R h => ?_)
  have nd := sc__law_column.nd
  refine ⟨_, (pss_cons (ps_asg (cc c__law_pick R (pa_cons (pv 0) (pa_cons (pv 2) pa_nil))) (pg_tupW (n := 2) K rfl rfl (pgs_cons (pg_name (i := 3) nd rfl (Or.inl rfl)) (pgs_cons (pg_name (i := 4) nd rfl (Or.inl rfl)) pgs_nil)))) (pss_one (ps_ret (pe_tup (pa_cons pe_str (pa_cons (pv 3) (pa_cons (cc c__law_pick R (pa_cons (pv 0) (pa_cons (pe_dget (hu_of R.room) (pe_dget (hu_of R.room) (pv 1) pe_str (fun _ _ => rfl)) (pv 4) (fun _ _ => rfl)) pa_nil))) pa_nil))))))), ?r⟩
  case r => exact fn_run (ss_seq (ss_asg (se_call (ir := 0) (sal_deck (i := 0) (sal_dat (se_var (i := 2)) sal_nil))) (sg_tup rfl (sgs_cons (sg_name (i := 3)) (sgs_cons (sg_name (i := 4)) sgs_nil)))) (ss_ret (se_tup (sa_cons se_str (sa_cons (se_var (i := 3)) (sa_cons (se_call (ir := 0) (sal_deck (i := 0) (sal_dat (se_dget (se_dget (se_var (i := 1)) se_str) (se_var (i := 4))) sal_nil))) sa_nil)))))) rfl (by decide) (by decide) h
def lay__law_some_term : List PK := [.deck, .dat, .dat, .dat]
def fnb__law_some_term (fn__law_draw fn__law_column fn__law_pick fn__law_any_value : Fn) (fn__law_some_term : Fn) : Fn := fnOf false lay__law_some_term 1 (sSeq (sAsg (fCall fn__law_draw (fDeck 0 (fCons (fC (.int 9)) fNil))) (aName 4)) (sSeq (sIf (fTest (fOp oLtD (fVar 4) (fC (.int 5)))) (sRet (fCall fn__law_column (fDeck 0 (fCons (fVar 1) (fCons (fVar 2) fNil))))) sNext) (sSeq (sIf (fOr (fTest (fOp oLtD (fVar 4) (fC (.int 7)))) (fTest (fOp oEqD (fVar 3) (fC (.int 0))))) (sRet (fTup (fCons (fC (.str "value")) (fCons (fCall fn__law_any_value (fDeck 0 (fCons (fTup (fCons (fC (.str "nothing")) (fCons (fC (.str "number")) (fCons (fC (.str "number")) (fCons (fC (.str "word")) fNil))))) fNil))) fNil)))) sNext) (sRet (fTup (fCons (fC (.str "plus")) (fCons (fCall fn__law_some_term (fDeck 0 (fCons (fVar 1) (fCons (fVar 2) (fCons (fOp oSubD (fVar 3) (fC (.int 1))) fNil))))) (fCons (fCall fn__law_pick (fDeck 0 (fCons (fLst (fCons (fC (.int 1)) (fCons (fUn oNegD (fC (.int 1))) (fCons (fC (.int 2)) (fCons (fOp oPowD (fC (.int 10)) (fC (.int 12))) fNil))))) fNil))) fNil))))))))
def fn__law_some_term (fn__law_draw fn__law_column fn__law_pick fn__law_any_value : Fn) : Nat → Fn
  | 0 => fun _ _ _ _ => False
  | n + 1 => fnb__law_some_term fn__law_draw fn__law_column fn__law_pick fn__law_any_value (fn__law_some_term fn__law_draw fn__law_column fn__law_pick fn__law_any_value n)
theorem sc__law_some_term : FnScope ["_law_deck_here", "_law_world", "_law_refs", "_law_deep", "_law_way"] ["_law_deck_here", "_law_world", "_law_refs", "_law_deep"] (defScope (top 18)) := ⟨rfl, rfl, rfl, by decide +kernel, rfl, by decide +kernel, by decide +kernel⟩
theorem ok__law_some_term {fn__law_draw fn__law_column fn__law_pick fn__law_any_value fn__law_some_term : Fn} (l : Nat) (hl : 3 ≤ l) (F : FnP K "_law_some_term" 18 f fd) (hS : ∃ o, base.get? sysModules = some o)  (c__law_draw : Cal P w K mg base 1 "_law_draw" ["_law_deck_here", "_law_many"] (spW K true false lay__law_draw fn__law_draw)) (c__law_column : Cal P w K mg base 3 "_law_column" ["_law_deck_here", "_law_world", "_law_refs"] (spW K true false lay__law_column fn__law_column)) (c__law_pick : Cal P w K mg base 2 "_law_pick" ["_law_deck_here", "_law_some"] (spW K true false lay__law_pick fn__law_pick)) (c__law_any_value : Cal P w K mg base 3 "_law_any_value" ["_law_deck_here", "_law_kinds"] (spW K true false lay__law_any_value fn__law_any_value)) (c__law_some_term : Cal P w K mg base l "_law_some_term" ["_law_deck_here", "_law_world", "_law_refs", "_law_deep"] (spW K true false lay__law_some_term fn__law_some_term)) :
    FnG P w K mg base CX0 (l + 1) f fd ["_law_deck_here", "_law_world", "_law_refs", "_law_deep"] (spW K true false lay__law_some_term (fnb__law_some_term fn__law_draw fn__law_column fn__law_pick fn__law_any_value fn__law_some_term)) := by
  refine okD F sc__law_some_term hS (fun vs H Q E h => spW_size vs H Q E h) (fun cdv A outer s H vs Q E R h => ?_)
  have nd := sc__law_some_term.nd
  refine ⟨_, (pss_cons (ps_set (i := 4) nd rfl (Or.inl rfl) (cc c__law_draw R (pa_cons (pv 0) (pa_cons pe_int pa_nil)))) (pss_cons (ps_if (pt_cmpR opLt (pv 4) pe_int (by rfl)) (pss_one (ps_ret (cc c__law_column R (pa_cons (pv 0) (pa_cons (pv 1) (pa_cons (pv 2) pa_nil)))))) pss_nil) (pss_cons (ps_if (PW.pt (pw_or (pt_cmpR opLt (pv 4) pe_int (by rfl)) (pw_or1 (pt_cmpR op_eq (pv 3) pe_int (by rfl))))) (pss_one (ps_ret (pe_tup (pa_cons pe_str (pa_cons (cc c__law_any_value R (pa_cons (pv 0) (pa_cons (pe_tup (pa_cons pe_str (pa_cons pe_str (pa_cons pe_str (pa_cons pe_str pa_nil))))) pa_nil))) pa_nil))))) pss_nil) (pss_one (ps_ret (pe_tup (pa_cons pe_str (pa_cons (cc c__law_some_term R (pa_cons (pv 0) (pa_cons (pv 1) (pa_cons (pv 2) (pa_cons (pe_op op_sub (pv 3) pe_int) pa_nil))))) (pa_cons (cc c__law_pick R (pa_cons (pv 0) (pa_cons (pe_lst (pa_cons pe_int (pa_cons (pe_un un_neg pe_int) (pa_cons pe_int (pa_cons (pe_op op_pow pe_int pe_int) pa_nil))))) pa_nil))) pa_nil))))))))), ?r⟩
  case r => exact fn_run (ss_seq (ss_asg (se_call (ir := 0) (sal_deck (i := 0) (sal_dat se_int sal_nil))) sg_name) (ss_seq (ss_if (st_test (se_op os_lt (se_var (i := 4)) se_int)) (ss_ret (se_call (ir := 0) (sal_deck (i := 0) (sal_dat (se_var (i := 1)) (sal_dat (se_var (i := 2)) sal_nil))))) ss_next) (ss_seq (ss_if (st_or (st_test (se_op os_lt (se_var (i := 4)) se_int)) (st_test (se_op os_eq (se_var (i := 3)) se_int))) (ss_ret (se_tup (sa_cons se_str (sa_cons (se_call (ir := 0) (sal_deck (i := 0) (sal_dat (se_tup (sa_cons se_str (sa_cons se_str (sa_cons se_str (sa_cons se_str sa_nil))))) sal_nil))) sa_nil)))) ss_next) (ss_ret (se_tup (sa_cons se_str (sa_cons (se_call (ir := 0) (sal_deck (i := 0) (sal_dat (se_var (i := 1)) (sal_dat (se_var (i := 2)) (sal_dat (se_op os_sub (se_var (i := 3)) se_int) sal_nil))))) (sa_cons (se_call (ir := 0) (sal_deck (i := 0) (sal_dat (se_lst (sa_cons se_int (sa_cons (se_un us_neg se_int) (sa_cons se_int (sa_cons (se_op os_pow se_int se_int) sa_nil))))) sal_nil))) sa_nil)))))))) rfl (by decide) (by decide) h
def lay__law_some_leaf : List PK := [.deck, .dat, .dat, .dat]
def fn__law_some_leaf (fn__law_pick fn__law_some_term : Fn) : Fn := fnOf false lay__law_some_leaf 2 (sSeq (sAsg (fCall fn__law_pick (fDeck 0 (fCons (fLst (fCons (fC (.str "less")) (fCons (fC (.str "most")) (fCons (fC (.str "same")) (fCons (fC (.str "same")) (fCons (fC (.str "is")) fNil)))))) fNil))) (aName 4)) (sSeq (sAsg (fCall fn__law_some_term (fDeck 0 (fCons (fVar 1) (fCons (fVar 2) (fCons (fVar 3) fNil))))) (aName 5)) (sSeq (sIf (fTest (fOp oEqD (fVar 4) (fC (.str "is")))) (sRet (fTup (fCons (fC (.str "is")) (fCons (fVar 5) (fCons (fCall fn__law_pick (fDeck 0 (fCons (fLst (fCons (fC (.str "nothing")) (fCons (fC (.str "number")) (fCons (fC (.str "word")) fNil)))) fNil))) fNil))))) sNext) (sRet (fTup (fCons (fVar 4) (fCons (fVar 5) (fCons (fCall fn__law_some_term (fDeck 0 (fCons (fVar 1) (fCons (fVar 2) (fCons (fVar 3) fNil))))) fNil))))))))
theorem sc__law_some_leaf : FnScope ["_law_deck_here", "_law_world", "_law_refs", "_law_deep", "_law_word", "_law_first"] ["_law_deck_here", "_law_world", "_law_refs", "_law_deep"] (defScope (top 19)) := ⟨rfl, rfl, rfl, by decide +kernel, rfl, by decide +kernel, by decide +kernel⟩
theorem ok__law_some_leaf {fn__law_pick fn__law_some_term : Fn} (F : FnP K "_law_some_leaf" 19 f fd) (hS : ∃ o, base.get? sysModules = some o)  (c__law_pick : Cal P w K mg base 2 "_law_pick" ["_law_deck_here", "_law_some"] (spW K true false lay__law_pick fn__law_pick)) (c__law_some_term : Cal P w K mg base 7 "_law_some_term" ["_law_deck_here", "_law_world", "_law_refs", "_law_deep"] (spW K true false lay__law_some_term fn__law_some_term)) :
    FnG P w K mg base CX0 8 f fd ["_law_deck_here", "_law_world", "_law_refs", "_law_deep"] (spW K true false lay__law_some_leaf (fn__law_some_leaf fn__law_pick fn__law_some_term)) := by
  refine okD F sc__law_some_leaf hS (fun vs H Q E h => spW_size vs H Q E h) (fun cdv A outer s H vs Q E R h => ?_)
  have nd := sc__law_some_leaf.nd
  refine ⟨_, (pss_cons (ps_set (i := 4) nd rfl (Or.inl rfl) (cc c__law_pick R (pa_cons (pv 0) (pa_cons (pe_lst (pa_cons pe_str (pa_cons pe_str (pa_cons pe_str (pa_cons pe_str (pa_cons pe_str pa_nil)))))) pa_nil)))) (pss_cons (ps_set (i := 5) nd rfl (Or.inl rfl) (cc c__law_some_term R (pa_cons (pv 0) (pa_cons (pv 1) (pa_cons (pv 2) (pa_cons (pv 3) pa_nil)))))) (pss_cons (ps_if (pt_cmpR op_eq (pv 4) pe_str (by rfl)) (pss_one (ps_ret (pe_tup (pa_cons pe_str (pa_cons (pv 5) (pa_cons (cc c__law_pick R (pa_cons (pv 0) (pa_cons (pe_lst (pa_cons pe_str (pa_cons pe_str (pa_cons pe_str pa_nil)))) pa_nil))) pa_nil)))))) pss_nil) (pss_one (ps_ret (pe_tup (pa_cons (pv 4) (pa_cons (pv 5) (pa_cons (cc c__law_some_term R (pa_cons (pv 0) (pa_cons (pv 1) (pa_cons (pv 2) (pa_cons (pv 3) pa_nil))))) pa_nil))))))))), ?r⟩
  case r => exact fn_run (ss_seq (ss_asg (se_call (ir := 0) (sal_deck (i := 0) (sal_dat (se_lst (sa_cons se_str (sa_cons se_str (sa_cons se_str (sa_cons se_str (sa_cons se_str sa_nil)))))) sal_nil))) sg_name) (ss_seq (ss_asg (se_call (ir := 0) (sal_deck (i := 0) (sal_dat (se_var (i := 1)) (sal_dat (se_var (i := 2)) (sal_dat (se_var (i := 3)) sal_nil))))) sg_name) (ss_seq (ss_if (st_test (se_op os_eq (se_var (i := 4)) se_str)) (ss_ret (se_tup (sa_cons se_str (sa_cons (se_var (i := 5)) (sa_cons (se_call (ir := 0) (sal_deck (i := 0) (sal_dat (se_lst (sa_cons se_str (sa_cons se_str (sa_cons se_str sa_nil)))) sal_nil))) sa_nil))))) ss_next) (ss_ret (se_tup (sa_cons (se_var (i := 4)) (sa_cons (se_var (i := 5)) (sa_cons (se_call (ir := 0) (sal_deck (i := 0) (sal_dat (se_var (i := 1)) (sal_dat (se_var (i := 2)) (sal_dat (se_var (i := 3)) sal_nil))))) sa_nil)))))))) rfl (by decide) (by decide) h
def lay__law_inner : List PK := [.deck, .dat, .dat, .dat]
def fn__law_inner (fn__law_some_leaf fn__law_pick fn__law_draw : Fn) : Fn := fnOf false lay__law_inner 4 (sSeq (sAsg (fUn oTupD (fLst (fLc (iListD (fSl oSlD (fVar 3) fNoP (fPart (fOp oAddD (fC (.int 1)) (fOp oDivD (fCall fn__law_draw (fDeck 0 (fCons (fC (.int 4)) fNil))) (fC (.int 3))))))) (aName 7) bYes (fTup (fCons (fVar 7) (fCons (fOp oIxD (fCall fn__law_pick (fDeck 0 (fCons (fOp oDGet (fVar 1) (fC (.str "tables"))) fNil))) (fC (.int 0))) fNil))) [7]))) (aName 4)) (sSeq (sAsg (fCall fn__law_some_leaf (fDeck 0 (fCons (fVar 1) (fCons (fOp oAddD (fOp oAddD (fVar 4) (fVar 4)) (fVar 2)) (fCons (fC (.int 1)) fNil))))) (aName 5)) (sSeq (sAsg (fCall fn__law_pick (fDeck 0 (fCons (fLst (fCons (fC (.str "and")) (fCons (fC (.str "or")) (fCons (fC (.str "")) (fCons (fC (.str "")) (fCons (fC (.str "not")) fNil)))))) fNil))) (aName 6)) (sSeq (sIf (fTest (fOp oEqD (fVar 6) (fC (.str "not")))) (sRet (fTup (fCons (fVar 4) (fCons (fTup (fCons (fC (.str "not")) (fCons (fVar 5) fNil))) fNil)))) sNext) (sRet (fTup (fCons (fVar 4) (fCons (fIf (fTest (fOp oEqD (fVar 6) (fC (.str "")))) (fVar 5) (fTup (fCons (fVar 6) (fCons (fVar 5) (fCons (fCall fn__law_some_leaf (fDeck 0 (fCons (fVar 1) (fCons (fOp oAddD (fVar 4) (fVar 2)) (fCons (fC (.int 1)) fNil))))) fNil))))) fNil))))))))
theorem sc__law_inner : FnScope ["_law_deck_here", "_law_world", "_law_refs", "_law_aliases", "_law_own", "_law_leaf", "_law_word", "_law_alias"] ["_law_deck_here", "_law_world", "_law_refs", "_law_aliases"] (defScope (top 20)) := ⟨rfl, rfl, rfl, by decide +kernel, rfl, by decide +kernel, by decide +kernel⟩
theorem ok__law_inner {fn__law_some_leaf fn__law_pick fn__law_draw : Fn} (F : FnP K "_law_inner" 20 f fd) (hS : ∃ o, base.get? sysModules = some o) (m_tuple : mg "tuple" = none) (c__law_some_leaf : Cal P w K mg base 8 "_law_some_leaf" ["_law_deck_here", "_law_world", "_law_refs", "_law_deep"] (spW K true false lay__law_some_leaf fn__law_some_leaf)) (c__law_pick : Cal P w K mg base 2 "_law_pick" ["_law_deck_here", "_law_some"] (spW K true false lay__law_pick fn__law_pick)) (c__law_draw : Cal P w K mg base 1 "_law_draw" ["_law_deck_here", "_law_many"] (spW K true false lay__law_draw fn__law_draw)) :
    FnG P w K mg base CX0 9 f fd ["_law_deck_here", "_law_world", "_law_refs", "_law_aliases"] (spW K true false lay__law_inner (fn__law_inner fn__law_some_leaf fn__law_pick fn__law_draw)) := by
  refine okD F sc__law_inner hS (fun vs H Q E h => spW_size vs H Q E h) (fun cdv A outer s H vs Q E R h => ?_)
  have nd := sc__law_inner.nd
  refine ⟨_, (pss_cons (ps_set (i := 4) nd rfl (Or.inl rfl) (pe_tupW K rfl rfl m_tuple (pe_lc (own := [("_law_alias", 7)]) rfl nd (pi_listW K rfl (pe_slice (slAnyW K rfl) (pv 3) po_none (po_some (pe_op (opAddW K rfl) pe_int (pe_op op_fdivW (cc c__law_draw R (pa_cons (pv 0) (pa_cons pe_int pa_nil))) pe_int))))) (blkOk_by (by kernel_rfl)) (fun _ _ _ _ _ => (pg_name (i := 7) nd rfl (Or.inl rfl))) (fun _ _ _ _ _ => pts_nil) (fun _ _ _ _ _ => (pe_tup (pa_cons (pv 7) (pa_cons (pe_ix (ixAnyW K rfl) (cc c__law_pick (R.blk _ _ _ _ _) (pa_cons (pv 0) (pa_cons (pe_dget (hu_of (R.blk _ _ _ _ _).room) (pv 1) pe_str (fun _ _ => rfl)) pa_nil))) pe_int (fun _ _ => rfl)) pa_nil))))))) (pss_cons (ps_set (i := 5) nd rfl (Or.inl rfl) (cc c__law_some_leaf R (pa_cons (pv 0) (pa_cons (pv 1) (pa_cons (pe_op (opAddW K rfl) (pe_op (opAddW K rfl) (pv 4) (pv 4)) (pv 2)) (pa_cons pe_int pa_nil)))))) (pss_cons (ps_set (i := 6) nd rfl (Or.inl rfl) (cc c__law_pick R (pa_cons (pv 0) (pa_cons (pe_lst (pa_cons pe_str (pa_cons pe_str (pa_cons pe_str (pa_cons pe_str (pa_cons pe_str pa_nil)))))) pa_nil)))) (pss_cons (ps_if (pt_cmpR op_eq (pv 6) pe_str (by rfl)) (pss_one (ps_ret (pe_tup (pa_cons (pv 4) (pa_cons (pe_tup (pa_cons pe_str (pa_cons (pv 5) pa_nil))) pa_nil))))) pss_nil) (pss_one (ps_ret (pe_tup (pa_cons (pv 4) (pa_cons (pe_ifExp (pt_cmpR op_eq (pv 6) pe_str (by rfl)) (pv 5) (pe_tup (pa_cons (pv 6) (pa_cons (pv 5) (pa_cons (cc c__law_some_leaf R (pa_cons (pv 0) (pa_cons (pv 1) (pa_cons (pe_op (opAddW K rfl) (pv 4) (pv 2)) (pa_cons pe_int pa_nil))))) pa_nil))))) pa_nil))))))))), ?r⟩
  case r => exact fn_run (ss_seq (ss_asg (se_then us_tup (SL.se (sl_lc (vs := [7]) (si_list (se_sl ss_any (se_var (i := 3)) so_none (so_some (se_op os_add se_int (se_op os_div (se_call (ir := 0) (sal_deck (i := 0) (sal_dat se_int sal_nil))) se_int))))) (sg_name (i := 7)) (gin_name (by decide)) st_yes (se_tup (sa_cons (se_var (i := 7)) (sa_cons (se_op os_ix (se_call (ir := 0) (sal_deck (i := 0) (sal_dat (se_dget (se_var (i := 1)) se_str) sal_nil))) se_int) sa_nil)))))) sg_name) (ss_seq (ss_asg (se_call (ir := 0) (sal_deck (i := 0) (sal_dat (se_var (i := 1)) (sal_dat (se_op os_add (se_op os_add (se_var (i := 4)) (se_var (i := 4))) (se_var (i := 2))) (sal_dat se_int sal_nil))))) sg_name) (ss_seq (ss_asg (se_call (ir := 0) (sal_deck (i := 0) (sal_dat (se_lst (sa_cons se_str (sa_cons se_str (sa_cons se_str (sa_cons se_str (sa_cons se_str sa_nil)))))) sal_nil))) sg_name) (ss_seq (ss_if (st_test (se_op os_eq (se_var (i := 6)) se_str)) (ss_ret (se_tup (sa_cons (se_var (i := 4)) (sa_cons (se_tup (sa_cons se_str (sa_cons (se_var (i := 5)) sa_nil))) sa_nil)))) ss_next) (ss_ret (se_tup (sa_cons (se_var (i := 4)) (sa_cons (se_if (st_test (se_op os_eq (se_var (i := 6)) se_str)) (se_var (i := 5)) (se_tup (sa_cons (se_var (i := 6)) (sa_cons (se_var (i := 5)) (sa_cons (se_call (ir := 0) (sal_deck (i := 0) (sal_dat (se_var (i := 1)) (sal_dat (se_op os_add (se_var (i := 4)) (se_var (i := 2))) (sal_dat se_int sal_nil))))) sa_nil))))) sa_nil)))))))) rfl (by decide) (by decide) h
def lay__law_condition : List PK := [.deck, .dat, .dat, .reg, .dat]
def fnb__law_condition (fn__law_draw fn__law_some_leaf fn__law_inner fn__law_pick fn__law_column : Fn) (fn__law_condition : Fn) : Fn := fnOf true lay__law_condition 6 (sSeq (sAsg (fCall fn__law_draw (fDeck 0 (fCons (fC (.int 10)) fNil))) (aName 5)) (sSeq (sIf (fAnd (fTest (fOp oGtD (fVar 4) (fC (.int 0)))) (fTest (fOp oLtD (fVar 5) (fC (.int 4))))) (sSeq (sAsg (fCallR fn__law_condition 3 (fDeck 0 (fCons (fVar 1) (fCons (fVar 2) (fReg 3 (fCons (fOp oSubD (fVar 4) (fC (.int 1))) fNil)))))) (aName 6)) (sRet (fTup (fCons (fOp oIxD (fLst (fCons (fC (.str "and")) (fCons (fC (.str "or")) (fCons (fC (.str "and")) (fCons (fC (.str "or")) fNil))))) (fVar 5)) (fCons (fVar 6) (fCons (fCallR fn__law_condition 3 (fDeck 0 (fCons (fVar 1) (fCons (fVar 2) (fReg 3 (fCons (fOp oSubD (fVar 4) (fC (.int 1))) fNil)))))) fNil)))))) sNext) (sSeq (sIf (fAnd (fTest (fOp oGtD (fVar 4) (fC (.int 0)))) (fTest (fOp oEqD (fVar 5) (fC (.int 4))))) (sRet (fTup (fCons (fC (.str "not")) (fCons (fCallR fn__law_condition 3 (fDeck 0 (fCons (fVar 1) (fCons (fVar 2) (fReg 3 (fCons (fOp oSubD (fVar 4) (fC (.int 1))) fNil)))))) fNil)))) sNext) (sSeq (sIf (fAnd (fTest (fOp oEqD (fVar 5) (fC (.int 5)))) (fTest (fOp oGtD (fLenR 3) (fC (.int 1))))) (sSeq (sAsg (fLst (fCons (fPop 3) (fCons (fPop 3) fNil))) (aName 7)) (sSeq (sAsg (fCall fn__law_inner (fDeck 0 (fCons (fVar 1) (fCons (fVar 2) (fCons (fVar 7) fNil))))) (aName 8)) (sSeq (sAsg (fTup (fCons (fC (.str "column")) (fCons (fOp oIxD (fVar 7) (fC (.int 0))) (fCons (fOp oIxD (fOp oDGet (fOp oDGet (fVar 1) (fC (.str "columns"))) (fOp oIxD (fOp oIxD (fOp oIxD (fVar 8) (fC (.int 0))) (fC (.int 0))) (fC (.int 1)))) (fC (.int 0))) fNil)))) (aName 9)) (sSeq (sAsg (fLst (fCons (fTup (fCons (fC (.str "exists")) (fCons (fVar 8) fNil))) (fCons (fTup (fCons (fC (.str "same")) (fCons (fCall fn__law_column (fDeck 0 (fCons (fVar 1) (fCons (fVar 2) fNil)))) (fCons (fTup (fCons (fC (.str "only")) (fCons (fVar 8) (fCons (fVar 9) fNil)))) fNil)))) fNil))) (aName 10)) (sRet (fCall fn__law_pick (fDeck 0 (fCons (fOp oAddD (fVar 10) (fLst (fCons (fTup (fCons (fC (.str "is")) (fCons (fTup (fCons (fC (.str "first")) (fCons (fVar 8) (fCons (fVar 9) fNil)))) (fCons (fC (.str "number")) fNil)))) fNil))) fNil)))))))) sNext) (sRet (fCall fn__law_some_leaf (fDeck 0 (fCons (fVar 1) (fCons (fVar 2) (fCons (fC (.int 1)) fNil))))))))))
def fn__law_condition (fn__law_draw fn__law_some_leaf fn__law_inner fn__law_pick fn__law_column : Fn) : Nat → Fn
  | 0 => fun _ _ _ _ => False
  | n + 1 => fnb__law_condition fn__law_draw fn__law_some_leaf fn__law_inner fn__law_pick fn__law_column (fn__law_condition fn__law_draw fn__law_some_leaf fn__law_inner fn__law_pick fn__law_column n)
theorem sc__law_condition : FnScope ["_law_deck_here", "_law_world", "_law_refs", "_law_aliases", "_law_deep", "_law_way", "_law_one", "_law_own", "_law_inner_here", "_law_term", "_law_some"] ["_law_deck_here", "_law_world", "_law_refs", "_law_aliases", "_law_deep"] (defScope (top 21)) := ⟨rfl, rfl, rfl, by decide +kernel, rfl, by decide +kernel, by decide +kernel⟩
theorem ok__law_condition {fn__law_draw fn__law_some_leaf fn__law_inner fn__law_pick fn__law_column fn__law_condition : Fn} (l : Nat) (hl : 10 ≤ l) (F : FnP K "_law_condition" 21 f fd) (hS : ∃ o, base.get? sysModules = some o) (m_len : mg "len" = none) (c__law_draw : Cal P w K mg base 1 "_law_draw" ["_law_deck_here", "_law_many"] (spW K true false lay__law_draw fn__law_draw)) (c__law_some_leaf : Cal P w K mg base 8 "_law_some_leaf" ["_law_deck_here", "_law_world", "_law_refs", "_law_deep"] (spW K true false lay__law_some_leaf fn__law_some_leaf)) (c__law_inner : Cal P w K mg base 9 "_law_inner" ["_law_deck_here", "_law_world", "_law_refs", "_law_aliases"] (spW K true false lay__law_inner fn__law_inner)) (c__law_pick : Cal P w K mg base 2 "_law_pick" ["_law_deck_here", "_law_some"] (spW K true false lay__law_pick fn__law_pick)) (c__law_column : Cal P w K mg base 3 "_law_column" ["_law_deck_here", "_law_world", "_law_refs"] (spW K true false lay__law_column fn__law_column)) (c__law_condition : Cal P w K mg base l "_law_condition" ["_law_deck_here", "_law_world", "_law_refs", "_law_aliases", "_law_deep"] (spW K true true lay__law_condition fn__law_condition)) :
    FnG P w K mg base CX0 (l + 1) f fd ["_law_deck_here", "_law_world", "_law_refs", "_law_aliases", "_law_deep"] (spW K true true lay__law_condition (fnb__law_condition fn__law_draw fn__law_some_leaf fn__law_inner fn__law_pick fn__law_column fn__law_condition)) := by
  refine okD F sc__law_condition hS (fun vs H Q E h => spW_size vs H Q E h) (fun cdv A outer s H vs Q E R h => ?_)
  have nd := sc__law_condition.nd
  refine ⟨_, (pss_cons (ps_set (i := 5) nd rfl (Or.inl rfl) (cc c__law_draw R (pa_cons (pv 0) (pa_cons pe_int pa_nil)))) (pss_cons (ps_if (PW.pt (pw_and (pt_cmpR op_gt (pv 4) pe_int (by rfl)) (pw_and1 (pt_cmpR opLt (pv 5) pe_int (by rfl))))) (pss_cons (ps_set (i := 6) nd rfl (Or.inl rfl) (cc c__law_condition R (pa_cons (pv 0) (pa_cons (pv 1) (pa_cons (pv 2) (pa_cons (pv 3) (pa_cons (pe_op op_sub (pv 4) pe_int) pa_nil))))))) (pss_one (ps_ret (pe_tup (pa_cons (pe_ix (ixAnyW K rfl) (pe_lst (pa_cons pe_str (pa_cons pe_str (pa_cons pe_str (pa_cons pe_str pa_nil))))) (pv 5) (fun _ _ => rfl)) (pa_cons (pv 6) (pa_cons (cc c__law_condition R (pa_cons (pv 0) (pa_cons (pv 1) (pa_cons (pv 2) (pa_cons (pv 3) (pa_cons (pe_op op_sub (pv 4) pe_int) pa_nil)))))) pa_nil))))))) pss_nil) (pss_cons (ps_if (PW.pt (pw_and (pt_cmpR op_gt (pv 4) pe_int (by rfl)) (pw_and1 (pt_cmpR op_eq (pv 5) pe_int (by rfl))))) (pss_one (ps_ret (pe_tup (pa_cons pe_str (pa_cons (cc c__law_condition R (pa_cons (pv 0) (pa_cons (pv 1) (pa_cons (pv 2) (pa_cons (pv 3) (pa_cons (pe_op op_sub (pv 4) pe_int) pa_nil)))))) pa_nil))))) pss_nil) (pss_cons (ps_if (PW.pt (pw_and (pt_cmpR op_eq (pv 5) pe_int (by rfl)) (pw_and1 (pt_cmpR op_gt (pe_callB (calK (r := rLenA) K rfl call_lenA) rfl m_len bt_len (pa_cons (pv 3) pa_nil)) pe_int (by rfl))))) (pss_cons (ps_set (i := 7) nd rfl (Or.inl rfl) (pe_lst (pa_cons (pe_bm0W K rfl PySem.F.plainAttrs_list PySem.F.slot_list_pop PySem.F.type_list_pop mt_pop (pv 3)) (pa_cons (pe_bm0W K rfl PySem.F.plainAttrs_list PySem.F.slot_list_pop PySem.F.type_list_pop mt_pop (pv 3)) pa_nil)))) (pss_cons (ps_set (i := 8) nd rfl (Or.inl rfl) (cc c__law_inner R (pa_cons (pv 0) (pa_cons (pv 1) (pa_cons (pv 2) (pa_cons (pv 7) pa_nil)))))) (pss_cons (ps_set (i := 9) nd rfl (Or.inl rfl) (pe_tup (pa_cons pe_str (pa_cons (pe_ix (ixAnyW K rfl) (pv 7) pe_int (fun _ _ => rfl)) (pa_cons (pe_ix (ixAnyW K rfl) (pe_dget (hu_of R.room) (pe_dget (hu_of R.room) (pv 1) pe_str (fun _ _ => rfl)) (pe_ix (ixAnyW K rfl) (pe_ix (ixAnyW K rfl) (pe_ix (ixAnyW K rfl) (pv 8) pe_int (fun _ _ => rfl)) pe_int (fun _ _ => rfl)) pe_int (fun _ _ => rfl)) (fun _ _ => rfl)) pe_int (fun _ _ => rfl)) pa_nil))))) (pss_cons (ps_set (i := 10) nd rfl (Or.inl rfl) (pe_lst (pa_cons (pe_tup (pa_cons pe_str (pa_cons (pv 8) pa_nil))) (pa_cons (pe_tup (pa_cons pe_str (pa_cons (cc c__law_column R (pa_cons (pv 0) (pa_cons (pv 1) (pa_cons (pv 2) pa_nil)))) (pa_cons (pe_tup (pa_cons pe_str (pa_cons (pv 8) (pa_cons (pv 9) pa_nil)))) pa_nil)))) pa_nil)))) (pss_one (ps_ret (cc c__law_pick R (pa_cons (pv 0) (pa_cons (pe_op (opAddW K rfl) (pv 10) (pe_lst (pa_cons (pe_tup (pa_cons pe_str (pa_cons (pe_tup (pa_cons pe_str (pa_cons (pv 8) (pa_cons (pv 9) pa_nil)))) (pa_cons pe_str pa_nil)))) pa_nil))) pa_nil))))))))) pss_nil) (pss_one (ps_ret (cc c__law_some_leaf R (pa_cons (pv 0) (pa_cons (pv 1) (pa_cons (pv 2) (pa_cons pe_int pa_nil))))))))))), ?r⟩
  case r => exact fn_run (ss_seq (ss_asg (se_call (ir := 0) (sal_deck (i := 0) (sal_dat se_int sal_nil))) sg_name) (ss_seq (ss_if (st_and (st_test (se_op os_gt (se_var (i := 4)) se_int)) (st_test (se_op os_lt (se_var (i := 5)) se_int))) (ss_seq (ss_asg (se_callR (dk := true) (ir := 3) (sal_deck (i := 0) (sal_dat (se_var (i := 1)) (sal_dat (se_var (i := 2)) (sal_reg (sal_dat (se_op os_sub (se_var (i := 4)) se_int) sal_nil)))))) sg_name) (ss_ret (se_tup (sa_cons (se_op os_ix (se_lst (sa_cons se_str (sa_cons se_str (sa_cons se_str (sa_cons se_str sa_nil))))) (se_var (i := 5))) (sa_cons (se_var (i := 6)) (sa_cons (se_callR (dk := true) (ir := 3) (sal_deck (i := 0) (sal_dat (se_var (i := 1)) (sal_dat (se_var (i := 2)) (sal_reg (sal_dat (se_op os_sub (se_var (i := 4)) se_int) sal_nil)))))) sa_nil)))))) ss_next) (ss_seq (ss_if (st_and (st_test (se_op os_gt (se_var (i := 4)) se_int)) (st_test (se_op os_eq (se_var (i := 5)) se_int))) (ss_ret (se_tup (sa_cons se_str (sa_cons (se_callR (dk := true) (ir := 3) (sal_deck (i := 0) (sal_dat (se_var (i := 1)) (sal_dat (se_var (i := 2)) (sal_reg (sal_dat (se_op os_sub (se_var (i := 4)) se_int) sal_nil)))))) sa_nil)))) ss_next) (ss_seq (ss_if (st_and (st_test (se_op os_eq (se_var (i := 5)) se_int)) (st_test (se_op os_gt (se_lenR (i := 3)) se_int))) (ss_seq (ss_asg (se_lst (sa_cons (se_pop (i := 3)) (sa_cons (se_pop (i := 3)) sa_nil))) sg_name) (ss_seq (ss_asg (se_call (ir := 0) (sal_deck (i := 0) (sal_dat (se_var (i := 1)) (sal_dat (se_var (i := 2)) (sal_dat (se_var (i := 7)) sal_nil))))) sg_name) (ss_seq (ss_asg (se_tup (sa_cons se_str (sa_cons (se_op os_ix (se_var (i := 7)) se_int) (sa_cons (se_op os_ix (se_dget (se_dget (se_var (i := 1)) se_str) (se_op os_ix (se_op os_ix (se_op os_ix (se_var (i := 8)) se_int) se_int) se_int)) se_int) sa_nil)))) sg_name) (ss_seq (ss_asg (se_lst (sa_cons (se_tup (sa_cons se_str (sa_cons (se_var (i := 8)) sa_nil))) (sa_cons (se_tup (sa_cons se_str (sa_cons (se_call (ir := 0) (sal_deck (i := 0) (sal_dat (se_var (i := 1)) (sal_dat (se_var (i := 2)) sal_nil)))) (sa_cons (se_tup (sa_cons se_str (sa_cons (se_var (i := 8)) (sa_cons (se_var (i := 9)) sa_nil)))) sa_nil)))) sa_nil))) sg_name) (ss_ret (se_call (ir := 0) (sal_deck (i := 0) (sal_dat (se_op os_add (se_var (i := 10)) (se_lst (sa_cons (se_tup (sa_cons se_str (sa_cons (se_tup (sa_cons se_str (sa_cons (se_var (i := 8)) (sa_cons (se_var (i := 9)) sa_nil)))) (sa_cons se_str sa_nil)))) sa_nil))) sal_nil)))))))) ss_next) (ss_ret (se_call (ir := 0) (sal_deck (i := 0) (sal_dat (se_var (i := 1)) (sal_dat (se_var (i := 2)) (sal_dat se_int sal_nil)))))))))) rfl (by decide) (by decide) h
def lay__law_drawn : List PK := [.deck, .dat, .dat, .dat]
def fn__law_drawn (fn__law_condition fn__law_pick fn__law_draw fn__law_some_term fn__law_column : Fn) : Fn := fnOf false lay__law_drawn 6 (sSeq (sNew 4 (lListOf (fVar 2))) (sSeq (sAsg (fUn oTupD (fLst (fLc (iRange1 (fCons (fOp oAddD (fC (.int 1)) (fCall fn__law_draw (fDeck 0 (fCons (fVar 3) fNil)))) fNil)) (aName 9) bYes (fTup (fCons (fPop 4) (fCons (fOp oIxD (fCall fn__law_pick (fDeck 0 (fCons (fOp oDGet (fVar 1) (fC (.str "tables"))) fNil))) (fC (.int 0))) fNil))) [9]))) (aName 5)) (sSeq (sAsg (fIf (fTest (fOp oGtD (fCall fn__law_draw (fDeck 0 (fCons (fC (.int 8)) fNil))) (fC (.int 0)))) (fCallR fn__law_condition 4 (fDeck 0 (fCons (fVar 1) (fCons (fVar 5) (fReg 4 (fCons (fC (.int 2)) fNil)))))) (fC .none)) (aName 6)) (sSeq (sAsg (fUn oTupD (fLst (fLc (iRange1 (fCons (fOp oAddD (fC (.int 1)) (fCall fn__law_draw (fDeck 0 (fCons (fC (.int 2)) fNil)))) fNil)) (aName 9) bYes (fCall fn__law_some_term (fDeck 0 (fCons (fVar 1) (fCons (fVar 5) (fCons (fC (.int 1)) fNil))))) [9]))) (aName 7)) (sSeq (sAsg (fUn oTupD (fLst (fLc (iRange1 (fCons (fOp oIxD (fLst (fCons (fC (.int 0)) (fCons (fC (.int 0)) (fCons (fC (.int 0)) (fCons (fC (.int 1)) (fCons (fC (.int 2)) fNil)))))) (fCall fn__law_draw (fDeck 0 (fCons (fC (.int 5)) fNil)))) fNil)) (aName 9) bYes (fCall fn__law_column (fDeck 0 (fCons (fVar 1) (fCons (fVar 5) fNil)))) [9]))) (aName 8)) (sRet (fTup (fCons (fVar 5) (fCons (fVar 6) (fCons (fVar 7) (fCons (fVar 8) (fCons (fCall fn__law_pick (fDeck 0 (fCons (fLst (fCons (fC .none) (fCons (fC .none) (fCons (fC (.int 0)) (fCons (fC (.int 1)) (fCons (fC (.int 2)) (fCons (fC (.int 5)) fNil))))))) fNil))) fNil))))))))))))
theorem sc__law_drawn : FnScope ["_law_deck_here", "_law_world", "_law_names_here", "_law_most", "_law_pool", "_law_refs", "_law_where", "_law_heard", "_law_order", "_law_k"] ["_law_deck_here", "_law_world", "_law_names_here", "_law_most"] (defScope (top 22)) := ⟨rfl, rfl, rfl, by decide +kernel, rfl, by decide +kernel, by decide +kernel⟩
theorem ok__law_drawn {fn__law_condition fn__law_pick fn__law_draw fn__law_some_term fn__law_column : Fn} (F : FnP K "_law_drawn" 22 f fd) (hS : ∃ o, base.get? sysModules = some o) (m_tuple : mg "tuple" = none) (m_list : mg "list" = none) (m_range : mg "range" = none) (c__law_condition : Cal P w K mg base 13 "_law_condition" ["_law_deck_here", "_law_world", "_law_refs", "_law_aliases", "_law_deep"] (spW K true true lay__law_condition fn__law_condition)) (c__law_pick : Cal P w K mg base 2 "_law_pick" ["_law_deck_here", "_law_some"] (spW K true false lay__law_pick fn__law_pick)) (c__law_draw : Cal P w K mg base 1 "_law_draw" ["_law_deck_here", "_law_many"] (spW K true false lay__law_draw fn__law_draw)) (c__law_some_term : Cal P w K mg base 7 "_law_some_term" ["_law_deck_here", "_law_world", "_law_refs", "_law_deep"] (spW K true false lay__law_some_term fn__law_some_term)) (c__law_column : Cal P w K mg base 3 "_law_column" ["_law_deck_here", "_law_world", "_law_refs"] (spW K true false lay__law_column fn__law_column)) :
    FnG P w K mg base CX0 14 f fd ["_law_deck_here", "_law_world", "_law_names_here", "_law_most"] (spW K true false lay__law_drawn (fn__law_drawn fn__law_condition fn__law_pick fn__law_draw fn__law_some_term fn__law_column)) := by
  refine okD F sc__law_drawn hS (fun vs H Q E h => spW_size vs H Q E h) (fun cdv A outer s H vs Q E R h => ?_)
  have nd := sc__law_drawn.nd
  refine ⟨_, (pss_cons (ps_set (i := 4) nd rfl (Or.inr rfl) (pe_callTy (calTK (r := rListOf) K rfl call_list_of) rfl m_list bt_list (pa_cons (pv 2) pa_nil))) (pss_cons (ps_set (i := 5) nd rfl (Or.inr rfl) (pe_tupW K rfl rfl m_tuple (pe_lc (own := [("_law_k", 9)]) rfl nd (pi_range1 rfl m_range (pa_cons (pe_op (opAddW K rfl) pe_int (cc c__law_draw R (pa_cons (pv 0) (pa_cons (pv 3) pa_nil)))) pa_nil)) (blkOk_by (by kernel_rfl)) (fun _ _ _ _ _ => (pg_name (i := 9) nd rfl (Or.inl rfl))) (fun _ _ _ _ _ => pts_nil) (fun _ _ _ _ _ => (pe_tup (pa_cons (pe_bm0W K rfl PySem.F.plainAttrs_list PySem.F.slot_list_pop PySem.F.type_list_pop mt_pop (pv 4)) (pa_cons (pe_ix (ixAnyW K rfl) (cc c__law_pick (R.blk _ _ _ _ _) (pa_cons (pv 0) (pa_cons (pe_dget (hu_of (R.blk _ _ _ _ _).room) (pv 1) pe_str (fun _ _ => rfl)) pa_nil))) pe_int (fun _ _ => rfl)) pa_nil))))))) (pss_cons (ps_set (i := 6) nd rfl (Or.inl rfl) (pe_ifExp (pt_cmpR op_gt (cc c__law_draw R (pa_cons (pv 0) (pa_cons pe_int pa_nil))) pe_int (by rfl)) (cc c__law_condition R (pa_cons (pv 0) (pa_cons (pv 1) (pa_cons (pv 5) (pa_cons (pv 4) (pa_cons pe_int pa_nil)))))) pe_non)) (pss_cons (ps_set (i := 7) nd rfl (Or.inl rfl) (pe_tupW K rfl rfl m_tuple (pe_lc (own := [("_law_k", 9)]) rfl nd (pi_range1 rfl m_range (pa_cons (pe_op (opAddW K rfl) pe_int (cc c__law_draw R (pa_cons (pv 0) (pa_cons pe_int pa_nil)))) pa_nil)) (blkOk_by (by kernel_rfl)) (fun _ _ _ _ _ => (pg_name (i := 9) nd rfl (Or.inl rfl))) (fun _ _ _ _ _ => pts_nil) (fun _ _ _ _ _ => (cc c__law_some_term (R.blk _ _ _ _ _) (pa_cons (pv 0) (pa_cons (pv 1) (pa_cons (pv 5) (pa_cons pe_int pa_nil))))))))) (pss_cons (ps_set (i := 8) nd rfl (Or.inl rfl) (pe_tupW K rfl rfl m_tuple (pe_lc (own := [("_law_k", 9)]) rfl nd (pi_range1 rfl m_range (pa_cons (pe_ix (ixAnyW K rfl) (pe_lst (pa_cons pe_int (pa_cons pe_int (pa_cons pe_int (pa_cons pe_int (pa_cons pe_int pa_nil)))))) (cc c__law_draw R (pa_cons (pv 0) (pa_cons pe_int pa_nil))) (fun _ _ => rfl)) pa_nil)) (blkOk_by (by kernel_rfl)) (fun _ _ _ _ _ => (pg_name (i := 9) nd rfl (Or.inl rfl))) (fun _ _ _ _ _ => pts_nil) (fun _ _ _ _ _ => (cc c__law_column (R.blk _ _ _ _ _) (pa_cons (pv 0) (pa_cons (pv 1) (pa_cons (pv 5) pa_nil)))))))) (pss_one (ps_ret (pe_tup (pa_cons (pv 5) (pa_cons (pv 6) (pa_cons (pv 7) (pa_cons (pv 8) (pa_cons (cc c__law_pick R (pa_cons (pv 0) (pa_cons (pe_lst (pa_cons pe_non (pa_cons pe_non (pa_cons pe_int (pa_cons pe_int (pa_cons pe_int (pa_cons pe_int pa_nil))))))) pa_nil))) pa_nil))))))))))))), ?r⟩
  case r => exact fn_run (ss_seq (ss_new (sl_listOf (se_var (i := 2)))) (ss_seq (ss_asg (se_then us_tup (SL.se (sl_lc (vs := [9]) (si_range1 (sa_cons (se_op os_add se_int (se_call (ir := 0) (sal_deck (i := 0) (sal_dat (se_var (i := 3)) sal_nil)))) sa_nil)) (sg_name (i := 9)) (gin_name (by decide)) st_yes (se_tup (sa_cons (se_pop (i := 4)) (sa_cons (se_op os_ix (se_call (ir := 0) (sal_deck (i := 0) (sal_dat (se_dget (se_var (i := 1)) se_str) sal_nil))) se_int) sa_nil)))))) sg_name) (ss_seq (ss_asg (se_if (st_test (se_op os_gt (se_call (ir := 0) (sal_deck (i := 0) (sal_dat se_int sal_nil))) se_int)) (se_callR (dk := true) (ir := 4) (sal_deck (i := 0) (sal_dat (se_var (i := 1)) (sal_dat (se_var (i := 5)) (sal_reg (sal_dat se_int sal_nil)))))) se_non) sg_name) (ss_seq (ss_asg (se_then us_tup (SL.se (sl_lc (vs := [9]) (si_range1 (sa_cons (se_op os_add se_int (se_call (ir := 0) (sal_deck (i := 0) (sal_dat se_int sal_nil)))) sa_nil)) (sg_name (i := 9)) (gin_name (by decide)) st_yes (se_call (ir := 0) (sal_deck (i := 0) (sal_dat (se_var (i := 1)) (sal_dat (se_var (i := 5)) (sal_dat se_int sal_nil)))))))) sg_name) (ss_seq (ss_asg (se_then us_tup (SL.se (sl_lc (vs := [9]) (si_range1 (sa_cons (se_op os_ix (se_lst (sa_cons se_int (sa_cons se_int (sa_cons se_int (sa_cons se_int (sa_cons se_int sa_nil)))))) (se_call (ir := 0) (sal_deck (i := 0) (sal_dat se_int sal_nil)))) sa_nil)) (sg_name (i := 9)) (gin_name (by decide)) st_yes (se_call (ir := 0) (sal_deck (i := 0) (sal_dat (se_var (i := 1)) (sal_dat (se_var (i := 5)) sal_nil))))))) sg_name) (ss_ret (se_tup (sa_cons (se_var (i := 5)) (sa_cons (se_var (i := 6)) (sa_cons (se_var (i := 7)) (sa_cons (se_var (i := 8)) (sa_cons (se_call (ir := 0) (sal_deck (i := 0) (sal_dat (se_lst (sa_cons se_non (sa_cons se_non (sa_cons se_int (sa_cons se_int (sa_cons se_int (sa_cons se_int sa_nil))))))) sal_nil))) sa_nil)))))))))))) rfl (by decide) (by decide) h
end
end K21
end

/-! K21e -/
section
set_option autoImplicit false
open PySem PySem.Spec PyProof.Rows L2 FA FW
namespace K21
section
variable {P : Program} {w : World} {K : PySem.W.Frag} {mg : Str → Option Value} {base : Heap} {f : Addr} {fd : FuncData}
def lay__law_below : List PK := [.dat]
def fn__law_below : Fn := fnOf false lay__law_below 0 (sSeq (sIf (fTest (fOp (oInD false) (fOp oIxD (fVar 0) (fC (.int 0))) (fTup (fCons (fC (.str "column")) (fCons (fC (.str "value")) fNil))))) (sRet (fLst fNil)) sNext) (sSeq (sIf (fTest (fOp (oInD false) (fOp oIxD (fVar 0) (fC (.int 0))) (fTup (fCons (fC (.str "plus")) (fCons (fC (.str "is")) (fCons (fC (.str "not")) fNil)))))) (sRet (fLst (fCons (fTup (fCons (fTup (fCons (fC (.int 1)) fNil)) (fCons (fOp oIxD (fVar 0) (fC (.int 1))) fNil))) fNil))) sNext) (sSeq (sIf (fTest (fOp oEqD (fOp oIxD (fVar 0) (fC (.int 0))) (fC (.str "exists")))) (sRet (fLst (fCons (fTup (fCons (fTup (fCons (fC (.int 1)) (fCons (fC (.int 1)) fNil))) (fCons (fOp oIxD (fOp oIxD (fVar 0) (fC (.int 1))) (fC (.int 1))) fNil))) fNil))) sNext) (sSeq (sIf (fTest (fOp (oInD false) (fOp oIxD (fVar 0) (fC (.int 0))) (fTup (fCons (fC (.str "only")) (fCons (fC (.str "first")) fNil))))) (sRet (fLst (fCons (fTup (fCons (fTup (fCons (fC (.int 1)) (fCons (fC (.int 1)) fNil))) (fCons (fOp oIxD (fOp oIxD (fVar 0) (fC (.int 1))) (fC (.int 1))) fNil))) (fCons (fTup (fCons (fTup (fCons (fC (.int 2)) fNil)) (fCons (fOp oIxD (fVar 0) (fC (.int 2))) fNil))) fNil)))) sNext) (sRet (fLst (fCons (fTup (fCons (fTup (fCons (fC (.int 1)) fNil)) (fCons (fOp oIxD (fVar 0) (fC (.int 1))) fNil))) (fCons (fTup (fCons (fTup (fCons (fC (.int 2)) fNil)) (fCons (fOp oIxD (fVar 0) (fC (.int 2))) fNil))) fNil))))))))
theorem sc__law_below : FnScope ["_law_part"] ["_law_part"] (defScope (top 23)) := ⟨rfl, rfl, rfl, by decide +kernel, rfl, by decide +kernel, by decide +kernel⟩
theorem ok__law_below (F : FnP K "_law_below" 23 f fd) (hS : ∃ o, base.get? sysModules = some o)   :
    FnG P w K mg base CX0 1 f fd ["_law_part"] (spW K false false lay__law_below (fn__law_below)) := by
  refine okD F sc__law_below hS (fun vs H Q E h => spW_size vs H Q E h) (fun cdv A outer s H vs Q E R h => ?_)
  have nd := sc__law_below.nd
  refine ⟨_, (pss_cons (ps_if (pt_cmpR (oprK (r := fun K => rIn K false) K rfl op_in_seq) (pe_ix (ixAnyW K rfl) (pv 0) pe_int (fun _ _ => rfl)) (pe_tup (pa_cons pe_str (pa_cons pe_str pa_nil))) (by rfl)) (pss_one (ps_ret (pe_lst pa_nil))) pss_nil) (pss_cons (ps_if (pt_cmpR (oprK (r := fun K => rIn K false) K rfl op_in_seq) (pe_ix (ixAnyW K rfl) (pv 0) pe_int (fun _ _ => rfl)) (pe_tup (pa_cons pe_str (pa_cons pe_str (pa_cons pe_str pa_nil)))) (by rfl)) (pss_one (ps_ret (pe_lst (pa_cons (pe_tup (pa_cons (pe_tup (pa_cons pe_int pa_nil)) (pa_cons (pe_ix (ixAnyW K rfl) (pv 0) pe_int (fun _ _ => rfl)) pa_nil))) pa_nil)))) pss_nil) (pss_cons (ps_if (pt_cmpR op_eq (pe_ix (ixAnyW K rfl) (pv 0) pe_int (fun _ _ => rfl)) pe_str (by rfl)) (pss_one (ps_ret (pe_lst (pa_cons (pe_tup (pa_cons (pe_tup (pa_cons pe_int (pa_cons pe_int pa_nil))) (pa_cons (pe_ix (ixAnyW K rfl) (pe_ix (ixAnyW K rfl) (pv 0) pe_int (fun _ _ => rfl)) pe_int (fun _ _ => rfl)) pa_nil))) pa_nil)))) pss_nil) (pss_cons (ps_if (pt_cmpR (oprK (r := fun K => rIn K false) K rfl op_in_seq) (pe_ix (ixAnyW K rfl) (pv 0) pe_int (fun _ _ => rfl)) (pe_tup (pa_cons pe_str (pa_cons pe_str pa_nil))) (by rfl)) (pss_one (ps_ret (pe_lst (pa_cons (pe_tup (pa_cons (pe_tup (pa_cons pe_int (pa_cons pe_int pa_nil))) (pa_cons (pe_ix (ixAnyW K rfl) (pe_ix (ixAnyW K rfl) (pv 0) pe_int (fun _ _ => rfl)) pe_int (fun _ _ => rfl)) pa_nil))) (pa_cons (pe_tup (pa_cons (pe_tup (pa_cons pe_int pa_nil)) (pa_cons (pe_ix (ixAnyW K rfl) (pv 0) pe_int (fun _ _ => rfl)) pa_nil))) pa_nil))))) pss_nil) (pss_one (ps_ret (pe_lst (pa_cons (pe_tup (pa_cons (pe_tup (pa_cons pe_int pa_nil)) (pa_cons (pe_ix (ixAnyW K rfl) (pv 0) pe_int (fun _ _ => rfl)) pa_nil))) (pa_cons (pe_tup (pa_cons (pe_tup (pa_cons pe_int pa_nil)) (pa_cons (pe_ix (ixAnyW K rfl) (pv 0) pe_int (fun _ _ => rfl)) pa_nil))) pa_nil))))))))), ?r⟩
  case r => exact fn_run (ss_seq (ss_if (st_test (se_op (os_in false) (se_op os_ix (se_var (i := 0)) se_int) (se_tup (sa_cons se_str (sa_cons se_str sa_nil))))) (ss_ret (se_lst sa_nil)) ss_next) (ss_seq (ss_if (st_test (se_op (os_in false) (se_op os_ix (se_var (i := 0)) se_int) (se_tup (sa_cons se_str (sa_cons se_str (sa_cons se_str sa_nil)))))) (ss_ret (se_lst (sa_cons (se_tup (sa_cons (se_tup (sa_cons se_int sa_nil)) (sa_cons (se_op os_ix (se_var (i := 0)) se_int) sa_nil))) sa_nil))) ss_next) (ss_seq (ss_if (st_test (se_op os_eq (se_op os_ix (se_var (i := 0)) se_int) se_str)) (ss_ret (se_lst (sa_cons (se_tup (sa_cons (se_tup (sa_cons se_int (sa_cons se_int sa_nil))) (sa_cons (se_op os_ix (se_op os_ix (se_var (i := 0)) se_int) se_int) sa_nil))) sa_nil))) ss_next) (ss_seq (ss_if (st_test (se_op (os_in false) (se_op os_ix (se_var (i := 0)) se_int) (se_tup (sa_cons se_str (sa_cons se_str sa_nil))))) (ss_ret (se_lst (sa_cons (se_tup (sa_cons (se_tup (sa_cons se_int (sa_cons se_int sa_nil))) (sa_cons (se_op os_ix (se_op os_ix (se_var (i := 0)) se_int) se_int) sa_nil))) (sa_cons (se_tup (sa_cons (se_tup (sa_cons se_int sa_nil)) (sa_cons (se_op os_ix (se_var (i := 0)) se_int) sa_nil))) sa_nil)))) ss_next) (ss_ret (se_lst (sa_cons (se_tup (sa_cons (se_tup (sa_cons se_int sa_nil)) (sa_cons (se_op os_ix (se_var (i := 0)) se_int) sa_nil))) (sa_cons (se_tup (sa_cons (se_tup (sa_cons se_int sa_nil)) (sa_cons (se_op os_ix (se_var (i := 0)) se_int) sa_nil))) sa_nil)))))))) rfl (by decide) (by decide) h
def lay__law_all : List PK := [.dat, .dat]
def fnb__law_all (fn__law_below : Fn) (fn__law_all : Fn) : Fn := fnOf false lay__law_all 3 (sSeq (sAsg (fLst (fCons (fTup (fCons (fVar 1) (fCons (fVar 0) fNil))) fNil)) (aName 2)) (sSeq (sFor (iListD (fCall0 fn__law_below (fCons (fVar 0) fNil))) (aTup [(aName 3), (aName 4)]) (sAsg (fOp oAddD (fVar 2) (fCall0 fn__law_all (fCons (fVar 4) (fCons (fOp oAddD (fVar 1) (fVar 3)) fNil)))) (aName 2))) (sRet (fVar 2))))
def fn__law_all (fn__law_below : Fn) : Nat → Fn
  | 0 => fun _ _ _ _ => False
  | n + 1 => fnb__law_all fn__law_below (fn__law_all fn__law_below n)
theorem sc__law_all : FnScope ["_law_part", "_law_lead", "_law_found", "_law_more", "_law_one"] ["_law_part", "_law_lead"] (defScope (top 24)) := ⟨rfl, rfl, rfl, by decide +kernel, rfl, by decide +kernel, by decide +kernel⟩
theorem ok__law_all {fn__law_below fn__law_all : Fn} (l : Nat) (hl : 1 ≤ l) (F : FnP K "_law_all" 24 f fd) (hS : ∃ o, base.get? sysModules = some o)  (c__law_below : Cal P w K mg base 1 "_law_below" ["_law_part"] (spW K false false lay__law_below fn__law_below)) (c__law_all : Cal P w K mg base l "_law_all" ["_law_part", "_law_lead"] (spW K false false lay__law_all fn__law_all)) :
    FnG P w K mg base CX0 (l + 1) f fd ["_law_part", "_law_lead"] (spW K false false lay__law_all (fnb__law_all fn__law_below fn__law_all)) := by
  refine okD F sc__law_all hS (fun vs H Q E h => spW_size vs H Q E h) (fun cdv A outer s H vs Q E R h => ?_)
  have nd := sc__law_all.nd
  refine ⟨_, (pss_cons (ps_set (i := 2) nd rfl (Or.inl rfl) (pe_lst (pa_cons (pe_tup (pa_cons (pv 1) (pa_cons (pv 0) pa_nil))) pa_nil))) (pss_cons (ps_for PassesOwn.never rfl (pi_listW K rfl (cc c__law_below R (pa_cons (pv 0) pa_nil))) (pg_tupW (n := 2) K rfl rfl (pgs_cons (pg_name (i := 3) nd rfl (Or.inl rfl)) (pgs_cons (pg_name (i := 4) nd rfl (Or.inl rfl)) pgs_nil))) (pss_one (ps_set (i := 2) nd rfl (Or.inl rfl) (pe_op (opAddW K rfl) (pv 2) (cc c__law_all R (pa_cons (pv 4) (pa_cons (pe_op (opAddW K rfl) (pv 1) (pv 3)) pa_nil))))))) (pss_one (ps_ret (pv 2))))), ?r⟩
  case r => exact fn_run (ss_seq (ss_asg (se_lst (sa_cons (se_tup (sa_cons (se_var (i := 1)) (sa_cons (se_var (i := 0)) sa_nil))) sa_nil)) sg_name) (ss_seq (ss_for (si_list (se_call0 (ir := 0) (sal_dat (se_var (i := 0)) sal_nil))) (sg_tup rfl (sgs_cons (sg_name (i := 3)) (sgs_cons (sg_name (i := 4)) sgs_nil))) (ss_asg (se_op os_add (se_var (i := 2)) (se_call0 (ir := 0) (sal_dat (se_var (i := 4)) (sal_dat (se_op os_add (se_var (i := 1)) (se_var (i := 3))) sal_nil)))) sg_name)) (ss_ret (se_var (i := 2))))) rfl (by decide) (by decide) h
def lay__law_every : List PK := [.dat]
def fn__law_every (fn__law_all : Fn) : Fn := fnOf false lay__law_every 3 (sSeq (sAsg (fIf (fTest (fOp oIsN (fOp oIxD (fVar 0) (fC (.int 1))) (fC .none))) (fLst fNil) (fCall0 fn__law_all (fCons (fOp oIxD (fVar 0) (fC (.int 1))) (fCons (fTup (fCons (fC (.int 1)) fNil)) fNil)))) (aName 1)) (sSeq (sFor (iEnumD (fCons (fOp oIxD (fVar 0) (fC (.int 2))) fNil)) (aTup [(aName 2), (aName 3)]) (sAsg (fOp oAddD (fVar 1) (fCall0 fn__law_all (fCons (fVar 3) (fCons (fTup (fCons (fC (.int 2)) (fCons (fVar 2) fNil))) fNil)))) (aName 1))) (sRet (fVar 1))))
theorem sc__law_every : FnScope ["_law_asked", "_law_found", "_law_k", "_law_term"] ["_law_asked"] (defScope (top 25)) := ⟨rfl, rfl, rfl, by decide +kernel, rfl, by decide +kernel, by decide +kernel⟩
theorem ok__law_every {fn__law_all : Fn} (F : FnP K "_law_every" 25 f fd) (hS : ∃ o, base.get? sysModules = some o) (m_enumerate : mg "enumerate" = none) (c__law_all : Cal P w K mg base 21 "_law_all" ["_law_part", "_law_lead"] (spW K false false lay__law_all fn__law_all)) :
    FnG P w K mg base CX0 22 f fd ["_law_asked"] (spW K false false lay__law_every (fn__law_every fn__law_all)) := by
  refine okD F sc__law_every hS (fun vs H Q E h => spW_size vs H Q E h) (fun cdv A outer s H vs Q E R h => ?_)
  have nd := sc__law_every.nd
  refine ⟨_, (pss_cons (ps_set (i := 1) nd rfl (Or.inl rfl) (pe_ifExp (pt_cmpR op_isN (pe_ix (ixAnyW K rfl) (pv 0) pe_int (fun _ _ => rfl)) pe_non (by rfl)) (pe_lst pa_nil) (cc c__law_all R (pa_cons (pe_ix (ixAnyW K rfl) (pv 0) pe_int (fun _ _ => rfl)) (pa_cons (pe_tup (pa_cons pe_int pa_nil)) pa_nil))))) (pss_cons (ps_for PassesOwn.never rfl (pi_enumW K rfl rfl m_enumerate (pa_cons (pe_ix (ixAnyW K rfl) (pv 0) pe_int (fun _ _ => rfl)) pa_nil)) (pg_tupW (n := 2) K rfl rfl (pgs_cons (pg_name (i := 2) nd rfl (Or.inl rfl)) (pgs_cons (pg_name (i := 3) nd rfl (Or.inl rfl)) pgs_nil))) (pss_one (ps_set (i := 1) nd rfl (Or.inl rfl) (pe_op (opAddW K rfl) (pv 1) (cc c__law_all R (pa_cons (pv 3) (pa_cons (pe_tup (pa_cons pe_int (pa_cons (pv 2) pa_nil))) pa_nil))))))) (pss_one (ps_ret (pv 1))))), ?r⟩
  case r => exact fn_run (ss_seq (ss_asg (se_if (st_test (se_op os_isN (se_op os_ix (se_var (i := 0)) se_int) se_non)) (se_lst sa_nil) (se_call0 (ir := 0) (sal_dat (se_op os_ix (se_var (i := 0)) se_int) (sal_dat (se_tup (sa_cons se_int sa_nil)) sal_nil)))) sg_name) (ss_seq (ss_for (si_enum (sa_cons (se_op os_ix (se_var (i := 0)) se_int) sa_nil)) (sg_tup rfl (sgs_cons (sg_name (i := 2)) (sgs_cons (sg_name (i := 3)) sgs_nil))) (ss_asg (se_op os_add (se_var (i := 1)) (se_call0 (ir := 0) (sal_dat (se_var (i := 3)) (sal_dat (se_tup (sa_cons se_int (sa_cons (se_var (i := 2)) sa_nil))) sal_nil)))) sg_name)) (ss_ret (se_var (i := 1))))) rfl (by decide) (by decide) h
def lay__law_leaves : List PK := [.dat, .dat]
def fnb__law_leaves (fn__law_leaves : Fn) : Fn := fnOf false lay__law_leaves 0 (sSeq (sIf (fTest (fOp oEqD (fOp oIxD (fVar 0) (fC (.int 0))) (fC (.str "not")))) (sRet (fCall0 fn__law_leaves (fCons (fOp oIxD (fVar 0) (fC (.int 1))) (fCons (fOp oAddD (fVar 1) (fTup (fCons (fC (.int 1)) fNil))) fNil)))) sNext) (sSeq (sIf (fTest (fOp (oInD false) (fOp oIxD (fVar 0) (fC (.int 0))) (fTup (fCons (fC (.str "and")) (fCons (fC (.str "or")) fNil))))) (sRet (fOp oAddD (fCall0 fn__law_leaves (fCons (fOp oIxD (fVar 0) (fC (.int 1))) (fCons (fOp oAddD (fVar 1) (fTup (fCons (fC (.int 1)) fNil))) fNil))) (fCall0 fn__law_leaves (fCons (fOp oIxD (fVar 0) (fC (.int 2))) (fCons (fOp oAddD (fVar 1) (fTup (fCons (fC (.int 2)) fNil))) fNil))))) sNext) (sRet (fLst (fCons (fVar 1) fNil)))))
def fn__law_leaves : Nat → Fn
  | 0 => fun _ _ _ _ => False
  | n + 1 => fnb__law_leaves (fn__law_leaves n)
theorem sc__law_leaves : FnScope ["_law_condition_here", "_law_lead"] ["_law_condition_here", "_law_lead"] (defScope (top 26)) := ⟨rfl, rfl, rfl, by decide +kernel, rfl, by decide +kernel, by decide +kernel⟩
theorem ok__law_leaves {fn__law_leaves : Fn} (l : Nat) (hl : 0 ≤ l) (F : FnP K "_law_leaves" 26 f fd) (hS : ∃ o, base.get? sysModules = some o)   (c__law_leaves : Cal P w K mg base l "_law_leaves" ["_law_condition_here", "_law_lead"] (spW K false false lay__law_leaves fn__law_leaves)) :
    FnG P w K mg base CX0 (l + 1) f fd ["_law_condition_here", "_law_lead"] (spW K false false lay__law_leaves (fnb__law_leaves fn__law_leaves)) := by
  refine okD F sc__law_leaves hS (fun vs H Q E h => spW_size vs H Q E h) (fun cdv A outer s H vs Q E R h => ?_)
  have nd := sc__law_leaves.nd
  refine ⟨_, (pss_cons (ps_if (pt_cmpR op_eq (pe_ix (ixAnyW K rfl) (pv 0) pe_int (fun _ _ => rfl)) pe_str (by rfl)) (pss_one (ps_ret (cc c__law_leaves R (pa_cons (pe_ix (ixAnyW K rfl) (pv 0) pe_int (fun _ _ => rfl)) (pa_cons (pe_op (opAddW K rfl) (pv 1) (pe_tup (pa_cons pe_int pa_nil))) pa_nil))))) pss_nil) (pss_cons (ps_if (pt_cmpR (oprK (r := fun K => rIn K false) K rfl op_in_seq) (pe_ix (ixAnyW K rfl) (pv 0) pe_int (fun _ _ => rfl)) (pe_tup (pa_cons pe_str (pa_cons pe_str pa_nil))) (by rfl)) (pss_one (ps_ret (pe_op (opAddW K rfl) (cc c__law_leaves R (pa_cons (pe_ix (ixAnyW K rfl) (pv 0) pe_int (fun _ _ => rfl)) (pa_cons (pe_op (opAddW K rfl) (pv 1) (pe_tup (pa_cons pe_int pa_nil))) pa_nil))) (cc c__law_leaves R (pa_cons (pe_ix (ixAnyW K rfl) (pv 0) pe_int (fun _ _ => rfl)) (pa_cons (pe_op (opAddW K rfl) (pv 1) (pe_tup (pa_cons pe_int pa_nil))) pa_nil)))))) pss_nil) (pss_one (ps_ret (pe_lst (pa_cons (pv 1) pa_nil)))))), ?r⟩
  case r => exact fn_run (ss_seq (ss_if (st_test (se_op os_eq (se_op os_ix (se_var (i := 0)) se_int) se_str)) (ss_ret (se_call0 (ir := 0) (sal_dat (se_op os_ix (se_var (i := 0)) se_int) (sal_dat (se_op os_add (se_var (i := 1)) (se_tup (sa_cons se_int sa_nil))) sal_nil)))) ss_next) (ss_seq (ss_if (st_test (se_op (os_in false) (se_op os_ix (se_var (i := 0)) se_int) (se_tup (sa_cons se_str (sa_cons se_str sa_nil))))) (ss_ret (se_op os_add (se_call0 (ir := 0) (sal_dat (se_op os_ix (se_var (i := 0)) se_int) (sal_dat (se_op os_add (se_var (i := 1)) (se_tup (sa_cons se_int sa_nil))) sal_nil))) (se_call0 (ir := 0) (sal_dat (se_op os_ix (se_var (i := 0)) se_int) (sal_dat (se_op os_add (se_var (i := 1)) (se_tup (sa_cons se_int sa_nil))) sal_nil))))) ss_next) (ss_ret (se_lst (sa_cons (se_var (i := 1)) sa_nil))))) rfl (by decide) (by decide) h
def lay__law_widened : List PK := [.deck, .dat, .dat, .dat]
def fn__law_widened (fn__law_pick fn__law_some_leaf fn__law_column fn__law_some_term : Fn) : Fn := fnOf false lay__law_widened 5 (sSeq (sAsg (fTup (fCons (fTup (fCons (fOp oIxD (fVar 3) (fC (.int 0))) (fCons (fOp oIxD (fCall fn__law_pick (fDeck 0 (fCons (fOp oDGet (fVar 1) (fC (.str "tables"))) fNil))) (fC (.int 0))) fNil))) fNil)) (aName 4)) (sSeq (sAsg (fTup (fCons (fC (.str "column")) (fCons (fOp oIxD (fVar 3) (fC (.int 0))) (fCons (fOp oIxD (fOp oDGet (fOp oDGet (fVar 1) (fC (.str "columns"))) (fOp oIxD (fOp oIxD (fVar 4) (fC (.int 0))) (fC (.int 1)))) (fC (.int 0))) fNil)))) (aName 5)) (sSeq (sAsg (fTup (fCons (fVar 4) (fCons (fCall fn__law_some_leaf (fDeck 0 (fCons (fVar 1) (fCons (fOp oAddD (fVar 4) (fOp oIxD (fVar 2) (fC (.int 0)))) (fCons (fC (.int 2)) fNil))))) fNil))) (aName 6)) (sSeq (sAsg (fCall fn__law_pick (fDeck 0 (fCons (fLst (fCons (fVar 5) (fCons (fCall fn__law_column (fDeck 0 (fCons (fVar 1) (fCons (fOp oIxD (fVar 2) (fC (.int 0))) fNil)))) fNil))) fNil))) (aName 5)) (sSeq (sAsg (fTup (fCons (fCall fn__law_pick (fDeck 0 (fCons (fLst (fCons (fC (.str "only")) (fCons (fC (.str "first")) fNil))) fNil))) (fCons (fVar 6) (fCons (fVar 5) fNil)))) (aName 7)) (sSeq (sAsg (fOp oAddD (fOp oIxD (fVar 2) (fC (.int 2))) (fTup (fCons (fTup (fCons (fC (.str "plus")) (fCons (fVar 7) (fCons (fC (.int 3)) fNil)))) (fCons (fCall fn__law_some_term (fDeck 0 (fCons (fVar 1) (fCons (fOp oIxD (fVar 2) (fC (.int 0))) (fCons (fC (.int 3)) fNil))))) fNil)))) (aName 8)) (sRet (fOp oAddD (fOp oAddD (fSl oSlD (fVar 2) fNoP (fPart (fC (.int 2)))) (fTup (fCons (fVar 8) fNil))) (fSl oSlD (fVar 2) (fPart (fC (.int 3))) fNoP)))))))))
theorem sc__law_widened : FnScope ["_law_deck_here", "_law_world", "_law_asked", "_law_aliases", "_law_own", "_law_column_here", "_law_inner_here", "_law_term", "_law_some"] ["_law_deck_here", "_law_world", "_law_asked", "_law_aliases"] (defScope (top 27)) := ⟨rfl, rfl, rfl, by decide +kernel, rfl, by decide +kernel, by decide +kernel⟩
theorem ok__law_widened {fn__law_pick fn__law_some_leaf fn__law_column fn__law_some_term : Fn} (F : FnP K "_law_widened" 27 f fd) (hS : ∃ o, base.get? sysModules = some o)  (c__law_pick : Cal P w K mg base 2 "_law_pick" ["_law_deck_here", "_law_some"] (spW K true false lay__law_pick fn__law_pick)) (c__law_some_leaf : Cal P w K mg base 8 "_law_some_leaf" ["_law_deck_here", "_law_world", "_law_refs", "_law_deep"] (spW K true false lay__law_some_leaf fn__law_some_leaf)) (c__law_column : Cal P w K mg base 3 "_law_column" ["_law_deck_here", "_law_world", "_law_refs"] (spW K true false lay__law_column fn__law_column)) (c__law_some_term : Cal P w K mg base 7 "_law_some_term" ["_law_deck_here", "_law_world", "_law_refs", "_law_deep"] (spW K true false lay__law_some_term fn__law_some_term)) :
    FnG P w K mg base CX0 9 f fd ["_law_deck_here", "_law_world", "_law_asked", "_law_aliases"] (spW K true false lay__law_widened (fn__law_widened fn__law_pick fn__law_some_leaf fn__law_column fn__law_some_term)) := by
  refine okD F sc__law_widened hS (fun vs H Q E h => spW_size vs H Q E h) (fun cdv A outer s H vs Q E R h => ?_)
  have nd := sc__law_widened.nd
  refine ⟨_, (pss_cons (ps_set (i := 4) nd rfl (Or.inl rfl) (pe_tup (pa_cons (pe_tup (pa_cons (pe_ix (ixAnyW K rfl) (pv 3) pe_int (fun _ _ => rfl)) (pa_cons (pe_ix (ixAnyW K rfl) (cc c__law_pick R (pa_cons (pv 0) (pa_cons (pe_dget (hu_of R.room) (pv 1) pe_str (fun _ _ => rfl)) pa_nil))) pe_int (fun _ _ => rfl)) pa_nil))) pa_nil))) (pss_cons (ps_set (i := 5) nd rfl (Or.inl rfl) (pe_tup (pa_cons pe_str (pa_cons (pe_ix (ixAnyW K rfl) (pv 3) pe_int (fun _ _ => rfl)) (pa_cons (pe_ix (ixAnyW K rfl) (pe_dget (hu_of R.room) (pe_dget (hu_of R.room) (pv 1) pe_str (fun _ _ => rfl)) (pe_ix (ixAnyW K rfl) (pe_ix (ixAnyW K rfl) (pv 4) pe_int (fun _ _ => rfl)) pe_int (fun _ _ => rfl)) (fun _ _ => rfl)) pe_int (fun _ _ => rfl)) pa_nil))))) (pss_cons (ps_set (i := 6) nd rfl (Or.inl rfl) (pe_tup (pa_cons (pv 4) (pa_cons (cc c__law_some_leaf R (pa_cons (pv 0) (pa_cons (pv 1) (pa_cons (pe_op (opAddW K rfl) (pv 4) (pe_ix (ixAnyW K rfl) (pv 2) pe_int (fun _ _ => rfl))) (pa_cons pe_int pa_nil))))) pa_nil)))) (pss_cons (ps_set (i := 5) nd rfl (Or.inl rfl) (cc c__law_pick R (pa_cons (pv 0) (pa_cons (pe_lst (pa_cons (pv 5) (pa_cons (cc c__law_column R (pa_cons (pv 0) (pa_cons (pv 1) (pa_cons (pe_ix (ixAnyW K rfl) (pv 2) pe_int (fun _ _ => rfl)) pa_nil)))) pa_nil))) pa_nil)))) (pss_cons (ps_set (i := 7) nd rfl (Or.inl rfl) (pe_tup (pa_cons (cc c__law_pick R (pa_cons (pv 0) (pa_cons (pe_lst (pa_cons pe_str (pa_cons pe_str pa_nil))) pa_nil))) (pa_cons (pv 6) (pa_cons (pv 5) pa_nil))))) (pss_cons (ps_set (i := 8) nd rfl (Or.inl rfl) (pe_op (opAddW K rfl) (pe_ix (ixAnyW K rfl) (pv 2) pe_int (fun _ _ => rfl)) (pe_tup (pa_cons (pe_tup (pa_cons pe_str (pa_cons (pv 7) (pa_cons pe_int pa_nil)))) (pa_cons (cc c__law_some_term R (pa_cons (pv 0) (pa_cons (pv 1) (pa_cons (pe_ix (ixAnyW K rfl) (pv 2) pe_int (fun _ _ => rfl)) (pa_cons pe_int pa_nil))))) pa_nil))))) (pss_one (ps_ret (pe_op (opAddW K rfl) (pe_op (opAddW K rfl) (pe_slice (slAnyW K rfl) (pv 2) po_none (po_some pe_int)) (pe_tup (pa_cons (pv 8) pa_nil))) (pe_slice (slAnyW K rfl) (pv 2) (po_some pe_int) po_none)))))))))), ?r⟩
  case r => exact fn_run (ss_seq (ss_asg (se_tup (sa_cons (se_tup (sa_cons (se_op os_ix (se_var (i := 3)) se_int) (sa_cons (se_op os_ix (se_call (ir := 0) (sal_deck (i := 0) (sal_dat (se_dget (se_var (i := 1)) se_str) sal_nil))) se_int) sa_nil))) sa_nil)) sg_name) (ss_seq (ss_asg (se_tup (sa_cons se_str (sa_cons (se_op os_ix (se_var (i := 3)) se_int) (sa_cons (se_op os_ix (se_dget (se_dget (se_var (i := 1)) se_str) (se_op os_ix (se_op os_ix (se_var (i := 4)) se_int) se_int)) se_int) sa_nil)))) sg_name) (ss_seq (ss_asg (se_tup (sa_cons (se_var (i := 4)) (sa_cons (se_call (ir := 0) (sal_deck (i := 0) (sal_dat (se_var (i := 1)) (sal_dat (se_op os_add (se_var (i := 4)) (se_op os_ix (se_var (i := 2)) se_int)) (sal_dat se_int sal_nil))))) sa_nil))) sg_name) (ss_seq (ss_asg (se_call (ir := 0) (sal_deck (i := 0) (sal_dat (se_lst (sa_cons (se_var (i := 5)) (sa_cons (se_call (ir := 0) (sal_deck (i := 0) (sal_dat (se_var (i := 1)) (sal_dat (se_op os_ix (se_var (i := 2)) se_int) sal_nil)))) sa_nil))) sal_nil))) sg_name) (ss_seq (ss_asg (se_tup (sa_cons (se_call (ir := 0) (sal_deck (i := 0) (sal_dat (se_lst (sa_cons se_str (sa_cons se_str sa_nil))) sal_nil))) (sa_cons (se_var (i := 6)) (sa_cons (se_var (i := 5)) sa_nil)))) sg_name) (ss_seq (ss_asg (se_op os_add (se_op os_ix (se_var (i := 2)) se_int) (se_tup (sa_cons (se_tup (sa_cons se_str (sa_cons (se_var (i := 7)) (sa_cons se_int sa_nil)))) (sa_cons (se_call (ir := 0) (sal_deck (i := 0) (sal_dat (se_var (i := 1)) (sal_dat (se_op os_ix (se_var (i := 2)) se_int) (sal_dat se_int sal_nil))))) sa_nil)))) sg_name) (ss_ret (se_op os_add (se_op os_add (se_sl ss_any (se_var (i := 2)) so_none (so_some se_int)) (se_tup (sa_cons (se_var (i := 8)) sa_nil))) (se_sl ss_any (se_var (i := 2)) (so_some se_int) so_none))))))))) rfl (by decide) (by decide) h
def lay__law_right : List PK := [.dat]
def fn__law_right (fn__law_every fn__law_leaves fn_part_at fn_main_parts fn_named : Fn) : Fn := fnOf false lay__law_right 14 (sSeq (sPar 1 2 (fCons (fLst (fLc (iTupD (fOp oIxD (fVar 0) (fC (.int 0)))) (aTup [(aName 9), (aName 10)]) bYes (fVar 9) [9, 10])) (fCons (fCall0 fn__law_every (fCons (fVar 0) fNil)) fNil))) (sSeq (sAsg (fIf (fTest (fOp oIsN (fOp oIxD (fVar 0) (fC (.int 1))) (fC .none))) (fLst fNil) (fCall0 fn__law_leaves (fCons (fOp oIxD (fVar 0) (fC (.int 1))) (fCons (fTup (fCons (fC (.int 1)) fNil)) fNil)))) (aName 3)) (sSeq (sAsg (fUn oTupD (fOp oAddD (fVar 3) (fLst (fLc (iRange1 (fCons (fCb oLenD (fCons (fOp oIxD (fVar 0) (fC (.int 2))) fNil)) fNil)) (aName 11) bYes (fTup (fCons (fC (.int 2)) (fCons (fVar 11) fNil))) [11])))) (aName 4)) (sSeq (sIf (fOr (fTest (fOp oNeD (fCb oReprD (fCons (fCall0 fn_main_parts (fCons (fVar 0) fNil)) fNil)) (fCb oReprD (fCons (fVar 4) fNil)))) (fTest (fOp oNeD (fCb oReprD (fCons (fCallK fn_main_parts (fun l => l) (fCons (fVar 0) fNil)) fNil)) (fCb oReprD (fCons (fVar 4) fNil))))) (sRet (fC (.bool false))) sNext) (sSeq (sIf (fTest (fOp oNeD (fCb oReprD (fCons (fCall0 fn_part_at (fCons (fVar 0) (fCons (fTup fNil) fNil))) fNil)) (fCb oReprD (fCons (fVar 0) fNil)))) (sRet (fC (.bool false))) sNext) (sSeq (sIf (fTest (fOp oNeX (fLst (fLc (iEnumD (fCons (fOp oIxD (fVar 0) (fC (.int 3))) fNil)) (aTup [(aName 11), (aName 12)]) (fTest (fOp oNeD (fCb oReprD (fCons (fCall0 fn_part_at (fCons (fVar 0) (fCons (fTup (fCons (fC (.int 3)) (fCons (fVar 11) fNil))) fNil))) fNil)) (fCb oReprD (fCons (fVar 12) fNil)))) (fC (.int 1)) [11, 12])) (fLst fNil))) (sRet (fC (.bool false))) sNext) (sSeq (sFor (iListD (fVar 2)) (aTup [(aName 5), (aName 6)]) (sSeq (sIf (fOr (fTest (fOp oNeD (fCb oReprD (fCons (fCall0 fn_part_at (fCons (fVar 0) (fCons (fVar 5) fNil))) fNil)) (fCb oReprD (fCons (fVar 6) fNil)))) (fTest (fOp oNeD (fCb oReprD (fCons (fCallK fn_part_at swapK (fCons (fVar 5) (fCons (fVar 0) fNil))) fNil)) (fCb oReprD (fCons (fVar 6) fNil))))) (sRet (fC (.bool false))) sNext) (sIf (fAnd (fTest (fOp (oInD false) (fOp oIxD (fVar 6) (fC (.int 0))) (fTup (fCons (fC (.str "exists")) (fCons (fC (.str "only")) (fCons (fC (.str "first")) fNil)))))) (fTest (fOp oNeD (fCb oReprD (fCons (fCall0 fn_part_at (fCons (fVar 0) (fCons (fOp oAddD (fVar 5) (fTup (fCons (fC (.int 1)) fNil))) fNil))) fNil)) (fCb oReprD (fCons (fOp oIxD (fVar 6) (fC (.int 1))) fNil))))) (sRet (fC (.bool false))) sNext))) (sSeq (sFor (iTupD (fVar 4)) (aName 5) (sSeq (sAsg (fLst (fLc (iListD (fVar 2)) (aTup [(aName 13), (aName 6)]) (fAnd (fTest (fOp oEqX (fSl oSlD (fVar 13) fNoP (fPart (fCb oLenD (fCons (fVar 5) fNil)))) (fVar 5))) (fTest (fOp oEqD (fOp oIxD (fVar 6) (fC (.int 0))) (fC (.str "column"))))) (fVar 6) [13, 6])) (aName 7)) (sSeq (sAsg (fUn oTupD (fLst (fLc (iListD (fCb oSortD (fCons (fVar 1) fNil))) (aName 14) (fTest (fOp oNeX (fLst (fLc (iListD (fVar 7)) (aName 6) (fTest (fOp oEqD (fOp oIxD (fVar 6) (fC (.int 1))) (fVar 14))) (fC (.int 1)) [6])) (fLst fNil))) (fVar 14) [14]))) (aName 8)) (sIf (fOr (fTest (fOp oNeD (fCb oReprD (fCons (fCall0 fn_named (fCons (fVar 0) (fCons (fVar 5) fNil))) fNil)) (fCb oReprD (fCons (fVar 8) fNil)))) (fTest (fOp oNeD (fCb oReprD (fCons (fCallK fn_named swapK (fCons (fVar 5) (fCons (fVar 0) fNil))) fNil)) (fCb oReprD (fCons (fVar 8) fNil))))) (sRet (fC (.bool false))) sNext)))) (sRet (fC (.bool true)))))))))))
theorem sc__law_right : FnScope ["_law_asked", "_law_own", "_law_found", "_law_places", "_law_due", "_law_lead", "_law_part", "_law_within", "_law_names_here", "_law_alias", "_law_table", "_law_k", "_law_column_here", "_law_spot", "_law_one"] ["_law_asked"] (defScope (top 28)) := ⟨rfl, rfl, rfl, by decide +kernel, rfl, by decide +kernel, by decide +kernel⟩
theorem ok__law_right {fn__law_every fn__law_leaves fn_part_at fn_main_parts fn_named : Fn} (F : FnP K "_law_right" 28 f fd) (hS : ∃ o, base.get? sysModules = some o) (m_len : mg "len" = none) (m_tuple : mg "tuple" = none) (m_sorted : mg "sorted" = none) (m_repr : mg "repr" = none) (m_range : mg "range" = none) (m_enumerate : mg "enumerate" = none) (c__law_every : Cal P w K mg base 22 "_law_every" ["_law_asked"] (spW K false false lay__law_every fn__law_every)) (c__law_leaves : Cal P w K mg base 20 "_law_leaves" ["_law_condition_here", "_law_lead"] (spW K false false lay__law_leaves fn__law_leaves)) (c_part_at : Cal P w K mg base 2 "part_at" ["question", "place"] (spW K false false lay_part_at fn_part_at)) (c_main_parts : Cal P w K mg base 21 "main_parts" ["question"] (spW K false false lay_main_parts fn_main_parts)) (c_named : Cal P w K mg base 22 "named" ["question", "place"] (spW K false false lay_named fn_named)) (k_part_at : CalK P w K mg base 2 "part_at" ["question", "place"] ["place", "question"] swapK (spW K false false lay_part_at fn_part_at)) (k_main_parts : CalK P w K mg base 21 "main_parts" ["question"] ["question"] (fun l => l) (spW K false false lay_main_parts fn_main_parts)) (k_named : CalK P w K mg base 22 "named" ["question", "place"] ["place", "question"] swapK (spW K false false lay_named fn_named)) :
    FnG P w K mg base CX0 23 f fd ["_law_asked"] (spW K false false lay__law_right (fn__law_right fn__law_every fn__law_leaves fn_part_at fn_main_parts fn_named)) := by
  refine okD F sc__law_right hS (fun vs H Q E h => spW_size vs H Q E h) (fun cdv A outer s H vs Q E R h => ?_)
  have nd := sc__law_right.nd
  refine ⟨_, (pss_cons (ps_par (i := 1) (j := 2) rfl nd rfl rfl (by decide) rfl rfl (pa_cons (pe_lc (own := [("_law_alias", 9), ("_law_table", 10)]) rfl nd (pi_tupW K rfl (pe_ix (ixAnyW K rfl) (pv 0) pe_int (fun _ _ => rfl))) (blkOk_by (by kernel_rfl)) (fun _ _ _ _ _ => (pg_tupW (n := 2) K rfl rfl (pgs_cons (pg_name (i := 9) nd rfl (Or.inl rfl)) (pgs_cons (pg_name (i := 10) nd rfl (Or.inl rfl)) pgs_nil)))) (fun _ _ _ _ _ => pts_nil) (fun _ _ _ _ _ => (pv 9))) (pa_cons (cc c__law_every R (pa_cons (pv 0) pa_nil)) pa_nil)) rfl) (pss_cons (ps_set (i := 3) nd rfl (Or.inl rfl) (pe_ifExp (pt_cmpR op_isN (pe_ix (ixAnyW K rfl) (pv 0) pe_int (fun _ _ => rfl)) pe_non (by rfl)) (pe_lst pa_nil) (cc c__law_leaves R (pa_cons (pe_ix (ixAnyW K rfl) (pv 0) pe_int (fun _ _ => rfl)) (pa_cons (pe_tup (pa_cons pe_int pa_nil)) pa_nil))))) (pss_cons (ps_set (i := 4) nd rfl (Or.inl rfl) (pe_tupW K rfl rfl m_tuple (pe_op (opAddW K rfl) (pv 3) (pe_lc (own := [("_law_k", 11)]) rfl nd (pi_range1 rfl m_range (pa_cons (pe_callB (calK (r := rLenA) K rfl call_lenA) rfl m_len bt_len (pa_cons (pe_ix (ixAnyW K rfl) (pv 0) pe_int (fun _ _ => rfl)) pa_nil)) pa_nil)) (blkOk_by (by kernel_rfl)) (fun _ _ _ _ _ => (pg_name (i := 11) nd rfl (Or.inl rfl))) (fun _ _ _ _ _ => pts_nil) (fun _ _ _ _ _ => (pe_tup (pa_cons pe_int (pa_cons (pv 11) pa_nil)))))))) (pss_cons (ps_if (PW.pt (pw_or (pt_cmpR op_ne (creprW K rfl R m_repr (pa_cons (cc c_main_parts R (pa_cons (pv 0) pa_nil)) pa_nil)) (creprW K rfl R m_repr (pa_cons (pv 4) pa_nil)) (by rfl)) (pw_or1 (pt_cmpR op_ne (creprW K rfl R m_repr (pa_cons (ck k_main_parts R (pk_cons (pv 0) pk_nil)) pa_nil)) (creprW K rfl R m_repr (pa_cons (pv 4) pa_nil)) (by rfl))))) (pss_one (ps_ret pe_bl)) pss_nil) (pss_cons (ps_if (pt_cmpR op_ne (creprW K rfl R m_repr (pa_cons (cc c_part_at R (pa_cons (pv 0) (pa_cons (pe_tup pa_nil) pa_nil))) pa_nil)) (creprW K rfl R m_repr (pa_cons (pv 0) pa_nil)) (by rfl)) (pss_one (ps_ret pe_bl)) pss_nil) (pss_cons (ps_if (pt_cmpR (oprK (r := rNeD) K rfl (op_neD R.room.units)) (pe_lc (own := [("_law_k", 11), ("_law_column_here", 12)]) rfl nd (pi_enumW K rfl rfl m_enumerate (pa_cons (pe_ix (ixAnyW K rfl) (pv 0) pe_int (fun _ _ => rfl)) pa_nil)) (blkOk_by (by kernel_rfl)) (fun _ _ _ _ _ => (pg_tupW (n := 2) K rfl rfl (pgs_cons (pg_name (i := 11) nd rfl (Or.inl rfl)) (pgs_cons (pg_name (i := 12) nd rfl (Or.inl rfl)) pgs_nil)))) (fun _ _ _ _ _ => (pts_one (pt_cmpR op_ne (creprW K rfl (R.blk _ _ _ _ _) m_repr (pa_cons (cc c_part_at (R.blk _ _ _ _ _) (pa_cons (pv 0) (pa_cons (pe_tup (pa_cons pe_int (pa_cons (pv 11) pa_nil))) pa_nil))) pa_nil)) (creprW K rfl (R.blk _ _ _ _ _) m_repr (pa_cons (pv 12) pa_nil)) (by rfl)))) (fun _ _ _ _ _ => pe_int)) (pe_lst pa_nil) (by rfl)) (pss_one (ps_ret pe_bl)) pss_nil) (pss_cons (ps_for PassesOwn.never rfl (pi_listW K rfl (pv 2)) (pg_tupW (n := 2) K rfl rfl (pgs_cons (pg_name (i := 5) nd rfl (Or.inr rfl)) (pgs_cons (pg_name (i := 6) nd rfl (Or.inl rfl)) pgs_nil))) (pss_cons (ps_if (PW.pt (pw_or (pt_cmpR op_ne (creprW K rfl R m_repr (pa_cons (cc c_part_at R (pa_cons (pv 0) (pa_cons (pv 5) pa_nil))) pa_nil)) (creprW K rfl R m_repr (pa_cons (pv 6) pa_nil)) (by rfl)) (pw_or1 (pt_cmpR op_ne (creprW K rfl R m_repr (pa_cons (ck k_part_at R (pk_cons (pv 5) (pk_cons (pv 0) pk_nil))) pa_nil)) (creprW K rfl R m_repr (pa_cons (pv 6) pa_nil)) (by rfl))))) (pss_one (ps_ret pe_bl)) pss_nil) (pss_one (ps_if (PW.pt (pw_and (pt_cmpR (oprK (r := fun K => rIn K false) K rfl op_in_seq) (pe_ix (ixAnyW K rfl) (pv 6) pe_int (fun _ _ => rfl)) (pe_tup (pa_cons pe_str (pa_cons pe_str (pa_cons pe_str pa_nil)))) (by rfl)) (pw_and1 (pt_cmpR op_ne (creprW K rfl R m_repr (pa_cons (cc c_part_at R (pa_cons (pv 0) (pa_cons (pe_op (opAddW K rfl) (pv 5) (pe_tup (pa_cons pe_int pa_nil))) pa_nil))) pa_nil)) (creprW K rfl R m_repr (pa_cons (pe_ix (ixAnyW K rfl) (pv 6) pe_int (fun _ _ => rfl)) pa_nil)) (by rfl))))) (pss_one (ps_ret pe_bl)) pss_nil)))) (pss_cons (ps_for PassesOwn.never rfl (pi_tupW K rfl (pv 4)) (pg_name (i := 5) nd rfl (Or.inr rfl)) (pss_cons (ps_set (i := 7) nd rfl (Or.inr rfl) (pe_lc (own := [("_law_spot", 13), ("_law_part", 6)]) rfl nd (pi_listW K rfl (pv 2)) (blkOk_by (by kernel_rfl)) (fun _ _ _ _ _ => (pg_tupW (n := 2) K rfl rfl (pgs_cons (pg_name (i := 13) nd rfl (Or.inl rfl)) (pgs_cons (pg_name (i := 6) nd rfl (Or.inl rfl)) pgs_nil)))) (fun _ _ _ _ _ => (pts_one (PW.pt (pw_and (pt_cmpR (oprK (r := rEqD) K rfl (op_eqD (R.blk _ _ _ _ _).room.units)) (pe_slice (slAnyW K rfl) (pv 13) po_none (po_some (pe_callB (calK (r := rLenA) K rfl call_lenA) rfl m_len bt_len (pa_cons (pv 5) pa_nil)))) (pv 5) (by rfl)) (pw_and1 (pt_cmpR op_eq (pe_ix (ixAnyW K rfl) (pv 6) pe_int (fun _ _ => rfl)) pe_str (by rfl))))))) (fun _ _ _ _ _ => (pv 6)))) (pss_cons (ps_set (i := 8) nd rfl (Or.inl rfl) (pe_tupW K rfl rfl m_tuple (pe_lc (own := [("_law_one", 14)]) rfl nd (pi_listW K rfl (pe_callB (cr_sortW K rfl R.room) rfl m_sorted bt_sorted (pa_cons (pv 1) pa_nil))) (blkOk_by (by kernel_rfl)) (fun _ _ _ _ _ => (pg_name (i := 14) nd rfl (Or.inr rfl))) (fun _ _ _ _ _ => (pts_one (pt_cmpR (oprK (r := rNeD) K rfl (op_neD (R.blk _ _ _ _ _).room.units)) (pe_lc (own := [("_law_part", 6)]) rfl nd (pi_listW K rfl (pv 7)) (blkOk_by (by kernel_rfl)) (fun _ _ _ _ _ => (pg_name (i := 6) nd rfl (Or.inl rfl))) (fun _ _ _ _ _ => (pts_one (pt_cmpR op_eq (pe_ix (ixAnyW K rfl) (pv 6) pe_int (fun _ _ => rfl)) (pv 14) (by rfl)))) (fun _ _ _ _ _ => pe_int)) (pe_lst pa_nil) (by rfl)))) (fun _ _ _ _ _ => (pv 14))))) (pss_one (ps_if (PW.pt (pw_or (pt_cmpR op_ne (creprW K rfl R m_repr (pa_cons (cc c_named R (pa_cons (pv 0) (pa_cons (pv 5) pa_nil))) pa_nil)) (creprW K rfl R m_repr (pa_cons (pv 8) pa_nil)) (by rfl)) (pw_or1 (pt_cmpR op_ne (creprW K rfl R m_repr (pa_cons (ck k_named R (pk_cons (pv 5) (pk_cons (pv 0) pk_nil))) pa_nil)) (creprW K rfl R m_repr (pa_cons (pv 8) pa_nil)) (by rfl))))) (pss_one (ps_ret pe_bl)) pss_nil))))) (pss_one (ps_ret pe_bl)))))))))), ?r⟩
  case r => exact fn_run (ss_seq (ss_par (sa_cons (SL.se (sl_lc (vs := [9, 10]) (si_tup (se_op os_ix (se_var (i := 0)) se_int)) (sg_tup rfl (sgs_cons (sg_name (i := 9)) (sgs_cons (sg_name (i := 10)) sgs_nil))) (gin_tup (gsin_name (by decide) (gsin_name (by decide) gsin_nil))) st_yes (se_var (i := 9)))) (sa_cons (se_call0 (ir := 0) (sal_dat (se_var (i := 0)) sal_nil)) sa_nil))) (ss_seq (ss_asg (se_if (st_test (se_op os_isN (se_op os_ix (se_var (i := 0)) se_int) se_non)) (se_lst sa_nil) (se_call0 (ir := 0) (sal_dat (se_op os_ix (se_var (i := 0)) se_int) (sal_dat (se_tup (sa_cons se_int sa_nil)) sal_nil)))) sg_name) (ss_seq (ss_asg (se_then us_tup (se_op os_add (se_var (i := 3)) (SL.se (sl_lc (vs := [11]) (si_range1 (sa_cons (se_cb cs_len (sa_cons (se_op os_ix (se_var (i := 0)) se_int) sa_nil)) sa_nil)) (sg_name (i := 11)) (gin_name (by decide)) st_yes (se_tup (sa_cons se_int (sa_cons (se_var (i := 11)) sa_nil))))))) sg_name) (ss_seq (ss_if (st_or (st_test (se_op os_ne (se_cb cs_repr (sa_cons (se_call0 (ir := 0) (sal_dat (se_var (i := 0)) sal_nil)) sa_nil)) (se_cb cs_repr (sa_cons (se_var (i := 4)) sa_nil)))) (st_test (se_op os_ne (se_cb cs_repr (sa_cons (se_inplace (sa_cons (se_var (i := 0)) sa_nil)) sa_nil)) (se_cb cs_repr (sa_cons (se_var (i := 4)) sa_nil))))) (ss_ret se_bl) ss_next) (ss_seq (ss_if (st_test (se_op os_ne (se_cb cs_repr (sa_cons (se_call0 (ir := 0) (sal_dat (se_var (i := 0)) (sal_dat (se_tup sa_nil) sal_nil))) sa_nil)) (se_cb cs_repr (sa_cons (se_var (i := 0)) sa_nil)))) (ss_ret se_bl) ss_next) (ss_seq (ss_if (st_test (se_op os_neX (SL.se (sl_lc (vs := [11, 12]) (si_enum (sa_cons (se_op os_ix (se_var (i := 0)) se_int) sa_nil)) (sg_tup rfl (sgs_cons (sg_name (i := 11)) (sgs_cons (sg_name (i := 12)) sgs_nil))) (gin_tup (gsin_name (by decide) (gsin_name (by decide) gsin_nil))) (st_test (se_op os_ne (se_cb cs_repr (sa_cons (se_call0 (ir := 0) (sal_dat (se_var (i := 0)) (sal_dat (se_tup (sa_cons se_int (sa_cons (se_var (i := 11)) sa_nil))) sal_nil))) sa_nil)) (se_cb cs_repr (sa_cons (se_var (i := 12)) sa_nil)))) se_int)) (se_lst sa_nil))) (ss_ret se_bl) ss_next) (ss_seq (ss_for (si_list (se_var (i := 2))) (sg_tup rfl (sgs_cons (sg_name (i := 5)) (sgs_cons (sg_name (i := 6)) sgs_nil))) (ss_seq (ss_if (st_or (st_test (se_op os_ne (se_cb cs_repr (sa_cons (se_call0 (ir := 0) (sal_dat (se_var (i := 0)) (sal_dat (se_var (i := 5)) sal_nil))) sa_nil)) (se_cb cs_repr (sa_cons (se_var (i := 6)) sa_nil)))) (st_test (se_op os_ne (se_cb cs_repr (sa_cons (se_swap (sa_cons (se_var (i := 5)) (sa_cons (se_var (i := 0)) sa_nil))) sa_nil)) (se_cb cs_repr (sa_cons (se_var (i := 6)) sa_nil))))) (ss_ret se_bl) ss_next) (ss_if (st_and (st_test (se_op (os_in false) (se_op os_ix (se_var (i := 6)) se_int) (se_tup (sa_cons se_str (sa_cons se_str (sa_cons se_str sa_nil)))))) (st_test (se_op os_ne (se_cb cs_repr (sa_cons (se_call0 (ir := 0) (sal_dat (se_var (i := 0)) (sal_dat (se_op os_add (se_var (i := 5)) (se_tup (sa_cons se_int sa_nil))) sal_nil))) sa_nil)) (se_cb cs_repr (sa_cons (se_op os_ix (se_var (i := 6)) se_int) sa_nil))))) (ss_ret se_bl) ss_next))) (ss_seq (ss_for (si_tup (se_var (i := 4))) (sg_name (i := 5)) (ss_seq (ss_asg (SL.se (sl_lc (vs := [13, 6]) (si_list (se_var (i := 2))) (sg_tup rfl (sgs_cons (sg_name (i := 13)) (sgs_cons (sg_name (i := 6)) sgs_nil))) (gin_tup (gsin_name (by decide) (gsin_name (by decide) gsin_nil))) (st_and (st_test (se_op os_eqX (se_sl ss_any (se_var (i := 13)) so_none (so_some (se_cb cs_len (sa_cons (se_var (i := 5)) sa_nil)))) (se_var (i := 5)))) (st_test (se_op os_eq (se_op os_ix (se_var (i := 6)) se_int) se_str))) (se_var (i := 6)))) sg_name) (ss_seq (ss_asg (se_then us_tup (SL.se (sl_lc (vs := [14]) (si_list (se_cb cs_sort (sa_cons (se_var (i := 1)) sa_nil))) (sg_name (i := 14)) (gin_name (by decide)) (st_test (se_op os_neX (SL.se (sl_lc (vs := [6]) (si_list (se_var (i := 7))) (sg_name (i := 6)) (gin_name (by decide)) (st_test (se_op os_eq (se_op os_ix (se_var (i := 6)) se_int) (se_var (i := 14)))) se_int)) (se_lst sa_nil))) (se_var (i := 14))))) sg_name) (ss_if (st_or (st_test (se_op os_ne (se_cb cs_repr (sa_cons (se_call0 (ir := 0) (sal_dat (se_var (i := 0)) (sal_dat (se_var (i := 5)) sal_nil))) sa_nil)) (se_cb cs_repr (sa_cons (se_var (i := 8)) sa_nil)))) (st_test (se_op os_ne (se_cb cs_repr (sa_cons (se_swap (sa_cons (se_var (i := 5)) (sa_cons (se_var (i := 0)) sa_nil))) sa_nil)) (se_cb cs_repr (sa_cons (se_var (i := 8)) sa_nil))))) (ss_ret se_bl) ss_next)))) (ss_ret se_bl))))))))) rfl (by decide) (by decide) h
end
end K21
end

/-! K21f -/
section
set_option autoImplicit false
open PySem PySem.Spec PyProof.Rows L2 FA FW
namespace K21
theorem pick_sp {fd : Fn} (hd : DrawSp fd) : PickSp (fn__law_pick fd) := by
  intro xs n post h1 h2 h3 q
  have go : ∀ r : Int, 0 ≤ r → r < (xs.length : Int) → ∃ x ∈ xs, atI xs r = some x := fun r h0 h1 => at_some h0 h1
  constructor
  · refine hd (xs.length : Int) n _ h1 (by omega) (by omega) fun r r0 r1 => ?_
    obtain ⟨x, hx, e⟩ := go r r0 r1
    show (match atI xs r with
      | some z => _
      | none => False)
    rw [e]
    exact q x hx
  · refine hd (xs.length : Int) n _ h1 (by omega) (by omega) fun r r0 r1 => ?_
    obtain ⟨x, hx, e⟩ := go r r0 r1
    show (match atI xs r with
      | some z => _
      | none => False)
    rw [e]
    exact q x hx
def wds : List Str := ["less", "is", "plus", "from", "in", "only", "where", "not", "first", "nothing", "exists", "or", "t", "tell", "limit", "and", "order"]
def abc : Str := "abcdefghijklmnopq"
theorem wds_is : Txt.split "less is plus from in only where not first nothing exists or t tell limit and order" " " = wds := by decide +kernel
theorem wds_nm : ∀ z ∈ wds, Nm z := by
  intro y hy
  simp only [wds, List.mem_cons, List.not_mem_nil, or_false] at hy
  rcases hy with rfl | rfl | rfl | rfl | rfl | rfl | rfl | rfl | rfl | rfl | rfl | rfl | rfl | rfl | rfl | rfl | rfl <;> exact ⟨by decide, low_of (by decide)⟩
def NamesSp (f : Fn) : Prop := ∀ (m n : Nat) (post : PyData → List PyData → Nat → Prop), m ≤ 17 → n + 2 ≤ 1000000 → (∀ zs : List Str, zs.length = m → (∀ z ∈ zs, Nm z) → post (.list (zs.map .str)) [] (n + 2)) → f [.int (m : Int)] [] n post
theorem names_sp {fd : Fn} (hd : DrawSp fd) : NamesSp (fn__law_names fd) := by
  intro m n post hm hn q
  refine hd 17 n _ (by omega) (by decide) (by decide) fun r r0 r1 => ?_
  refine hd 2 (n + 1) _ (by omega) (by decide) (by decide) fun k k0 k1 => ?_
  refine ⟨rfl, by decide, by decide, ?_⟩
  rw [wds_is]
  refine ⟨⟨by omega, by omega⟩, by rw [rng_len]; omega, ?_⟩
  refine lc_inv (fun i acc s => s.n = n + 2 ∧ s.rs = [] ∧ ∃ zs : List Str, acc = zs.map .str ∧ zs.length = i ∧ ∀ z ∈ zs, Nm z) ⟨rfl, rfl, [], rfl, rfl, fun _ h => nomatch h⟩ ?_ ?_
  · rintro i x acc ⟨sn, srs⟩ ex ⟨e1, e2, zs, rfl, l, hz⟩ kt kf ht hf
    obtain ⟨hi, rfl⟩ := rng_get ex
    subst e1 e2
    have j0 := Int.emod_nonneg (r + 5 * (0 + (i : Int))) (show (17 : Int) ≠ 0 by decide)
    have j1 := Int.emod_lt_of_pos (r + 5 * (0 + (i : Int))) (show (0 : Int) < 17 by decide)
    have fin : ∀ z : Str, Nm z → kt (.str z) ⟨n + 2, []⟩ := fun z h => ht _ _ ⟨rfl, rfl, zs ++ [z], by simp, by simp [l], fun y hy => by
      rcases List.mem_append.mp hy with hy | hy
      · exact hz y hy
      · rw [List.mem_singleton.mp hy]; exact h⟩
    have k2 : k = 0 ∨ k = 1 := by omega
    rcases k2 with rfl | rfl
    · obtain ⟨z, hm, e⟩ := at_some (xs := wds.map PyData.str) j0 (by show _ < (17 : Int); exact j1)
      refine ⟨.inl ⟨by decide, by decide⟩, by decide, ?_⟩
      show (match atI (wds.map PyData.str) ((r + 5 * (0 + (i : Int))) % 17) with
        | some z => _
        | none => False)
      rw [e]
      obtain ⟨y, hy, rfl⟩ := List.mem_map.mp hm
      exact fin y (wds_nm y hy)
    · obtain ⟨c, hm, e⟩ := at_some (xs := abc.cps.toList) j0 (by show _ < (17 : Int); exact j1)
      refine ⟨.inl ⟨by decide, by decide⟩, by decide, by decide, ?_⟩
      show (match atI abc.cps.toList ((r + 5 * (0 + (i : Int))) % 17) with
        | some z => _
        | none => False)
      rw [e]
      refine fin ⟨#[c]⟩ ⟨by show 1 ≤ 10; decide, fun x hx => ?_⟩
      have : x = c := by simpa using hx
      rw [this]
      have h2 : ∀ c ∈ abc.cps.toList, c < 128 := by decide
      exact h2 c hm
  · rintro acc ⟨sn, srs⟩ ⟨e1, e2, zs, rfl, l, hz⟩
    subst e1 e2
    exact q zs (by rw [l, rng_len]; omega) hz
end K21
end

/-! K21g -/
section
set_option autoImplicit false
open PySem PySem.Spec PyProof.Rows L2 FA FW
namespace K21
/-! the parts of a question, by their form -/
inductive Pt : Nat → PyData → Prop
  | val {n : Nat} {v : PyData} : Pt n (.tuple [.str "value", v])
  | col {n : Nat} {a c : Str} : Pt n (.tuple [.str "column", .str a, .str c])
  | one {n : Nat} {w : Str} {p : PyData} {r : List PyData} (h : w = "plus" ∨ w = "is" ∨ w = "not") (hp : Pt n p) : Pt (n + 1) (.tuple (.str w :: p :: r))
  | ex {n : Nat} {r c : PyData} (hc : Pt n c) : Pt (n + 1) (.tuple [.str "exists", .tuple [r, c]])
  | of {n : Nat} {w : Str} {r c t : PyData} (h : w = "only" ∨ w = "first") (hc : Pt n c) (ht : Pt n t) : Pt (n + 1) (.tuple [.str w, .tuple [r, c], t])
  | two {n : Nat} {w : Str} {p q : PyData} (h : w = "less" ∨ w = "most" ∨ w = "same" ∨ w = "and" ∨ w = "or") (hp : Pt n p) (hq : Pt n q) : Pt (n + 1) (.tuple [.str w, p, q])
theorem Pt.up {n : Nat} {x : PyData} (h : Pt n x) : ∀ {m : Nat}, n ≤ m → Pt m x := by
  induction h with
  | val => exact fun _ => .val
  | col => exact fun _ => .col
  | one h _ ih => intro m hm; obtain ⟨k, rfl⟩ : ∃ k, m = k + 1 := ⟨m - 1, by omega⟩; exact .one h (ih (by omega))
  | ex _ ih => intro m hm; obtain ⟨k, rfl⟩ : ∃ k, m = k + 1 := ⟨m - 1, by omega⟩; exact .ex (ih (by omega))
  | of h _ _ i1 i2 => intro m hm; obtain ⟨k, rfl⟩ : ∃ k, m = k + 1 := ⟨m - 1, by omega⟩; exact .of h (i1 (by omega)) (i2 (by omega))
  | two h _ _ i1 i2 => intro m hm; obtain ⟨k, rfl⟩ : ∃ k, m = k + 1 := ⟨m - 1, by omega⟩; exact .two h (i1 (by omega)) (i2 (by omega))
/-- a part of height n, no greater than D, W -/
structure PO (n D W : Nat) (x : PyData) : Prop where
  pt : Pt n x
  ok : Okd D W x
theorem PO.up {n D W n' D' W' : Nat} {x : PyData} (h : PO n D W x) (h1 : n ≤ n') (h2 : D ≤ D') (h3 : W ≤ W') : PO n' D' W' x := ⟨h.pt.up h1, h.ok.mono h2 h3⟩
theorem okt {D W : Nat} {xs : List PyData} (h : Oks D W xs) {W' : Nat} (hW : W ≤ W') : Okd (D + 1) W' (.tuple xs) := (okd_tuple h).mono (Nat.le_refl _) hW
theorem oks1 {D A : Nat} {a : PyData} (ha : Okd D A a) : Oks D (A + 1) [a] := (oks_cons ha oks_nil (V := 0)).mono (Nat.le_refl _) (by omega)
theorem oks2 {D A B : Nat} {a b : PyData} (ha : Okd D A a) (hb : Okd D B b) : Oks D (A + B + 2) [a, b] := (oks_cons ha (oks1 hb)).mono (Nat.le_refl _) (by omega)
theorem oks3 {D A B C : Nat} {a b c : PyData} (ha : Okd D A a) (hb : Okd D B b) (hc : Okd D C c) : Oks D (A + B + C + 3) [a, b, c] := (oks_cons ha (oks2 hb hc)).mono (Nat.le_refl _) (by omega)
theorem okw {D : Nat} {w : Str} (h : w.length ≤ 10 ∧ Low w) : Okd D 10 (.str w) := okd_nm h (Nat.le_refl _)
theorem lit {w : Str} (h : w.cps.toList.all (fun c => decide (c < 128)) = true) (l : w.length ≤ 10) : w.length ≤ 10 ∧ Low w := ⟨l, low_of h⟩
/-- the world: tables with columns -/
def HasC (kvs : List (PyData × PyData)) (t : Str) : Prop := ∃ cs : List Str, dlook kvs t = some (.list (cs.map .str)) ∧ 0 < cs.length ∧ cs.length ≤ 3 ∧ ∀ c ∈ cs, Nm c
structure Wd (kvs : List (PyData × PyData)) (w : PyData) : Prop where
  is : ∃ ts : List PyData, w = .dict [(.str "tables", .tuple ts), (.str "columns", .dict kvs)] ∧ 0 < ts.length ∧ ts.length ≤ 3 ∧ ∀ t ∈ ts, ∃ z c k i, t = .tuple [.str z, c, k, i] ∧ Nm z ∧ HasC kvs z
def Rf (kvs : List (PyData × PyData)) (r : PyData) : Prop := ∃ a t, r = .tuple [.str a, .str t] ∧ Nm a ∧ Nm t ∧ HasC kvs t
structure Rfs (kvs : List (PyData × PyData)) (x : PyData) (rs : List PyData) : Prop where
  is : x = .tuple rs
  n0 : 0 < rs.length
  n1 : rs.length ≤ 20
  each : ∀ r ∈ rs, Rf kvs r
theorem Rf.ok {kvs : List (PyData × PyData)} {r : PyData} (h : Rf kvs r) : Okd 1 22 r := by
  obtain ⟨a, t, rfl, h1, h2, _⟩ := h
  exact okt (oks2 (okw h1) (okw h2)) (by omega)
theorem Rfs.ok {kvs : List (PyData × PyData)} {x : PyData} {rs : List PyData} (h : Rfs kvs x rs) (n : Nat) (hn : rs.length ≤ n) : Okd 2 (23 * n) x := by
  rw [h.is]
  refine okt (oks_all fun r hr => (h.each r hr).ok) ?_
  have := Nat.mul_le_mul_left 23 hn
  omega
def ValSp (f : Fn) : Prop := ∀ (ks : List Str) (n : Nat) (post : PyData → List PyData → Nat → Prop), n + 2 ≤ 1000000 → 0 < ks.length → ks.length ≤ 100 → (∀ x n', Okd 0 140 x → n' ≤ n + 2 → post x [] n') → f [.tuple (ks.map .str)] [] n post
theorem val_sp {fp : Fn} (hp : PickSp fp) : ValSp (fn__law_any_value fp) := by
  intro ks n post h1 h2 h3 q
  refine (hp _ n _ (by omega) (by simpa using h2) (by simp; omega) fun x hx => ?_).2
  obtain ⟨z, hz, rfl⟩ := List.mem_map.mp hx
  refine ⟨rfl, ite2 (fun c => ?_) fun c => ⟨rfl, ite2 (fun c2 => ?_) fun c2 => ?_⟩⟩
  · exact q _ (n + 1) okd_non (by omega)
  · refine (hp _ (n + 1) _ (by omega) (by decide) (by decide) fun x hx => ?_).1
    simp only [List.mem_cons, List.not_mem_nil, or_false] at hx
    rcases hx with rfl | rfl | rfl <;> exact q _ (n + 2) (okd_str (low_of (by decide)) (by decide)) (by omega)
  · refine ⟨⟨by decide, by decide, by decide⟩, ⟨by decide, by decide, by decide⟩, ?_⟩
    refine (hp _ (n + 1) _ (by omega) (by decide) (by decide) fun x hx => ?_).1
    simp only [List.mem_cons, List.not_mem_nil, or_false] at hx
    rcases hx with rfl | rfl | rfl | rfl | rfl | rfl | rfl <;> exact q _ (n + 2) (okd_int (by decide) (by decide)) (by omega)
/-- a def of the world and refs that hands back a part -/
def ColSp (f : Fn) : Prop := ∀ (kvs : List (PyData × PyData)) (w x : PyData) (rs : List PyData) (n : Nat) (post : PyData → List PyData → Nat → Prop), Wd kvs w → Rfs kvs x rs → n + 2 ≤ 1000000 → (∀ y n', PO 0 1 40 y → n' ≤ n + 2 → post y [] n') → f [w, x] [] n post
theorem col_sp {fp : Fn} (hp : PickSp fp) : ColSp (fn__law_column fp) := by
  rintro kvs w x rs n post ⟨ts, rfl, _⟩ ⟨rfl, n0, n1, hr⟩ hn q
  refine (hp rs n _ (by omega) n0 (by omega) fun r hr' => ?_).2
  obtain ⟨a, t, rfl, ha, ht, cs, ec, c0, c1, hc⟩ := hr r hr'
  refine ⟨rfl, ?_⟩
  show (match dlook kvs t with
    | some d => _
    | none => False)
  rw [ec]
  refine (hp (cs.map .str) (n + 1) _ (by omega) (by simpa using c0) (by simp; omega) fun y hy => ?_).1
  obtain ⟨c, hc', rfl⟩ := List.mem_map.mp hy
  exact q _ (n + 2) ⟨.col, okt (oks3 (okw (lit (by decide) (by decide))) (okw ha) (okw (hc c hc'))) (by decide)⟩ (by omega)
def TermSp (f : Fn) (k D W N : Nat) (deep : Int) : Prop := ∀ (kvs : List (PyData × PyData)) (w x : PyData) (rs : List PyData) (n : Nat) (post : PyData → List PyData → Nat → Prop), Wd kvs w → Rfs kvs x rs → n + N ≤ 1000000 → (∀ y n', PO k D W y → n' ≤ n + N → post y [] n') → f [w, x, .int deep] [] n post
theorem term_step {fd fp fc fv g : Fn} (hd : DrawSp fd) (hc : ColSp fc) (hv : ValSp fv) (hp : PickSp fp) (m : Nat) (hg : ∀ j, m = j + 1 → TermSp g j (j + 1) (200 + 160 * j) (3 + 2 * j) j) : TermSp (fnb__law_some_term fd fc fp fv g) m (m + 1) (200 + 160 * m) (3 + 2 * m) m := by
  rintro kvs w x rs n post W R hn q
  refine hd 9 n _ (by omega) (by decide) (by decide) fun r r0 r1 => ite2 (fun c => ?_) fun c => ?_
  · exact hc kvs w x rs (n + 1) _ W R (by omega) fun y n' py hy => q y n' (py.up (by omega) (by omega) (by omega)) (by omega)
  · have val : ∀ y n', Okd 0 140 y → n' ≤ n + 1 + 2 → post (.tuple [.str "value", y]) [] n' := fun y n' oy hy => q _ n' ⟨.val, (okt (oks2 (okw (lit (by decide) (by decide))) oy) (Nat.le_refl _)).mono (by omega) (by omega)⟩ (by omega)
    refine ite2 (fun c2 => ?_) fun c2 => ⟨rfl, ite2 (fun c3 => ?_) fun c3 => ?_⟩
    · exact hv ["nothing", "number", "number", "word"] (n + 1) _ (by omega) (by decide) (by decide) val
    · exact hv ["nothing", "number", "number", "word"] (n + 1) _ (by omega) (by decide) (by decide) val
    · cases m with
      | zero => exact absurd rfl c3
      | succ j =>
        have ej : ((j + 1 : Nat) : Int) - 1 = (j : Int) := by omega
        refine (?_ : g [w, x, .int (((j + 1 : Nat) : Int) - 1)] [] (n + 1) _)
        rw [ej]
        refine hg j rfl kvs w x rs (n + 1) _ W R (by omega) fun y n' py hy => ⟨⟨by decide, by decide, by decide⟩, ?_⟩
        refine (hp _ n' _ (by omega) (by decide) (by decide) fun k hk => ?_).1
        have ok : Okd 0 140 k := by
          simp only [List.mem_cons, List.not_mem_nil, or_false] at hk
          rcases hk with rfl | rfl | rfl | rfl <;> exact okd_int (by decide) (by decide)
        refine q _ (n' + 1) ⟨.one (.inl rfl) (py.pt.up (by omega)), ?_⟩ (by omega)
        exact okt (oks3 (okw (lit (by decide) (by decide))) py.ok (ok.mono (by omega) (Nat.le_refl _))) (by omega)
theorem term_sp {fd fp fc fv : Fn} (hd : DrawSp fd) (hc : ColSp fc) (hv : ValSp fv) (hp : PickSp fp) : ∀ k m : Nat, m < k → TermSp (fn__law_some_term fd fc fp fv k) m (m + 1) (200 + 160 * m) (3 + 2 * m) m
  | 0, _, h => absurd h (Nat.not_lt_zero _)
  | k + 1, m, h => term_step hd hc hv hp m fun j e => term_sp hd hc hv hp k j (by omega)
/-- a leaf of terms one deep -/
theorem leaf_sp {fp ft : Fn} {h D V N : Nat} {deep : Int} (hp : PickSp fp) (hN : 0 < N) (ht : TermSp ft h D V N deep) : TermSp (fn__law_some_leaf fp ft) (h + 1) (D + 1) (2 * V + 80) (2 * N + 1) deep := by
  rintro kvs w x rs n post W R hn q
  refine (hp _ n _ (by omega) (by decide) (by decide) fun wd hw => ?_).1
  refine ht kvs w x rs (n + 1) _ W R (by omega) fun y n1 py h1 => ?_
  have wl : ∃ z : Str, wd = .str z ∧ (z = "less" ∨ z = "most" ∨ z = "same" ∨ z = "is") := by
    simp only [List.mem_cons, List.not_mem_nil, or_false] at hw
    rcases hw with rfl | rfl | rfl | rfl | rfl
    · exact ⟨_, rfl, .inl rfl⟩
    · exact ⟨_, rfl, .inr (.inl rfl)⟩
    · exact ⟨_, rfl, .inr (.inr (.inl rfl))⟩
    · exact ⟨_, rfl, .inr (.inr (.inl rfl))⟩
    · exact ⟨_, rfl, .inr (.inr (.inr rfl))⟩
  obtain ⟨z, rfl, hz⟩ := wl
  have zn : z.length ≤ 10 ∧ Low z := by rcases hz with rfl | rfl | rfl | rfl <;> exact lit (by decide) (by decide)
  refine ⟨rfl, ite2 (fun c => ?_) fun c => ?_⟩
  · refine (hp _ n1 _ (by omega) (by decide) (by decide) fun k hk => ?_).1
    have ok : ∃ y : Str, k = .str y ∧ (y.length ≤ 10 ∧ Low y) := by
      simp only [List.mem_cons, List.not_mem_nil, or_false] at hk
      rcases hk with rfl | rfl | rfl <;> exact ⟨_, rfl, lit (by decide) (by decide)⟩
    obtain ⟨y2, rfl, hy2⟩ := ok
    exact q _ (n1 + 1) ⟨.one (.inr (.inl rfl)) py.pt, okt (oks3 (okw (lit (by decide) (by decide))) py.ok (okw hy2)) (by omega)⟩ (by omega)
  · have zz : z = "less" ∨ z = "most" ∨ z = "same" ∨ z = "and" ∨ z = "or" := by
      rcases hz with rfl | rfl | rfl | rfl
      · exact .inl rfl
      · exact .inr (.inl rfl)
      · exact .inr (.inr (.inl rfl))
      · exact absurd rfl c
    refine ht kvs w x rs n1 _ W R (by omega) fun y2 n2 py2 h2 => ?_
    exact q _ n2 ⟨.two zz py.pt py2.pt, okt (oks3 (okw zn) py.ok py2.ok) (by omega)⟩ (by omega)
/-- an inner question -/
structure Inn (kvs : List (PyData × PyData)) (y : PyData) (own : List PyData) (c : PyData) : Prop where
  is : y = .tuple [.tuple own, c]
  n0 : 0 < own.length
  n1 : own.length ≤ 2
  each : ∀ r ∈ own, Rf kvs r
  cond : PO 3 4 1700 c
def InnSp (f : Fn) : Prop := ∀ (kvs : List (PyData × PyData)) (w x : PyData) (rs : List PyData) (as : List Str) (n : Nat) (post : PyData → List PyData → Nat → Prop), Wd kvs w → Rfs kvs x rs → rs.length ≤ 10 → 0 < as.length → as.length ≤ 20 → (∀ a ∈ as, Nm a) → n + 26 ≤ 1000000 →
  (∀ y own c n', Inn kvs y own c → n' ≤ n + 26 → post y [] n') → f [w, x, .list (as.map .str)] [] n post
theorem inner_sp {fd fp fl : Fn} (hd : DrawSp fd) (hp : PickSp fp) (hl : TermSp fl 2 3 800 11 1) : InnSp (fn__law_inner fl fp fd) := by
  rintro kvs w x rs as n post W R hr ha0 ha1 ha hn q
  have W2 := W
  obtain ⟨ts, rfl, t0, t1, ht⟩ := W2
  have R2 := R
  obtain ⟨rfl, n0, n1, each⟩ := R2
  refine hd 4 n _ (by omega) (by decide) (by decide) fun r r0 r1 => ⟨⟨by decide, by decide⟩, ?_⟩
  have ek : (1 : Int) + r / 3 = ((1 + r / 3).toNat : Nat) := by omega
  show (cutD (as.map .str) none (some (1 + r / 3))).length ≤ 1000000 ∧ lcGo _ _ _ _ (cutD (as.map .str) none (some (1 + r / 3))) [] _ _
  rw [ek]
  have k2 : (1 + r / 3).toNat = 1 ∨ (1 + r / 3).toNat = 2 := by omega
  generalize (1 + r / 3).toNat = k at k2
  rw [cutD_take]
  have lk : ((as.map PyData.str).take k).length ≤ 2 := by rw [List.length_take]; omega
  have lk0 : 0 < ((as.map PyData.str).take k).length := by rw [List.length_take, List.length_map]; omega
  refine ⟨by omega, ?_⟩
  refine lc_inv (fun i acc s => s.n = n + 1 + i ∧ s.rs = [] ∧ acc.length = i ∧ ∀ r ∈ acc, Rf kvs r) ⟨rfl, rfl, rfl, fun _ h => nomatch h⟩ ?_ ?_
  · rintro i y acc ⟨sn, srs⟩ ex ⟨e1, e2, la, h⟩ kt kf ht2 hf
    subst e1 e2
    have hi := (List.getElem?_eq_some_iff.mp ex).1
    obtain ⟨a, ham, rfl⟩ := List.mem_map.mp (List.mem_of_mem_take (List.mem_of_getElem? ex))
    refine (hp ts (n + 1 + i) _ (by omega) t0 (by omega) fun t htm => ?_).2
    obtain ⟨z, tc, tk, ti, rfl, hz, hc⟩ := ht t htm
    refine ht2 _ ⟨n + 1 + i + 1, []⟩ ⟨rfl, rfl, by rw [List.length_append, la]; rfl, fun r hr => ?_⟩
    rcases List.mem_append.mp hr with hr | hr
    · exact h r hr
    · rw [List.mem_singleton.mp hr]
      exact ⟨a, z, rfl, ha a ham, hz, hc⟩
  · rintro own ⟨sn, srs⟩ ⟨e1, e2, la, h⟩
    subst e1 e2
    have o1 : own.length ≤ 2 := by omega
    have o0 : 0 < own.length := by omega
    have mem : ∀ r ∈ own ++ own ++ rs, Rf kvs r := fun r hr => by
      rcases List.mem_append.mp hr with hr | hr
      · rcases List.mem_append.mp hr with hr | hr <;> exact h r hr
      · exact each r hr
    generalize hL : ((as.map PyData.str).take k).length = L at lk lk0 la
    refine ⟨by omega, by rw [List.length_append]; omega, ?_⟩
    refine hl kvs _ _ (own ++ own ++ rs) (n + 1 + L) _ W ⟨rfl, by rw [List.length_append, List.length_append]; omega, by rw [List.length_append, List.length_append]; omega, mem⟩ (by omega) fun y n2 py h2 => ?_
    refine (hp _ n2 _ (by omega) (by decide) (by decide) fun wd hw => ?_).1
    have wl : ∃ z : Str, wd = .str z ∧ (z = "and" ∨ z = "or" ∨ z = "" ∨ z = "not") := by
      simp only [List.mem_cons, List.not_mem_nil, or_false] at hw
      rcases hw with rfl | rfl | rfl | rfl | rfl
      · exact ⟨_, rfl, .inl rfl⟩
      · exact ⟨_, rfl, .inr (.inl rfl)⟩
      · exact ⟨_, rfl, .inr (.inr (.inl rfl))⟩
      · exact ⟨_, rfl, .inr (.inr (.inl rfl))⟩
      · exact ⟨_, rfl, .inr (.inr (.inr rfl))⟩
    obtain ⟨z, rfl, hz⟩ := wl
    refine ⟨rfl, ite2 (fun c => ?_) fun c => ⟨rfl, ite2 (fun c2 => ?_) fun c2 => ?_⟩⟩
    · exact q _ own _ (n2 + 1) ⟨rfl, o0, o1, h, .one (.inr (.inr rfl)) py.pt, okt (oks2 (okw (lit (by decide) (by decide))) py.ok) (by omega)⟩ (by omega)
    · exact q _ own _ (n2 + 1) ⟨rfl, o0, o1, h, py.up (by decide) (by decide) (by decide)⟩ (by omega)
    · refine ⟨by omega, ?_⟩
      refine hl kvs _ _ (own ++ rs) (n2 + 1) _ W ⟨rfl, by rw [List.length_append]; omega, by rw [List.length_append]; omega, fun r hr => by
        rcases List.mem_append.mp hr with hr | hr
        · exact h r hr
        · exact each r hr⟩ (by omega) fun y2 n3 py2 h3 => ?_
      have zz : z = "less" ∨ z = "most" ∨ z = "same" ∨ z = "and" ∨ z = "or" := by
        rcases hz with rfl | rfl | rfl | rfl
        · exact .inr (.inr (.inr (.inl rfl)))
        · exact .inr (.inr (.inr (.inr rfl)))
        · exact absurd rfl c2
        · exact absurd rfl c
      have zn : z.length ≤ 10 ∧ Low z := by rcases hz with rfl | rfl | rfl | rfl <;> exact lit (by decide) (by decide)
      exact q _ own _ n3 ⟨rfl, o0, o1, h, .two zz py.pt py2.pt, okt (oks3 (okw zn) py.ok py2.ok) (by omega)⟩ (by omega)
end K21
end

/-! K21h -/
section
set_option autoImplicit false
open PySem PySem.Spec PyProof.Rows L2 FA FW
namespace K21
def WW : Nat → Nat
  | 0 => 1900
  | m + 1 => 2 * WW m + 20
def NN : Nat → Nat
  | 0 => 31
  | m + 1 => 2 * NN m + 1
def CondSp (f : Fn) (m : Nat) : Prop := ∀ (kvs : List (PyData × PyData)) (w x : PyData) (rs : List PyData) (as : List Str) (n : Nat) (post : PyData → List PyData → Nat → Prop), Wd kvs w → Rfs kvs x rs → rs.length ≤ 10 → as.length ≤ 20 → (∀ a ∈ as, Nm a) → n + NN m ≤ 1000000 →
  (∀ (y : PyData) (as' : List Str) (n' : Nat), PO (5 + m) (7 + m) (WW m) y → as'.length ≤ as.length → (∀ a ∈ as', Nm a) → n' ≤ n + NN m → post y (as'.map .str) n') → f [w, x, .int (m : Int)] (as.map .str) n post
theorem WW_le (m : Nat) : 1900 ≤ WW m := by
  induction m with
  | zero => exact Nat.le_refl _
  | succ m ih => unfold WW; omega
theorem NN_le (m : Nat) : 31 ≤ NN m := by
  induction m with
  | zero => exact Nat.le_refl _
  | succ m ih => unfold NN; omega
theorem last_of {as : List Str} (h : 0 < as.length) : ∃ a ∈ as, (as.map PyData.str).getLast? = some (.str a) ∧ (as.map PyData.str).dropLast = as.dropLast.map PyData.str := by
  have ne : as ≠ [] := by rintro rfl; simp at h
  refine ⟨as.getLast ne, List.getLast_mem ne, ?_, by rw [List.map_dropLast]⟩
  rw [List.getLast?_map, List.getLast?_eq_some_getLast ne]
  rfl
theorem mem_dl {α : Type} {a : α} {l : List α} (h : a ∈ l.dropLast) : a ∈ l := by
  rw [List.dropLast_eq_take] at h
  exact List.mem_of_mem_take h
theorem ifP {c : Prop} [Decidable c] {A B : Prop} (h : c) (a : A) : if c then A else B := by rw [if_pos h]; exact a
theorem ifN {c : Prop} [Decidable c] {A B : Prop} (h : ¬ c) (b : B) : if c then A else B := by rw [if_neg h]; exact b
theorem if2 {c : Prop} [Decidable c] {A B : Prop} (a : c → A) (b : ¬ c → B) : if c then A else B := by
  by_cases h : c
  · rw [if_pos h]; exact a h
  · rw [if_neg h]; exact b h
theorem cond_step {fd fl fi fp fc g : Fn} (hd : DrawSp fd) (hl : TermSp fl 2 3 800 11 1) (hi : InnSp fi) (hp : PickSp fp) (hc : ColSp fc) (m : Nat) (hg : ∀ j, m = j + 1 → CondSp g j) : CondSp (fnb__law_condition fd fl fi fp fc g) m := by
  rintro kvs w x rs as n post W R hr hla ha hn q
  have hW := WW_le m
  have hN := NN_le m
  refine hd 10 n _ (by omega) (by decide) (by decide) fun r r0 r1 => ?_
  -- the last row
  have leaf : fl [w, x, .int 1] [] (n + 1) (fun y _ n' => post y (as.map .str) n') := hl kvs w x rs (n + 1) _ W R (by omega) fun y n' py hy => q y as n' (py.up (by omega) (by omega) (by omega)) (Nat.le_refl _) ha (by omega)
  have pos : ∀ {P : Prop}, (0 : Int) < (m : Int) → (∀ j, m = j + 1 → P) → P := fun h k => k (m - 1) (by omega)
  refine if2 (fun c1 => if2 (fun c2 => ?_) (fun c2 => if2 (fun c3 => ⟨rfl, if2 (fun c4 => ?_) (fun c4 => ⟨rfl, if2 (fun c5 => if2 (fun c6 => ?_) (fun c6 => leaf)) (fun c5 => ifN (by decide) leaf)⟩)⟩) (fun c3 => absurd c1 c3))) (fun c1 => ifN (by decide) (if2 (fun c3 => absurd c3 c1) (fun c3 => ifN (by decide) ⟨rfl, if2 (fun c5 => if2 (fun c6 => ?_) (fun c6 => leaf)) (fun c5 => ifN (by decide) leaf)⟩)))
  · refine pos (of_decide_eq_true c1) fun j ej => ?_
    subst ej
    have e1 : ((j + 1 : Nat) : Int) - 1 = (j : Int) := by omega
    show g [w, x, .int (((j + 1 : Nat) : Int) - 1)] (as.map .str) (n + 1) _
    rw [e1]
    have hr4 := of_decide_eq_true c2
    unfold NN at hn
    have W1 : WW (j + 1) = 2 * WW j + 20 := rfl
    have N1 : NN (j + 1) = 2 * NN j + 1 := rfl
    refine hg j rfl kvs w x rs as (n + 1) _ W R hr hla ha (by omega) fun y as1 n1 py1 l1 h1 k1 => ?_
    obtain ⟨z, hz, ez⟩ := at_some (xs := ([.str "and", .str "or", .str "and", .str "or"] : List PyData)) r0 (by show r < 4; omega)
    show (match atI ([.str "and", .str "or", .str "and", .str "or"] : List PyData) r with
      | some z => _
      | none => False)
    rw [ez]
    have zz : ∃ wd : Str, z = .str wd ∧ (wd = "and" ∨ wd = "or") := by
      simp only [List.mem_cons, List.not_mem_nil, or_false] at hz
      rcases hz with rfl | rfl | rfl | rfl
      · exact ⟨_, rfl, .inl rfl⟩
      · exact ⟨_, rfl, .inr rfl⟩
      · exact ⟨_, rfl, .inl rfl⟩
      · exact ⟨_, rfl, .inr rfl⟩
    obtain ⟨wd, rfl, hwd⟩ := zz
    show g [w, x, .int (((j + 1 : Nat) : Int) - 1)] (as1.map .str) n1 _
    rw [e1]
    refine hg j rfl kvs w x rs as1 n1 _ W R hr (by omega) h1 (by omega) fun y2 as2 n2 py2 l2 h2 k2 => ?_
    have wn : wd.length ≤ 10 ∧ Low wd := by rcases hwd with rfl | rfl <;> exact lit (by decide) (by decide)
    exact q _ as2 n2 ⟨.two (.inr (.inr (.inr hwd))) py1.pt py2.pt, okt (oks3 (okw wn) py1.ok py2.ok) (by omega)⟩ (by omega) h2 (by omega)
  · refine pos (of_decide_eq_true c1) fun j ej => ?_
    subst ej
    have e1 : ((j + 1 : Nat) : Int) - 1 = (j : Int) := by omega
    show g [w, x, .int (((j + 1 : Nat) : Int) - 1)] (as.map .str) (n + 1) _
    rw [e1]
    unfold NN at hn
    have W1 : WW (j + 1) = 2 * WW j + 20 := rfl
    have N1 : NN (j + 1) = 2 * NN j + 1 := rfl
    refine hg j rfl kvs w x rs as (n + 1) _ W R hr hla ha (by omega) fun y as1 n1 py1 l1 h1 k1 => ?_
    exact q _ as1 n1 ⟨.one (.inr (.inr rfl)) py1.pt, okt (oks2 (okw (lit (by decide) (by decide))) py1.ok) (by omega)⟩ l1 h1 (by omega)
  ·
    have l1 : 1 < as.length := by
      have := of_decide_eq_true c6
      rw [List.length_map] at this
      omega
    obtain ⟨a1, ma1, e1, d1⟩ := last_of (as := as) (by omega)
    obtain ⟨a2, ma2, e2, d2⟩ := last_of (as := as.dropLast) (by rw [List.length_dropLast]; omega)
    show (match (as.map PyData.str).getLast? with
      | some y => _
      | none => False)
    rw [e1]
    show (match (as.map PyData.str).dropLast.getLast? with
      | some y => _
      | none => False)
    rw [d1, e2]
    refine hi kvs w x rs [a1, a2] (n + 1) _ W R hr (by simp) (by simp) (fun a hm => ?_) (by omega) fun y own cd n1 I h1 => ?_
    · have : a = a1 ∨ a = a2 := by simpa using hm
      rcases this with rfl | rfl
      · exact ha _ ma1
      · exact ha _ (mem_dl ma2)
    obtain ⟨rfl, o0, o1, oe, pc⟩ := I
    have W2 := W
    obtain ⟨ts, rfl, _⟩ := W2
    match own, o0 with
    | r0 :: rt, o0 =>
      obtain ⟨al, tn, rfl, hal, htn, cs, ec, c0, c1', hcs⟩ := oe r0 List.mem_cons_self
      match cs, c0 with
      | cn :: ct, _ =>
        refine ixT0 (dgetS ec (ixL0 ?_))
        have okO : Okd 2 46 (.tuple (.tuple [.str al, .str tn] :: rt)) := okt (oks_all fun r hr => (oe r hr).ok) (by
          have := Nat.mul_le_mul_left 23 o1
          omega)
        have okI : Okd 5 1748 (.tuple [.tuple (.tuple [.str al, .str tn] :: rt), cd]) := okt (oks2 (okO.mono (by decide) (Nat.le_refl _)) pc.ok) (by decide)
        have okT : Okd 5 40 (.tuple [.str "column", .str a1, .str cn]) := (okt (D := 0) (oks3 (okw (lit (by decide) (by decide))) (okw (ha a1 ma1)) (okw (hcs cn List.mem_cons_self))) (Nat.le_refl _)).mono (by decide) (by decide)
        have ptT : Pt 3 (.tuple [.str "column", .str a1, .str cn]) := .col
        refine hc kvs _ x rs n1 _ W R (by omega) fun yc n2 pyc h2 => ⟨by simp, ?_⟩
        refine (hp _ n2 _ (by omega) (by simp) (by simp) fun z hz => ?_).1
        have fin : PO 5 7 1900 z := by
          have hz2 : z = .tuple [.str "exists", .tuple [.tuple (.tuple [.str al, .str tn] :: rt), cd]] ∨ z = .tuple [.str "same", yc, .tuple [.str "only", .tuple [.tuple (.tuple [.str al, .str tn] :: rt), cd], .tuple [.str "column", .str a1, .str cn]]] ∨
              z = .tuple [.str "is", .tuple [.str "first", .tuple [.tuple (.tuple [.str al, .str tn] :: rt), cd], .tuple [.str "column", .str a1, .str cn]], .str "number"] := by simpa using hz
          have in3 : ∀ wd : Str, wd.length ≤ 10 ∧ Low wd → Okd 6 1801 (.tuple [.str wd, .tuple [.tuple (.tuple [.str al, .str tn] :: rt), cd], .tuple [.str "column", .str a1, .str cn]]) := fun wd hw => okt (oks3 (okw hw) okI okT) (by decide)
          rcases hz2 with rfl | rfl | rfl
          · exact ⟨(Pt.ex pc.pt).up (by decide), (okt (oks2 (okw (lit (by decide) (by decide))) okI) (Nat.le_refl _)).mono (by decide) (by decide)⟩
          · exact ⟨Pt.two (.inr (.inr (.inl rfl))) (pyc.pt.up (by decide)) (Pt.of (.inl rfl) pc.pt ptT), okt (oks3 (okw (lit (by decide) (by decide))) (pyc.ok.mono (by decide) (Nat.le_refl _)) (in3 "only" (lit (by decide) (by decide)))) (by decide)⟩
          · exact ⟨Pt.one (.inr (.inl rfl)) (Pt.of (.inr rfl) pc.pt ptT), okt (oks3 (okw (lit (by decide) (by decide))) (in3 "first" (lit (by decide) (by decide))) (okw (lit (by decide) (by decide)))) (by decide)⟩
        have r2 := q z as.dropLast.dropLast (n2 + 1) (fin.up (by omega) (by omega) (by omega)) (by rw [List.length_dropLast, List.length_dropLast]; omega) (fun a hm => ha a (mem_dl (mem_dl hm))) (by omega)
        rw [← d2] at r2
        exact r2
  ·
    have l1 : 1 < as.length := by
      have := of_decide_eq_true c6
      rw [List.length_map] at this
      omega
    obtain ⟨a1, ma1, e1, d1⟩ := last_of (as := as) (by omega)
    obtain ⟨a2, ma2, e2, d2⟩ := last_of (as := as.dropLast) (by rw [List.length_dropLast]; omega)
    show (match (as.map PyData.str).getLast? with
      | some y => _
      | none => False)
    rw [e1]
    show (match (as.map PyData.str).dropLast.getLast? with
      | some y => _
      | none => False)
    rw [d1, e2]
    refine hi kvs w x rs [a1, a2] (n + 1) _ W R hr (by simp) (by simp) (fun a hm => ?_) (by omega) fun y own cd n1 I h1 => ?_
    · have : a = a1 ∨ a = a2 := by simpa using hm
      rcases this with rfl | rfl
      · exact ha _ ma1
      · exact ha _ (mem_dl ma2)
    obtain ⟨rfl, o0, o1, oe, pc⟩ := I
    have W2 := W
    obtain ⟨ts, rfl, _⟩ := W2
    match own, o0 with
    | r0 :: rt, o0 =>
      obtain ⟨al, tn, rfl, hal, htn, cs, ec, c0, c1', hcs⟩ := oe r0 List.mem_cons_self
      match cs, c0 with
      | cn :: ct, _ =>
        refine ixT0 (dgetS ec (ixL0 ?_))
        have okO : Okd 2 46 (.tuple (.tuple [.str al, .str tn] :: rt)) := okt (oks_all fun r hr => (oe r hr).ok) (by
          have := Nat.mul_le_mul_left 23 o1
          omega)
        have okI : Okd 5 1748 (.tuple [.tuple (.tuple [.str al, .str tn] :: rt), cd]) := okt (oks2 (okO.mono (by decide) (Nat.le_refl _)) pc.ok) (by decide)
        have okT : Okd 5 40 (.tuple [.str "column", .str a1, .str cn]) := (okt (D := 0) (oks3 (okw (lit (by decide) (by decide))) (okw (ha a1 ma1)) (okw (hcs cn List.mem_cons_self))) (Nat.le_refl _)).mono (by decide) (by decide)
        have ptT : Pt 3 (.tuple [.str "column", .str a1, .str cn]) := .col
        refine hc kvs _ x rs n1 _ W R (by omega) fun yc n2 pyc h2 => ⟨by simp, ?_⟩
        refine (hp _ n2 _ (by omega) (by simp) (by simp) fun z hz => ?_).1
        have fin : PO 5 7 1900 z := by
          have hz2 : z = .tuple [.str "exists", .tuple [.tuple (.tuple [.str al, .str tn] :: rt), cd]] ∨ z = .tuple [.str "same", yc, .tuple [.str "only", .tuple [.tuple (.tuple [.str al, .str tn] :: rt), cd], .tuple [.str "column", .str a1, .str cn]]] ∨
              z = .tuple [.str "is", .tuple [.str "first", .tuple [.tuple (.tuple [.str al, .str tn] :: rt), cd], .tuple [.str "column", .str a1, .str cn]], .str "number"] := by simpa using hz
          have in3 : ∀ wd : Str, wd.length ≤ 10 ∧ Low wd → Okd 6 1801 (.tuple [.str wd, .tuple [.tuple (.tuple [.str al, .str tn] :: rt), cd], .tuple [.str "column", .str a1, .str cn]]) := fun wd hw => okt (oks3 (okw hw) okI okT) (by decide)
          rcases hz2 with rfl | rfl | rfl
          · exact ⟨(Pt.ex pc.pt).up (by decide), (okt (oks2 (okw (lit (by decide) (by decide))) okI) (Nat.le_refl _)).mono (by decide) (by decide)⟩
          · exact ⟨Pt.two (.inr (.inr (.inl rfl))) (pyc.pt.up (by decide)) (Pt.of (.inl rfl) pc.pt ptT), okt (oks3 (okw (lit (by decide) (by decide))) (pyc.ok.mono (by decide) (Nat.le_refl _)) (in3 "only" (lit (by decide) (by decide)))) (by decide)⟩
          · exact ⟨Pt.one (.inr (.inl rfl)) (Pt.of (.inr rfl) pc.pt ptT), okt (oks3 (okw (lit (by decide) (by decide))) (in3 "first" (lit (by decide) (by decide))) (okw (lit (by decide) (by decide)))) (by decide)⟩
        have r2 := q z as.dropLast.dropLast (n2 + 1) (fin.up (by omega) (by omega) (by omega)) (by rw [List.length_dropLast, List.length_dropLast]; omega) (fun a hm => ha a (mem_dl (mem_dl hm))) (by omega)
        rw [← d2] at r2
        exact r2
theorem cond_sp {fd fl fi fp fc : Fn} (hd : DrawSp fd) (hl : TermSp fl 2 3 800 11 1) (hi : InnSp fi) (hp : PickSp fp) (hc : ColSp fc) : ∀ m : Nat, CondSp (fn__law_condition fd fl fi fp fc (m + 1)) m
  | 0 => cond_step hd hl hi hp hc 0 fun j h => nomatch h
  | m + 1 => cond_step hd hl hi hp hc (m + 1) fun j h => by cases h; exact cond_sp hd hl hi hp hc m
end K21
end

/-! K21i -/
section
set_option autoImplicit false
open PySem PySem.Spec PyProof.Rows L2 FA FW
namespace K21
/-- a question as drawn: refs, where, told, the rest no greater than D, W -/
structure Ask (kvs : List (PyData × PyData)) (h D W : Nat) (y : PyData) (rs : List PyData) (wh : PyData) (told : List PyData) (o l : PyData) : Prop where
  is : y = .tuple [.tuple rs, wh, .tuple told, o, l]
  refs : Rfs kvs (.tuple rs) rs
  r3 : rs.length ≤ 4
  wh : wh = .none ∨ PO h D W wh
  tl : ∀ t ∈ told, PO h D 3000 t
  t3 : told.length ≤ 4
  oo : ∃ os : List PyData, o = .tuple os ∧ os.length ≤ 1000
  o : Okd D 200 o
  l : Okd D 140 l
def DrnSp (f : Fn) : Prop := ∀ (kvs : List (PyData × PyData)) (w : PyData) (as : List Str) (n : Nat) (post : PyData → List PyData → Nat → Prop), Wd kvs w → as.length = 4 → (∀ a ∈ as, Nm a) → n + 200 ≤ 1000000 →
  (∀ (y : PyData) (rs : List PyData) (wh : PyData) (told : List PyData) (o l : PyData) (n' : Nat), Ask kvs 7 9 7660 y rs wh told o l → told.length ≤ 2 → n' ≤ n + 200 → post y [] n') → f [w, .list (as.map .str), .int 4] [] n post
theorem drawn_sp {fd ft fq fp fc : Fn} (hd : DrawSp fd) (hq : CondSp fq 2) (hp : PickSp fp) (ht : TermSp ft 1 2 360 5 1) (hc : ColSp fc) : DrnSp (fn__law_drawn fq fp fd ft fc) := by
  rintro kvs w as n post W la ha hn q
  have W2 := W
  obtain ⟨ts, rfl, t0, t1, hts⟩ := W2
  refine hd 4 n _ (by omega) (by decide) (by decide) fun r r0 r1 => ⟨⟨by omega, by omega⟩, by rw [rng_len]; omega, ?_⟩
  refine lc_inv (fun i acc s => s.n = n + 1 + i ∧ (∃ zs : List Str, s.rs = [⟨true, true, zs.map .str⟩] ∧ zs.length + i = 4 ∧ ∀ z ∈ zs, Nm z) ∧ acc.length = i ∧ ∀ r ∈ acc, Rf kvs r) ⟨rfl, ⟨as, rfl, la, ha⟩, rfl, fun _ h => nomatch h⟩ ?_ ?_
  · rintro i y acc ⟨sn, srs⟩ ex ⟨e1, ⟨zs, e2, lz, hz⟩, lacc, h⟩ kt kf ht2 hf
    subst e1 e2
    obtain ⟨hi, rfl⟩ := rng_get ex
    obtain ⟨a1, ma1, g1, d1⟩ := last_of (as := zs) (by omega)
    show (match (zs.map PyData.str).getLast? with
      | some y => _
      | none => False)
    rw [g1]
    refine (hp ts (n + 1 + i) _ (by omega) t0 (by omega) fun t htm => ?_).2
    obtain ⟨z, tc, tk, ti, rfl, hz2, hc2⟩ := hts t htm
    refine ht2 _ ⟨n + 1 + i + 1, [⟨true, true, (zs.map PyData.str).dropLast⟩]⟩ ⟨rfl, ⟨zs.dropLast, by rw [d1], by rw [List.length_dropLast]; omega, fun z hm => hz z (mem_dl hm)⟩, by rw [List.length_append, lacc]; rfl, fun r hr => ?_⟩
    rcases List.mem_append.mp hr with hr | hr
    · exact h r hr
    · rw [List.mem_singleton.mp hr]
      exact ⟨a1, z, rfl, hz a1 ma1, hz2, hc2⟩
  · rintro rs ⟨sn, srs⟩ ⟨e1, ⟨zs, e2, lz, hz⟩, lr, hrs⟩
    rw [rng_len] at e1 lr lz
    subst e1 e2
    have er : (1 + r).toNat = 1 ∨ (1 + r).toNat = 2 ∨ (1 + r).toNat = 3 ∨ (1 + r).toNat = 4 := by omega
    generalize (1 + r).toNat = k at er lr lz
    have R : Rfs kvs (.tuple rs) rs := ⟨rfl, by omega, by omega, hrs⟩
    refine hd 8 (n + 1 + k) _ (by omega) (by decide) (by decide) fun r2 _ _ => ?_
    -- behind where
    have rest : ∀ (wh : PyData) (n1 : Nat) (zs1 : List Str), (wh = .none ∨ PO 7 9 7660 wh) → n1 ≤ n + 140 →
        sSeq (sAsg (fUn oTupD (fLst (fLc (iRange1 (fCons (fOp oAddD (fC (.int 1)) (fCall fd (fDeck 0 (fCons (fC (.int 2)) fNil)))) fNil)) (aName 9) bYes (fCall ft (fDeck 0 (fCons (fVar 1) (fCons (fVar 5) (fCons (fC (.int 1)) fNil))))) [9]))) (aName 7))
          (sSeq (sAsg (fUn oTupD (fLst (fLc (iRange1 (fCons (fOp oIxD (fLst (fCons (fC (.int 0)) (fCons (fC (.int 0)) (fCons (fC (.int 0)) (fCons (fC (.int 1)) (fCons (fC (.int 2)) fNil)))))) (fCall fd (fDeck 0 (fCons (fC (.int 5)) fNil)))) fNil)) (aName 9) bYes (fCall fc (fDeck 0 (fCons (fVar 1) (fCons (fVar 5) fNil)))) [9]))) (aName 8))
          (sRet (fTup (fCons (fVar 5) (fCons (fVar 6) (fCons (fVar 7) (fCons (fVar 8) (fCons (fCall fp (fDeck 0 (fCons (fLst (fCons (fC .none) (fCons (fC .none) (fCons (fC (.int 0)) (fCons (fC (.int 1)) (fCons (fC (.int 2)) (fCons (fC (.int 5)) fNil))))))) fNil))) fNil))))))))
          [some .deck, some (.dat (.dict [(.str "tables", .tuple ts), (.str "columns", .dict kvs)])), some (.dat (.list (as.map .str))), some (.dat (.int 4)), some (.reg 0), some (.dat (.tuple rs)), some (.dat wh), none, none, none] ⟨n1, [⟨true, true, zs1.map .str⟩]⟩
          (fun o s' => match o with
            | .ret r => endOf false s' post r
            | .nxt _ => endOf false s' post .none
            | _ => False) := by
      intro wh n1 zs1 pw h1
      refine hd 2 n1 _ (by omega) (by decide) (by decide) fun r3 r30 r31 => ⟨⟨by omega, by omega⟩, by rw [rng_len]; omega, ?_⟩
      refine lc_inv (fun i acc s => s.n ≤ n1 + 1 + 5 * i ∧ s.rs = [⟨true, true, zs1.map .str⟩] ∧ acc.length = i ∧ ∀ t ∈ acc, PO 1 2 360 t) ⟨Nat.le_refl _, rfl, rfl, fun _ h => nomatch h⟩ ?_ ?_
      · rintro i y acc ⟨sn, srs⟩ ex ⟨e1, e2, lacc, h⟩ kt kf ht2 hf
        subst e2
        obtain ⟨hi, rfl⟩ := rng_get ex
        have e1 : sn ≤ n1 + 1 + 5 * i := e1
        refine ht kvs _ _ rs sn _ W R (by omega) fun z n2 pz h2 => ht2 z ⟨n2, [⟨true, true, zs1.map .str⟩]⟩ ⟨by show n2 ≤ _; omega, rfl, by rw [List.length_append, lacc]; rfl, fun t hm => ?_⟩
        rcases List.mem_append.mp hm with hm | hm
        · exact h t hm
        · rw [List.mem_singleton.mp hm]; exact pz
      · rintro told ⟨sn, srs⟩ ⟨e1, e2, lt, htold⟩
        subst e2
        rw [rng_len] at e1 lt
        have e1 : sn ≤ n1 + 1 + 5 * (1 + r3).toNat := e1
        refine hd 5 sn _ (by omega) (by decide) (by decide) fun r4 r40 r41 => ?_
        obtain ⟨v, hv, ev⟩ := at_some (xs := ([.int 0, .int 0, .int 0, .int 1, .int 2] : List PyData)) r40 (by show r4 < 5; omega)
        show (match atI ([.int 0, .int 0, .int 0, .int 1, .int 2] : List PyData) r4 with
          | some z => _
          | none => False)
        rw [ev]
        have hv2 : ∃ j : Nat, v = .int (j : Int) ∧ j ≤ 2 := by
          simp only [List.mem_cons, List.not_mem_nil, or_false] at hv
          rcases hv with rfl | rfl | rfl | rfl | rfl
          · exact ⟨0, rfl, by decide⟩
          · exact ⟨0, rfl, by decide⟩
          · exact ⟨0, rfl, by decide⟩
          · exact ⟨1, rfl, by decide⟩
          · exact ⟨2, rfl, by decide⟩
        obtain ⟨j, rfl, hj⟩ := hv2
        refine ⟨⟨by omega, by omega⟩, by rw [rng_len]; omega, ?_⟩
        refine lc_inv (fun i acc s => s.n ≤ sn + 1 + 2 * i ∧ s.rs = [⟨true, true, zs1.map .str⟩] ∧ acc.length = i ∧ ∀ t ∈ acc, PO 0 1 40 t) ⟨Nat.le_refl _, rfl, rfl, fun _ h => nomatch h⟩ ?_ ?_
        · rintro i y acc ⟨sn2, srs⟩ ex ⟨e3, e4, lacc, h⟩ kt kf ht2 hf
          subst e4
          obtain ⟨hi, rfl⟩ := rng_get ex
          have e3 : sn2 ≤ sn + 1 + 2 * i := e3
          refine hc kvs _ _ rs sn2 _ W R (by omega) fun z n2 pz h2 => ht2 z ⟨n2, [⟨true, true, zs1.map .str⟩]⟩ ⟨by show n2 ≤ _; omega, rfl, by rw [List.length_append, lacc]; rfl, fun t hm => ?_⟩
          rcases List.mem_append.mp hm with hm | hm
          · exact h t hm
          · rw [List.mem_singleton.mp hm]; exact pz
        · rintro ord ⟨sn2, srs⟩ ⟨e3, e4, lo, hord⟩
          subst e4
          rw [rng_len] at e3 lo
          have e3 : sn2 ≤ sn + 1 + 2 * (j : Int).toNat := e3
          refine (hp _ sn2 _ (by omega) (by decide) (by decide) fun l hl => ?_).1
          have ol : Okd 0 140 l := by
            simp only [List.mem_cons, List.not_mem_nil, or_false] at hl
            rcases hl with rfl | rfl | rfl | rfl | rfl | rfl
            · exact okd_non
            · exact okd_non
            all_goals exact okd_int (by decide) (by decide)
          refine q _ rs wh told (.tuple ord) l (sn2 + 1) ⟨rfl, R, by omega, pw, fun t hm => (htold t hm).up (by decide) (by decide) (by decide), by omega, ⟨ord, rfl, by omega⟩, ?_, ol.mono (by decide) (Nat.le_refl _)⟩ (by omega) (by omega)
          refine (okt (oks_all fun t hm => (hord t hm).ok) (Nat.le_refl _)).mono (by decide) ?_
          have : ord.length ≤ 2 := by omega
          have := Nat.mul_le_mul_left 41 this
          omega
    refine if2 (fun c => ?_) (fun c => rest .none (n + 1 + k + 1) zs (.inl rfl) (by omega))
    refine hq kvs _ _ rs zs (n + 1 + k + 1) _ W R (by omega) (by omega) hz (by show _ + 127 ≤ _; omega) fun wh zs1 n1 pw _ _ h1 => rest wh n1 zs1 (.inr pw) ?_
    have : NN 2 = 127 := rfl
    omega
end K21
end

/-! K21j -/
section
set_option autoImplicit false
open PySem PySem.Spec PyProof.Rows L2 FA FW
namespace K21
open PySem.W (alike alikeAll AllAlike Sortable dataLe)
def IsStr (x : PyData) : Prop := ∃ z, x = .str z ∧ Nm z
theorem strs_of : ∀ {xs : List PyData}, (∀ x ∈ xs, IsStr x) → ∃ zs : List Str, xs = zs.map .str ∧ ∀ z ∈ zs, Nm z
  | [], _ => ⟨[], rfl, fun _ h => nomatch h⟩
  | x :: xs, h => by
    obtain ⟨z, rfl, hz⟩ := h x List.mem_cons_self
    obtain ⟨zs, rfl, hzs⟩ := strs_of fun y hy => h y (List.mem_cons_of_mem _ hy)
    exact ⟨z :: zs, rfl, fun y hy => by
      rcases List.mem_cons.mp hy with rfl | hy
      · exact hz
      · exact hzs y hy⟩
theorem alike_strs : ∀ {xs ys : List PyData}, (∀ x ∈ xs, IsStr x) → (∀ y ∈ ys, IsStr y) → alikeAll xs ys = true
  | [], ys, _, _ => by cases ys <;> rfl
  | x :: xs, [], _, _ => rfl
  | x :: xs, y :: ys, h, k => by
    obtain ⟨z, rfl, _⟩ := h x List.mem_cons_self
    obtain ⟨w, rfl, _⟩ := k y List.mem_cons_self
    have := alike_strs (xs := xs) (ys := ys) (fun y hy => h y (List.mem_cons_of_mem _ hy)) (fun y hy => k y (List.mem_cons_of_mem _ hy))
    simp only [alikeAll, alike, this, Bool.and_self]
/-- a column -/
def IsCol (x : PyData) : Prop := ∃ z ks, x = .tuple [.str z, .tuple ks] ∧ Nm z ∧ 0 < ks.length ∧ ks.length ≤ 3 ∧ ∀ k ∈ ks, IsStr k
theorem alike_cols : ∀ {xs ys : List PyData}, (∀ x ∈ xs, IsCol x) → (∀ y ∈ ys, IsCol y) → alikeAll xs ys = true
  | [], ys, _, _ => by cases ys <;> rfl
  | x :: xs, [], _, _ => rfl
  | x :: xs, y :: ys, h, k => by
    obtain ⟨z, ks, rfl, _, _, _, h1⟩ := h x List.mem_cons_self
    obtain ⟨w, ls, rfl, _, _, _, h2⟩ := k y List.mem_cons_self
    have := alike_cols (xs := xs) (ys := ys) (fun y hy => h y (List.mem_cons_of_mem _ hy)) (fun y hy => k y (List.mem_cons_of_mem _ hy))
    have a2 := alike_strs h1 h2
    simp only [alikeAll, alike, this, a2, Bool.and_self]
structure IsTab (x : PyData) (z : Str) (cs : List PyData) : Prop where
  is : ∃ ks is, x = .tuple [.str z, .tuple cs, .tuple ks, .tuple is] ∧ (∀ k ∈ ks, IsStr k) ∧ ks.length ≤ 3 ∧ (∀ i ∈ is, IsStr i) ∧ is.length ≤ 3
  nm : Nm z
  cols : ∀ c ∈ cs, IsCol c
  c0 : 0 < cs.length
  c3 : cs.length ≤ 3
theorem IsStr.ok {x : PyData} (h : IsStr x) : Okd 0 10 x := by
  obtain ⟨z, rfl, hz⟩ := h
  exact okw hz
theorem ok_strs {xs : List PyData} (h : ∀ x ∈ xs, IsStr x) (l : xs.length ≤ 3) : Okd 1 33 (.tuple xs) := okt (oks_all fun x hx => (h x hx).ok) (by have := Nat.mul_le_mul_left 11 l; omega)
theorem IsCol.ok {x : PyData} (h : IsCol x) : Okd 2 45 x := by
  obtain ⟨z, ks, rfl, hz, _, l, hk⟩ := h
  exact okt (oks2 ((okw hz).mono (Nat.zero_le _) (Nat.le_refl _)) (ok_strs hk l)) (by decide)
theorem IsTab.ok {x : PyData} {z : Str} {cs : List PyData} (h : IsTab x z cs) : Okd 4 250 x := by
  obtain ⟨ks, is, rfl, h1, l1, h2, l2⟩ := h.is
  have oc : Okd 3 138 (.tuple cs) := okt (oks_all fun c hc => (h.cols c hc).ok) (by have := Nat.mul_le_mul_left 46 h.c3; omega)
  exact (okt (oks_cons ((okw h.nm).mono (Nat.zero_le _) (Nat.le_refl _)) (oks3 oc ((ok_strs h1 l1).mono (by decide) (Nat.le_refl _)) ((ok_strs h2 l2).mono (by decide) (Nat.le_refl _)))) (by decide))
theorem alike_tab {x y : PyData} {z w : Str} {cs ds : List PyData} (h : IsTab x z cs) (k : IsTab y w ds) : alike x y = true := by
  obtain ⟨ks, is, rfl, h1, l1, h2, l2⟩ := h.is
  obtain ⟨ks', is', rfl, h1', l1', h2', l2'⟩ := k.is
  have a1 := alike_cols h.cols k.cols
  have a2 := alike_strs h1 h1'
  have a3 := alike_strs h2 h2'
  simp only [alike, alikeAll, a1, a2, a3, Bool.and_self]
theorem sort_mem {ds : List PyData} {x : PyData} : x ∈ ds.mergeSort (dataLe false id) ↔ x ∈ ds := (List.mergeSort_perm ds _).mem_iff
theorem sort_len {ds : List PyData} : (ds.mergeSort (dataLe false id)).length = ds.length := (List.mergeSort_perm ds _).length_eq
/-- sorted of texts, of tables -/
theorem sort_strs {ds : List PyData} (h : ∀ x ∈ ds, IsStr x) : AllAlike ds ∧ Sortable ds ∧ ∀ d ∈ ds, d.depth ≤ 60 := by
  refine ⟨fun x hx y hy => ?_, .inr fun x hx => ?_, fun x hx => ?_⟩
  · obtain ⟨z, rfl, _⟩ := h x hx
    obtain ⟨w, rfl, _⟩ := h y hy
    rfl
  · obtain ⟨z, rfl, _⟩ := h x hx
    exact ⟨fun e => (by cases e), fun xs e => (by cases e)⟩
  · exact Nat.le_trans (h x hx).ok.dp (by decide)
theorem sort_tabs {ds : List PyData} (h : ∀ x ∈ ds, ∃ z cs, IsTab x z cs) : AllAlike ds ∧ Sortable ds ∧ ∀ d ∈ ds, d.depth ≤ 60 := by
  refine ⟨fun x hx y hy => ?_, .inl fun x hx => ?_, fun x hx => ?_⟩
  · obtain ⟨z, cs, hz⟩ := h x hx
    obtain ⟨w, ds, hw⟩ := h y hy
    exact alike_tab hz hw
  · obtain ⟨z, cs, hz⟩ := h x hx
    obtain ⟨ks, is, e, _⟩ := hz.is
    exact ⟨_, _, e⟩
  · obtain ⟨z, cs, hz⟩ := h x hx
    exact Nat.le_trans hz.ok.dp (by decide)
def SchSp (f : Fn) : Prop := ∀ (zs : List Str) (m n : Nat) (post : PyData → List PyData → Nat → Prop), zs.length = 16 → (∀ z ∈ zs, Nm z) → 0 < m → m ≤ 3 → n + 40 ≤ 1000000 →
  (∀ (ts : List PyData) (n' : Nat), ts.length = m → (∀ t ∈ ts, ∃ z cs, IsTab t z cs) → n' ≤ n + 40 → post (.tuple ts) [] n') → f [.list (zs.map .str), .int (m : Int)] [] n post
theorem get_str {zs : List Str} {j : Nat} (h : j < zs.length) : ∃ z ∈ zs, atI (zs.map PyData.str) (j : Int) = some (.str z) := ⟨zs[j], List.getElem_mem h, atI_nat (by rw [List.getElem?_map, List.getElem?_eq_getElem h]; rfl)⟩
theorem schema_sp {fd fp : Fn} (hd : DrawSp fd) (hp : PickSp fp) : SchSp (fn__law_schema fd fp) := by
  rintro zs m n post lz hz m0 m3 hn q
  refine ⟨⟨by omega, by omega⟩, ?_⟩
  refine for_inv (fun i env s => (∃ a5 a6 a7 a8, env = [some .deck, some (.dat (.list (zs.map .str))), some (.dat (.int (m : Int))), some (.reg 0),
      some (.dat (.list [.tuple [.str "number"], .tuple [.str "number", .str "word"], .tuple [.str "nothing", .str "number", .str "word"], .tuple [.str "word"], .tuple [.str "nothing", .str "number"]])), a5, a6, a7, a8, none, none]) ∧
      ∃ ts, s.rs = [⟨true, true, ts⟩] ∧ ts.length = i ∧ (∀ t ∈ ts, ∃ z cs, IsTab t z cs) ∧ s.n ≤ n + 12 * i) ⟨⟨none, none, none, none, rfl⟩, [], rfl, rfl, (fun _ h => nomatch h), Nat.le_refl _⟩ ?_ ?_
  · rintro i x env ⟨sn, srs⟩ ex ⟨⟨a5, a6, a7, a8, rfl⟩, ts, e1, lt, ht, e2⟩ kn hk
    subst e1
    have e2 : sn ≤ n + 12 * i := e2
    obtain ⟨hi, rfl⟩ := rng_get ex
    have hi : i < m := by simpa using hi
    refine hd 3 sn _ (by omega) (by decide) (by decide) fun r r0 r1 => ?_
    have e5 : (5 : Int) + (0 + (i : Int)) = ((5 + i : Nat) : Int) := by omega
    have e6 : (6 : Int) + (0 + (i : Int)) + r = ((6 + i + r.toNat : Nat) : Int) := by omega
    show (cutD (zs.map .str) (some (5 + (0 + (i : Int)))) (some (6 + (0 + (i : Int)) + r))).length ≤ 1000000 ∧ lcGo _ _ _ _ (cutD (zs.map .str) (some (5 + (0 + (i : Int)))) (some (6 + (0 + (i : Int)) + r))) [] _ _
    rw [e5, e6, cutD_mid]
    have lc : (((zs.map PyData.str).drop (5 + i)).take (6 + i + r.toNat - (5 + i))).length = 1 + r.toNat := by
      rw [List.length_take, List.length_drop, List.length_map, lz]
      omega
    have mc : ∀ x ∈ ((zs.map PyData.str).drop (5 + i)).take (6 + i + r.toNat - (5 + i)), IsStr x := fun x hx => by
      obtain ⟨z, hm, rfl⟩ := List.mem_map.mp (List.mem_of_mem_drop (List.mem_of_mem_take hx))
      exact ⟨z, rfl, hz z hm⟩
    generalize ((zs.map PyData.str).drop (5 + i)).take (6 + i + r.toNat - (5 + i)) = nm at lc mc
    refine ⟨by omega, ?_⟩
    refine lc_inv (fun j acc s => s.n = sn + 1 + j ∧ s.rs = [⟨true, true, ts⟩] ∧ acc.length = j ∧ ∀ c ∈ acc, IsCol c) ⟨rfl, rfl, rfl, fun _ h => nomatch h⟩ ?_ ?_
    · rintro j y acc ⟨sm, srs⟩ ey ⟨f1, f2, lacc, h⟩ kt kf ht2 hf
      subst f1 f2
      have hj := (List.getElem?_eq_some_iff.mp ey).1
      obtain ⟨z, rfl, hzn⟩ := mc y (List.mem_of_getElem? ey)
      refine (hp _ (sn + 1 + j) _ (by omega) (by decide) (by decide) fun k hk => ?_).1
      have hk2 : ∃ ks, k = .tuple ks ∧ 0 < ks.length ∧ ks.length ≤ 3 ∧ ∀ c ∈ ks, IsStr c := by
        have str : ∀ {w : Str}, Nm w → IsStr (.str w) := fun {w} h => ⟨w, rfl, h⟩
        have a1 : Nm "number" := lit (by decide) (by decide)
        have a2 : Nm "word" := lit (by decide) (by decide)
        have a3 : Nm "nothing" := lit (by decide) (by decide)
        simp only [List.mem_cons, List.not_mem_nil, or_false] at hk
        rcases hk with rfl | rfl | rfl | rfl | rfl
        all_goals
          refine ⟨_, rfl, by decide, by decide, fun c hc => ?_⟩
          simp only [List.mem_cons, List.not_mem_nil, or_false] at hc
          first
            | (rcases hc with rfl | rfl | rfl; exact str a3; exact str a1; exact str a2)
            | (rcases hc with rfl | rfl; exact str a1; exact str a2)
            | (rcases hc with rfl | rfl; exact str a3; exact str a1)
            | (subst hc; exact str a1)
            | (subst hc; exact str a2)
      obtain ⟨ks, rfl, k0, k3, hks⟩ := hk2
      refine ht2 _ ⟨sn + 1 + j + 1, [⟨true, true, ts⟩]⟩ ⟨rfl, rfl, by rw [List.length_append, lacc]; rfl, fun c hc => ?_⟩
      rcases List.mem_append.mp hc with hc | hc
      · exact h c hc
      · rw [List.mem_singleton.mp hc]
        exact ⟨z, ks, rfl, hzn, k0, k3, hks⟩
    · rintro cols ⟨sm, srs⟩ ⟨f1, f2, lcol, hcols⟩
      subst f1 f2
      rw [lc] at lcol
      rw [lc]
      refine hd 6 (sn + 1 + (1 + r.toNat)) _ (by omega) (by decide) (by decide) fun r2 _ _ => ⟨rfl, ?_⟩
      obtain ⟨c0, ct, rfl⟩ : ∃ c0 ct, cols = c0 :: ct := List.exists_cons_of_length_pos (by omega)
      obtain ⟨z0, k0, rfl, hz0, _⟩ := hcols c0 List.mem_cons_self
      -- behind the keys
      have rest : ∀ (ks : List PyData) (kb : FW.Env → S → Prop) (kr : PyData → S → Prop), (∀ k ∈ ks, IsStr k) → ks.length ≤ 3 →
          sSeq (sAsg (fUn oTupD (fCb oSortD (fCons (fLst (fLc (iTupD (fVar 6)) (aTup [(aName 9), (aName 10)]) (fTest (fOp oGtD (fCall fd (fDeck 0 (fCons (fC (.int 3)) fNil))) (fC (.int 0)))) (fVar 9) [9, 10])) fNil))) (aName 8))
            (sApp 3 (fTup (fCons (fOp oIxD (fVar 1) (fVar 5)) (fCons (fVar 6) (fCons (fVar 7) (fCons (fVar 8) fNil))))))
            [some .deck, some (.dat (.list (zs.map .str))), some (.dat (.int (m : Int))), some (.reg 0),
              some (.dat (.list [.tuple [.str "number"], .tuple [.str "number", .str "word"], .tuple [.str "nothing", .str "number", .str "word"], .tuple [.str "word"], .tuple [.str "nothing", .str "number"]])),
              some (.dat (.int (0 + (i : Int)))), some (.dat (.tuple (.tuple [.str z0, .tuple k0] :: ct))), some (.dat (.tuple ks)), a8, none, none] ⟨sn + 1 + (1 + r.toNat) + 1, [⟨true, true, ts⟩]⟩ (Kn kn kb kr) := by
        intro ks kb kr hks lks
        refine ⟨by simp only [List.length_cons] at lcol ⊢; omega, ?_⟩
        refine lc_inv (fun j acc s => s.n = sn + 1 + (1 + r.toNat) + 1 + j ∧ s.rs = [⟨true, true, ts⟩] ∧ acc.length ≤ j ∧ ∀ c ∈ acc, IsStr c) ⟨rfl, rfl, Nat.le_refl _, fun _ h => nomatch h⟩ ?_ ?_
        · rintro j y acc ⟨sm, srs⟩ ey ⟨f1, f2, lacc, h⟩ kt kf ht2 hf
          subst f1 f2
          have hj := (List.getElem?_eq_some_iff.mp ey).1
          obtain ⟨w, ks2, rfl, hw, _⟩ := hcols y (List.mem_of_getElem? ey)
          refine ⟨rfl, hd 3 (sn + 1 + (1 + r.toNat) + 1 + j) _ (by omega) (by decide) (by decide) fun r3 _ _ => if2 (fun _ => ?_) (fun _ => ?_)⟩
          · refine ht2 _ ⟨sn + 1 + (1 + r.toNat) + 1 + j + 1, [⟨true, true, ts⟩]⟩ ⟨rfl, rfl, by rw [List.length_append]; show acc.length + 1 ≤ _; omega, fun c hc => ?_⟩
            rcases List.mem_append.mp hc with hc | hc
            · exact h c hc
            · rw [List.mem_singleton.mp hc]
              exact ⟨w, rfl, hw⟩
          · exact hf ⟨sn + 1 + (1 + r.toNat) + 1 + j + 1, [⟨true, true, ts⟩]⟩ ⟨rfl, rfl, by omega, h⟩
        · rintro ix ⟨sm, srs⟩ ⟨f1, f2, lix, hix⟩
          subst f1 f2
          obtain ⟨s1, s2, s3⟩ := sort_strs hix
          refine ⟨s1, s2, s3, ?_⟩
          obtain ⟨zt, hzt, ezt⟩ := get_str (zs := zs) (j := i) (by omega)
          show (match atI (zs.map PyData.str) (0 + (i : Int)) with
            | some z => _
            | none => False)
          rw [show (0 : Int) + (i : Int) = (i : Int) by omega, ezt]
          refine ⟨by omega, ?_⟩
          have tab : IsTab (.tuple [.str zt, .tuple (.tuple [.str z0, .tuple k0] :: ct), .tuple ks, .tuple (ix.mergeSort (dataLe false id))]) zt (.tuple [.str z0, .tuple k0] :: ct) :=
            ⟨⟨ks, _, rfl, hks, lks, fun x hx => hix x (sort_mem.mp hx), by rw [sort_len]; omega⟩, hz zt hzt, hcols, by simp, by omega⟩
          refine hk _ ⟨_, _⟩ ⟨⟨_, _, _, _, rfl⟩, ts ++ [_], rfl, by rw [List.length_append, lt]; rfl, fun t hm => ?_, ?_⟩
          · rcases List.mem_append.mp hm with hm | hm
            · exact ht t hm
            · rw [List.mem_singleton.mp hm]
              exact ⟨_, _, tab⟩
          · show sn + 1 + (1 + r.toNat) + 1 + (.tuple [.str z0, .tuple k0] :: ct : List PyData).length ≤ n + 12 * (i + 1)
            omega
      refine if2 (fun _ => ?_) (fun _ => rest [] _ _ (fun _ h => nomatch h) (by decide))
      refine ixT0 ?_
      exact rest [.str z0] _ _ (fun k hk => by rw [List.mem_singleton.mp hk]; exact ⟨z0, rfl, hz0⟩) (by simp)
  · rintro env ⟨sn, srs⟩ ⟨⟨a5, a6, a7, a8, rfl⟩, ts, e1, lt, ht, e2⟩
    subst e1
    rw [rng_len] at lt e2
    have e2 : sn ≤ n + 12 * (m : Int).toNat := e2
    obtain ⟨s1, s2, s3⟩ := sort_tabs ht
    refine ⟨s1, s2, s3, ?_⟩
    exact q _ sn (by rw [sort_len, lt]; omega) (fun t hm => ht t (sort_mem.mp hm)) (by omega)
end K21
end

/-! K21k -/
section
set_option autoImplicit false
open PySem PySem.Spec PyProof.Rows L2 FA FW
namespace K21
theorem atN {xs : List PyData} {i : Nat} {x : PyData} (e : xs[i]? = some x) : atI xs (i : Int) = some x := atI_nat e
theorem intsD_app {l m : List Nat} : intsD (l ++ m) = intsD l ++ intsD m := by unfold intsD; rw [List.map_append]
theorem intsD_len {l : List Nat} : (intsD l).length = l.length := by unfold intsD; rw [List.length_map]
/-! the program's parts -/
def AtSp (f : Fn) : Prop := ∀ (x y : PyData) (l : List Nat) (n : Nat) (post : PyData → List PyData → Nat → Prop), sub x l = some y → post y [] n → f [x, .tuple (intsD l)] [] n post
theorem at_go {y pl : PyData} {s : S} {post : Out → S → Prop} : ∀ (l : List Nat) (x : PyData) (a2 : Option U), sub x l = some y → (∀ a2, post (.nxt [some (.dat y), some (.dat pl), a2]) s) →
    forGo (aName 2) (sAsg (fOp oIxD (fVar 0) (fVar 2)) (aName 0)) (intsD l) [some (.dat x), some (.dat pl), a2] s post
  | [], x, a2, h, q => by
    have : x = y := Option.some.inj h
    subst this
    exact q a2
  | i :: r, x, a2, h, q => by
    obtain ⟨xs, z, rfl, e, h⟩ := sub_bad h
    show (match atI xs (i : Int) with
      | some z => _
      | none => False)
    rw [atN e]
    exact at_go r z _ h q
theorem at_sp : AtSp fn_at_place := fun x y l n post h q => at_go l x none h fun _ => q
theorem part_sp {fa : Fn} (ha : AtSp fa) : AtSp (fn_part_at fa) := fun x y l n post h q => ha x y l 0 _ h q
/-! the steps within a part, and all parts -/
def steps : PyData → List (List Nat × PyData)
  | .tuple (.str w :: r) =>
    if w = "plus" ∨ w = "is" ∨ w = "not" then (match r with
      | p :: _ => [([1], p)]
      | _ => [])
    else if w = "exists" then (match r with
      | [.tuple [_, c]] => [([1, 1], c)]
      | _ => [])
    else if w = "only" ∨ w = "first" then (match r with
      | [.tuple [_, c], t] => [([1, 1], c), ([2], t)]
      | _ => [])
    else if w = "column" ∨ w = "value" then []
    else (match r with
      | [p, q] => [([1], p), ([2], q)]
      | _ => [])
  | _ => []
/-- all parts, with their places behind lead; k: no more than so deep -/
def allP : Nat → List Nat → PyData → List (List Nat × PyData)
  | 0, lead, x => [(lead, x)]
  | k + 1, lead, x => (lead, x) :: (steps x).flatMap fun s => allP k (lead ++ s.1) s.2
theorem steps_pt {h : Nat} {x : PyData} (p : Pt h x) : ∀ s ∈ steps x, ∃ j, h = j + 1 ∧ Pt j s.2 ∧ sub x s.1 = some s.2 ∧ s.1.length ≤ 2 := by
  cases p with
  | @val n v =>
    have e : steps (.tuple [.str "value", v]) = [] := rfl
    rw [e]
    exact fun _ h => nomatch h
  | @col n a c =>
    have e : steps (.tuple [.str "column", .str a, .str c]) = [] := rfl
    rw [e]
    exact fun _ h => nomatch h
  | @one n w q r hw hp =>
    have e : steps (.tuple (.str w :: q :: r)) = [([1], q)] := by rcases hw with rfl | rfl | rfl <;> rfl
    rw [e]
    intro s hs
    rw [List.mem_singleton] at hs
    subst hs
    exact ⟨_, rfl, hp, rfl, by simp⟩
  | @ex n r c hc =>
    have e : steps (.tuple [.str "exists", .tuple [r, c]]) = [([1, 1], c)] := rfl
    rw [e]
    intro s hs
    rw [List.mem_singleton] at hs
    subst hs
    exact ⟨_, rfl, hc, rfl, by simp⟩
  | @of n w r c t hw hc ht =>
    have e : steps (.tuple [.str w, .tuple [r, c], t]) = [([1, 1], c), ([2], t)] := by rcases hw with rfl | rfl <;> rfl
    rw [e]
    intro s hs
    simp only [List.mem_cons, List.not_mem_nil, or_false] at hs
    rcases hs with rfl | rfl
    · exact ⟨_, rfl, hc, rfl, by simp⟩
    · exact ⟨_, rfl, ht, rfl, by simp⟩
  | @two n w q t hw hp hq =>
    have e : steps (.tuple [.str w, q, t]) = [([1], q), ([2], t)] := by rcases hw with rfl | rfl | rfl | rfl | rfl <;> rfl
    rw [e]
    intro s hs
    simp only [List.mem_cons, List.not_mem_nil, or_false] at hs
    rcases hs with rfl | rfl
    · exact ⟨_, rfl, hp, rfl, by simp⟩
    · exact ⟨_, rfl, hq, rfl, by simp⟩
theorem steps_len {h : Nat} {x : PyData} (p : Pt h x) : (steps x).length ≤ 2 := by
  cases p with
  | val => exact Nat.zero_le _
  | col => exact Nat.zero_le _
  | one hw hp => rcases hw with rfl | rfl | rfl <;> exact (by decide : 1 ≤ 2)
  | ex hc => exact (by decide : 1 ≤ 2)
  | of hw hc ht => rcases hw with rfl | rfl <;> exact (by decide : 2 ≤ 2)
  | two hw hp hq => rcases hw with rfl | rfl | rfl | rfl | rfl <;> exact (by decide : 2 ≤ 2)
theorem allP_ok : ∀ (k h : Nat) (lead : List Nat) (x : PyData), Pt h x → ∀ it ∈ allP k lead x, ∃ rel, it.1 = lead ++ rel ∧ sub x rel = some it.2 ∧ rel.length ≤ 2 * h ∧ Pt h it.2
  | 0, h, lead, x, p, it, hit => by
    unfold allP at hit
    rw [List.mem_singleton] at hit
    subst hit
    exact ⟨[], by rw [List.append_nil], rfl, Nat.zero_le _, p⟩
  | k + 1, h, lead, x, p, it, hit => by
    unfold allP at hit
    rcases List.mem_cons.mp hit with rfl | hit
    · exact ⟨[], by rw [List.append_nil], rfl, Nat.zero_le _, p⟩
    · obtain ⟨s, hs, hit⟩ := List.mem_flatMap.mp hit
      obtain ⟨j, rfl, pj, es, ls⟩ := steps_pt p s hs
      obtain ⟨rel, e1, e2, l1, p2⟩ := allP_ok k j (lead ++ s.1) s.2 pj it hit
      refine ⟨s.1 ++ rel, by rw [e1, List.append_assoc], by rw [sub_app es]; exact e2, by rw [List.length_append]; omega, p2.up (by omega)⟩
theorem allP_len : ∀ (k h : Nat) (lead : List Nat) (x : PyData), Pt h x → (allP k lead x).length + 1 ≤ 2 ^ (h + 1)
  | 0, h, lead, x, p => by
    show 2 ≤ _
    have := Nat.pow_le_pow_right (show 0 < 2 by decide) (show 1 ≤ h + 1 by omega)
    exact this
  | k + 1, h, lead, x, p => by
    unfold allP
    rw [List.length_cons, List.length_flatMap]
    have sl := steps_len p
    have each : ∀ s ∈ steps x, (allP k (lead ++ s.1) s.2).length + 1 ≤ 2 ^ h := fun s hs => by
      obtain ⟨j, rfl, pj, _, _⟩ := steps_pt p s hs
      exact allP_len k j _ _ pj
    have p1 : 2 ^ (h + 1) = 2 * 2 ^ h := by rw [Nat.pow_succ]; omega
    have p0 : 0 < 2 ^ h := Nat.two_pow_pos h
    match e : steps x, sl, each with
    | [], _, _ => simp; omega
    | [a], _, each =>
      have := each a (by simp)
      simp
      omega
    | [a, b], _, each =>
      have h1 := each a (by simp)
      have h2 := each b (by simp)
      simp
      omega
theorem flatMap_cong {α β : Type} {f g : α → List β} : ∀ {l : List α}, (∀ x ∈ l, f x = g x) → l.flatMap f = l.flatMap g
  | [], _ => rfl
  | x :: l, h => by rw [List.flatMap_cons, List.flatMap_cons, h x List.mem_cons_self, flatMap_cong fun y hy => h y (List.mem_cons_of_mem _ hy)]
/-- deeper looks find no more -/
theorem allP_more : ∀ (k h : Nat) (lead : List Nat) (x : PyData), Pt h x → h ≤ k → allP (k + 1) lead x = allP k lead x
  | 0, h, lead, x, p, hk => by
    have : steps x = [] := by
      cases e : steps x with
      | nil => rfl
      | cons s r =>
        obtain ⟨j, ej, _⟩ := steps_pt p s (by rw [e]; exact List.mem_cons_self)
        omega
    unfold allP
    rw [this]
    rfl
  | k + 1, h, lead, x, p, hk => by
    rw [allP, allP]
    congr 1
    apply flatMap_cong
    intro s hs
    obtain ⟨j, rfl, pj, _, _⟩ := steps_pt p s hs
    exact allP_more k j _ _ pj (by omega)
end K21
end

/-! K21l -/
section
set_option autoImplicit false
open PySem PySem.Spec PyProof.Rows L2 FA FW
namespace K21
/-! which parts stand within a place -/
def pre (l m : List Nat) : Bool := decide (m.take l.length = l)
theorem pre_app {l a b : List Nat} : pre (l ++ a) (l ++ b) = pre a b := by
  unfold pre
  have : (l ++ b).take (l ++ a).length = l ++ b.take a.length := by
    rw [List.length_append, List.take_append, List.take_of_length_le (by omega)]
    congr 1
    congr 1
    omega
  rw [this]
  by_cases h : b.take a.length = a
  · rw [decide_eq_true h, h, decide_eq_true rfl]
  · rw [decide_eq_false h, decide_eq_false fun e => h (List.append_cancel_left e)]
theorem pre_nil {m : List Nat} : pre [] m = true := by
  unfold pre
  exact decide_eq_true rfl
theorem pre_ne {i j : Nat} {a b : List Nat} (h : i ≠ j) : pre (i :: a) (j :: b) = false := by
  unfold pre
  refine decide_eq_false fun e => ?_
  rw [List.length_cons, List.take_succ_cons] at e
  exact h (List.cons.inj e).1.symm
theorem pre_end {i : Nat} {a : List Nat} : pre (i :: a) [] = false := by
  unfold pre
  exact decide_eq_false fun e => by rw [List.take_nil] at e; cases e
theorem steps_form {h : Nat} {x : PyData} (p : Pt h x) : steps x = [] ∨ (∃ l c, steps x = [(1 :: l, c)]) ∨ ∃ l c q, steps x = [(1 :: l, c), ([2], q)] := by
  cases p with
  | val => exact .inl rfl
  | col => exact .inl rfl
  | one hw hp => rcases hw with rfl | rfl | rfl <;> exact .inr (.inl ⟨[], _, rfl⟩)
  | ex hc => exact .inr (.inl ⟨[1], _, rfl⟩)
  | of hw hc ht => rcases hw with rfl | rfl <;> exact .inr (.inr ⟨[1], _, _, rfl⟩)
  | two hw hp hq => rcases hw with rfl | rfl | rfl | rfl | rfl <;> exact .inr (.inr ⟨[], _, _, rfl⟩)
theorem filter_none {α : Type} {f : α → Bool} {l : List α} (h : ∀ x ∈ l, f x = false) : l.filter f = [] := by
  rw [List.filter_eq_nil_iff]
  intro x hx
  rw [h x hx]
  simp
theorem filter_all {α : Type} {f : α → Bool} {l : List α} (h : ∀ x ∈ l, f x = true) : l.filter f = l := List.filter_eq_self.mpr h
theorem pre_filter : ∀ (k h : Nat) (lead rel : List Nat) (x p : PyData), Pt h x → h ≤ k → (lead ++ rel, p) ∈ allP k lead x → (allP k lead x).filter (fun it => pre (lead ++ rel) it.1) = allP k (lead ++ rel) p := by
  intro k
  induction k with
  | zero =>
    intro h lead rel x p hx hk hm
    unfold allP at hm ⊢
    rw [List.mem_singleton] at hm
    obtain ⟨e1, e2⟩ := Prod.mk.inj hm
    have : rel = [] := List.append_right_eq_self.mp e1
    subst this e2
    rw [List.append_nil]
    refine filter_all fun it hit => ?_
    rw [List.mem_singleton] at hit
    subst hit
    have := pre_app (l := lead) (a := []) (b := [])
    rw [List.append_nil] at this
    rw [this, pre_nil]
  | succ k ih =>
    intro h lead rel x p hx hk hm
    cases rel with
    | nil =>
      have all : (allP (k + 1) lead x).filter (fun it => pre (lead ++ []) it.1) = allP (k + 1) lead x := filter_all fun it hit => by
        obtain ⟨r, e, _⟩ := allP_ok (k + 1) h lead x hx it hit
        rw [e, pre_app, pre_nil]
      rw [all]
      have : p = x := by
        rw [List.append_nil] at hm
        unfold allP at hm
        rcases List.mem_cons.mp hm with e | hm
        · exact (Prod.mk.inj e).2
        · obtain ⟨s, hs, hm⟩ := List.mem_flatMap.mp hm
          obtain ⟨j, rfl, pj, _, _⟩ := steps_pt hx s hs
          obtain ⟨r, e, _⟩ := allP_ok k j _ _ pj _ hm
          have e : lead = lead ++ s.1 ++ r := e
          rw [List.append_assoc] at e
          have := List.append_right_eq_self.mp e.symm
          have s0 : s.1 = [] := (List.append_eq_nil_iff.mp this).1
          rcases steps_form hx with z | ⟨l, c, z⟩ | ⟨l, c, q, z⟩ <;> rw [z] at hs
          · cases hs
          · rw [List.mem_singleton] at hs; subst hs; cases s0
          · simp only [List.mem_cons, List.not_mem_nil, or_false] at hs
            rcases hs with rfl | rfl <;> cases s0
      rw [this, List.append_nil]
    | cons i rel =>
      have hd : ((lead, x) : List Nat × PyData) ≠ (lead ++ i :: rel, p) := fun e => by
        have := (Prod.mk.inj e).1
        have := List.append_right_eq_self.mp this.symm
        cases this
      have hm2 : (lead ++ i :: rel, p) ∈ (steps x).flatMap fun s => allP k (lead ++ s.1) s.2 := by
        unfold allP at hm
        rcases List.mem_cons.mp hm with e | hm
        · exact absurd e.symm hd
        · exact hm
      have e0 : (allP (k + 1) lead x).filter (fun it => pre (lead ++ i :: rel) it.1) = ((steps x).flatMap fun s => allP k (lead ++ s.1) s.2).filter (fun it => pre (lead ++ i :: rel) it.1) := by
        rw [allP, List.filter_cons_of_neg]
        have := pre_app (l := lead) (a := i :: rel) (b := [])
        rw [List.append_nil] at this
        rw [this, pre_end]
        simp
      rw [e0]
      -- one child
      have child : ∀ (l : List Nat) (c : PyData) (j : Nat), h = j + 1 → Pt j c → l ≠ [] → (lead ++ i :: rel, p) ∈ allP k (lead ++ l) c → (allP k (lead ++ l) c).filter (fun it => pre (lead ++ i :: rel) it.1) = allP (k + 1) (lead ++ i :: rel) p := by
        intro l c j ej pj nl hm
        obtain ⟨r, e, _, _, pp⟩ := allP_ok k j _ _ pj _ hm
        have e : lead ++ i :: rel = lead ++ l ++ r := e
        rw [e] at hm ⊢
        rw [ih j (lead ++ l) r c p pj (by omega) hm]
        exact (allP_more k j _ p pp (by omega)).symm
      have other : ∀ (l : List Nat) (c : PyData) (j : Nat) (i2 : Nat), Pt j c → i ≠ i2 → (allP k (lead ++ i2 :: l) c).filter (fun it => pre (lead ++ i :: rel) it.1) = [] := by
        intro l c j i2 pj ne
        refine filter_none fun it hit => ?_
        obtain ⟨r, e, _⟩ := allP_ok k j _ _ pj it hit
        rw [e, List.append_assoc, pre_app]
        exact pre_ne ne
      have isI : ∀ (l : List Nat) (c : PyData) (j : Nat) (i2 : Nat), Pt j c → (lead ++ i :: rel, p) ∈ allP k (lead ++ i2 :: l) c → i = i2 := by
        intro l c j i2 pj hm
        obtain ⟨r, e, _⟩ := allP_ok k j _ _ pj _ hm
        have e : lead ++ i :: rel = lead ++ i2 :: l ++ r := e
        rw [List.append_assoc] at e
        exact (List.cons.inj (List.append_cancel_left e)).1
      have sp := steps_pt hx
      rcases steps_form hx with z | ⟨l, c, z⟩ | ⟨l, c, q, z⟩ <;> rw [z] at hm2 sp ⊢
      · cases hm2
      · obtain ⟨j, ej, pj, _⟩ := sp (1 :: l, c) List.mem_cons_self
        rw [List.flatMap_cons, List.flatMap_nil, List.append_nil] at hm2 ⊢
        exact child _ _ j ej pj (by simp) hm2
      · obtain ⟨j, ej, pj, _⟩ := sp (1 :: l, c) List.mem_cons_self
        obtain ⟨j2, ej2, pj2, _⟩ := sp ([2], q) (List.mem_cons_of_mem _ List.mem_cons_self)
        rw [List.flatMap_cons, List.flatMap_cons, List.flatMap_nil, List.append_nil] at hm2 ⊢
        rw [List.filter_append]
        rcases List.mem_append.mp hm2 with hm2 | hm2
        · have e1 := isI l c j 1 pj hm2
          subst e1
          rw [child _ _ j ej pj (by simp) hm2, other [] q j2 2 pj2 (by decide), List.append_nil]
        · have e1 := isI [] q j2 2 pj2 hm2
          subst e1
          rw [child _ _ j2 ej2 pj2 (by simp) hm2, other l c j 1 pj (by decide), List.nil_append]
end K21
end

/-! K21m -/
section
set_option autoImplicit false
open PySem PySem.Spec PyProof.Rows L2 FA FW
namespace K21
abbrev KK : Nat := 19
/-! all parts of a question -/
def evT : Nat → List PyData → List (List Nat × PyData)
  | _, [] => []
  | i, t :: ts => allP KK [2, i] t ++ evT (i + 1) ts
def evW : PyData → List (List Nat × PyData)
  | .none => []
  | x => allP KK [1] x
theorem evW_pt {h : Nat} {x : PyData} (p : Pt h x) : evW x = allP KK [1] x := by cases p <;> rfl
theorem evT_in : ∀ {ts : List PyData} {i : Nat} {it : List Nat × PyData}, (∀ t ∈ ts, ∃ h, Pt h t) → it ∈ evT i ts → ∃ j t rel h, ts[j]? = some t ∧ it.1 = [2, i + j] ++ rel ∧ sub t rel = some it.2 ∧ rel.length ≤ 2 * h ∧ Pt h it.2 ∧ Pt h t
  | [], i, it, _, h => by cases h
  | t :: ts, i, it, hp, h => by
    unfold evT at h
    rcases List.mem_append.mp h with h | h
    · obtain ⟨ht, pt⟩ := hp t List.mem_cons_self
      obtain ⟨rel, e1, e2, e3, e4⟩ := allP_ok KK ht [2, i] t pt it h
      exact ⟨0, t, rel, ht, rfl, e1, e2, e3, e4, pt⟩
    · obtain ⟨j, u, rel, h', e1, e2, e3⟩ := evT_in (fun t ht => hp t (List.mem_cons_of_mem _ ht)) h
      exact ⟨j + 1, u, rel, h', e1, by rw [e2, show i + 1 + j = i + (j + 1) by omega], e3⟩
theorem evT_none {l : List Nat} : ∀ {ts : List PyData} {i : Nat}, (∀ t ∈ ts, ∃ h, Pt h t) → (∀ it ∈ evT i ts, pre l it.1 = false) → (evT i ts).filter (fun it => pre l it.1) = [] := fun _ h => filter_none h
theorem evT_filter : ∀ {ts : List PyData} {i j : Nat} {t : PyData}, (∀ t ∈ ts, ∃ h, Pt h t) → ts[j]? = some t → (evT i ts).filter (fun it => pre [2, i + j] it.1) = allP KK [2, i + j] t
  | [], i, j, t, _, e => by simp at e
  | u :: ts, i, 0, t, hp, e => by
    have : u = t := Option.some.inj e
    subst this
    obtain ⟨hu, pu⟩ := hp u List.mem_cons_self
    have hp2 : ∀ t ∈ ts, ∃ h, Pt h t := fun t ht => hp t (List.mem_cons_of_mem _ ht)
    rw [evT, List.filter_append, Nat.add_zero]
    rw [filter_all fun it hit => ?_, filter_none fun it hit => ?_, List.append_nil]
    · obtain ⟨j, _, rel, _, _, e1, _⟩ := evT_in hp2 hit
      rw [e1]
      show pre ([2] ++ [i]) ([2] ++ (i + 1 + j) :: rel) = false
      rw [pre_app]
      exact pre_ne (by omega)
    · obtain ⟨rel, e1, _⟩ := allP_ok KK hu [2, i] u pu it hit
      rw [e1]
      have := pre_app (l := [2, i]) (a := []) (b := rel)
      rw [List.append_nil] at this
      rw [this, pre_nil]
  | u :: ts, i, j + 1, t, hp, e => by
    obtain ⟨hu, pu⟩ := hp u List.mem_cons_self
    have hp2 : ∀ t ∈ ts, ∃ h, Pt h t := fun t ht => hp t (List.mem_cons_of_mem _ ht)
    rw [evT, List.filter_append]
    have ih := evT_filter (i := i + 1) hp2 (show ts[j]? = some t from e)
    have e2 : i + 1 + j = i + (j + 1) := by omega
    rw [e2] at ih
    rw [ih, filter_none fun it hit => ?_, List.nil_append]
    obtain ⟨rel, e1, _⟩ := allP_ok KK hu [2, i] u pu it hit
    rw [e1]
    show pre ([2] ++ [i + (j + 1)]) ([2] ++ i :: rel) = false
    rw [pre_app]
    exact pre_ne (by omega)
theorem evT_len {h : Nat} : ∀ {ts : List PyData} {i : Nat}, (∀ t ∈ ts, Pt h t) → (evT i ts).length ≤ ts.length * 2 ^ (h + 1)
  | [], _, _ => Nat.zero_le _
  | t :: ts, i, hp => by
    have h1 := allP_len KK h [2, i] t (hp t List.mem_cons_self)
    have h2 := evT_len (i := i + 1) (fun t ht => hp t (List.mem_cons_of_mem _ ht))
    rw [evT, List.length_append, List.length_cons, Nat.succ_mul]
    omega
/-! the leaves of a condition -/
def leavesP : Nat → List Nat → PyData → List (List Nat)
  | k + 1, lead, .tuple (.str w :: r) => if w = "not" then (match r with
      | p :: _ => leavesP k (lead ++ [1]) p
      | _ => [])
    else if w = "and" ∨ w = "or" then (match r with
      | [p, q] => leavesP k (lead ++ [1]) p ++ leavesP k (lead ++ [2]) q
      | _ => [])
    else [lead]
  | _, lead, _ => [lead]
theorem leaves_in : ∀ (k h : Nat) (lead : List Nat) (x : PyData), Pt h x → h ≤ k → ∀ l ∈ leavesP k lead x, ∃ p, (l, p) ∈ allP k lead x
  | 0, h, lead, x, hx, hk, l, hl => by
    have : leavesP 0 lead x = [lead] := rfl
    rw [this, List.mem_singleton] at hl
    subst hl
    exact ⟨x, by unfold allP; exact List.mem_singleton.mpr rfl⟩
  | k + 1, h, lead, x, hx, hk, l, hl => by
    have self : l = lead → ∃ p, (l, p) ∈ allP (k + 1) lead x := fun e => ⟨x, by rw [e]; unfold allP; exact List.mem_cons_self⟩
    have child : ∀ s ∈ steps x, (∃ p, (l, p) ∈ allP k (lead ++ s.1) s.2) → ∃ p, (l, p) ∈ allP (k + 1) lead x := fun s hs ⟨p, hp⟩ => ⟨p, by unfold allP; exact List.mem_cons_of_mem _ (List.mem_flatMap.mpr ⟨s, hs, hp⟩)⟩
    cases hx with
    | @val n v =>
      have : leavesP (k + 1) lead (.tuple [.str "value", v]) = [lead] := rfl
      rw [this, List.mem_singleton] at hl
      exact self hl
    | @col n a c =>
      have : leavesP (k + 1) lead (.tuple [.str "column", .str a, .str c]) = [lead] := rfl
      rw [this, List.mem_singleton] at hl
      exact self hl
    | @one n w q r hw hp =>
      rcases hw with rfl | rfl | rfl
      · have : leavesP (k + 1) lead (.tuple (.str "plus" :: q :: r)) = [lead] := rfl
        rw [this, List.mem_singleton] at hl
        exact self hl
      · have : leavesP (k + 1) lead (.tuple (.str "is" :: q :: r)) = [lead] := rfl
        rw [this, List.mem_singleton] at hl
        exact self hl
      · have : leavesP (k + 1) lead (.tuple (.str "not" :: q :: r)) = leavesP k (lead ++ [1]) q := rfl
        rw [this] at hl
        exact child ([1], q) (List.mem_singleton.mpr rfl) (leaves_in k n _ q hp (by omega) l hl)
    | @ex n r c hc =>
      have : leavesP (k + 1) lead (.tuple [.str "exists", .tuple [r, c]]) = [lead] := rfl
      rw [this, List.mem_singleton] at hl
      exact self hl
    | @of n w r c t hw hc ht =>
      have : leavesP (k + 1) lead (.tuple [.str w, .tuple [r, c], t]) = [lead] := by rcases hw with rfl | rfl <;> rfl
      rw [this, List.mem_singleton] at hl
      exact self hl
    | @two n w q t hw hq ht =>
      have both : (w = "and" ∨ w = "or") → ∃ p, (l, p) ∈ allP (k + 1) lead (.tuple [.str w, q, t]) := by
        intro hw2
        have e : leavesP (k + 1) lead (.tuple [.str w, q, t]) = leavesP k (lead ++ [1]) q ++ leavesP k (lead ++ [2]) t := by rcases hw2 with rfl | rfl <;> rfl
        have es : steps (.tuple [.str w, q, t]) = [([1], q), ([2], t)] := by rcases hw2 with rfl | rfl <;> rfl
        rw [e] at hl
        rcases List.mem_append.mp hl with hl | hl
        · exact child ([1], q) (by rw [es]; simp) (leaves_in k n _ q hq (by omega) l hl)
        · exact child ([2], t) (by rw [es]; simp) (leaves_in k n _ t ht (by omega) l hl)
      have no : leavesP (k + 1) lead (.tuple [.str w, q, t]) = [lead] → ∃ p, (l, p) ∈ allP (k + 1) lead (.tuple [.str w, q, t]) := by
        intro e
        rw [e, List.mem_singleton] at hl
        exact self hl
      rcases hw with rfl | rfl | rfl | rfl | rfl
      · exact no rfl
      · exact no rfl
      · exact no rfl
      · exact both (.inl rfl)
      · exact both (.inr rfl)
theorem leaves_len : ∀ (k h : Nat) (lead : List Nat) (x : PyData), Pt h x → (leavesP k lead x).length ≤ 2 ^ h
  | 0, h, lead, x, hx => by
    show 1 ≤ _
    exact Nat.two_pow_pos h
  | k + 1, h, lead, x, hx => by
    have p0 := Nat.two_pow_pos h
    cases hx with
    | val => exact p0
    | col => exact p0
    | @one n w q r hw hp =>
      rcases hw with rfl | rfl | rfl
      · exact p0
      · exact p0
      · have : leavesP (k + 1) lead (.tuple (.str "not" :: q :: r)) = leavesP k (lead ++ [1]) q := rfl
        rw [this]
        have := leaves_len k n (lead ++ [1]) q hp
        rw [Nat.pow_succ]
        omega
    | ex hc => exact p0
    | of hw hc ht => rcases hw with rfl | rfl <;> exact p0
    | @two n w q t hw hq ht =>
      rcases hw with rfl | rfl | rfl | rfl | rfl
      · exact p0
      · exact p0
      · exact p0
      all_goals
        show (leavesP k (lead ++ [1]) q ++ leavesP k (lead ++ [2]) t).length ≤ _
        have h1 := leaves_len k n (lead ++ [1]) q hq
        have h2 := leaves_len k n (lead ++ [2]) t ht
        rw [List.length_append, Nat.pow_succ]
        omega
end K21
end

/-! K21n -/
section
set_option autoImplicit false
open PySem PySem.Spec PyProof.Rows L2 FA FW
namespace K21
section
variable {P : Program} {w : World} {K : PySem.W.Frag} {mg : Str → Option Value} {base : Heap} {f : Addr} {fd : FuncData}
def spLaw (K : PySem.W.Frag) : Sp := fun vs H Q _ => ∃ (a : Addr) (ns : List Int), vs = [.ref a] ∧ SqL K H a (ns.map V.int) ∧ ns.length ≤ 63 ∧ ∀ H', Q (.bl true) H'
def lawRest (fn__law_names fn__law_schema fn__law_drawn fn__law_draw fn__law_widened fn__law_right : Fn) : ES := (sSeq (sFor (iRange1 (fCons (fC (.int 6)) fNil)) (aName 2) (sSeq (sAsg (fCall fn__law_names (fDeck 1 (fCons (fC (.int 16)) fNil))) (aName 3)) (sSeq (sAsg (fCall fn__law_schema (fDeck 1 (fCons (fVar 3) (fCons (fOp oAddD (fC (.int 1)) (fCall fn__law_draw (fDeck 1 (fCons (fC (.int 3)) fNil)))) fNil)))) (aName 4)) (sSeq (sWorld 5 4 6 (iTupD (fVar 4)) (aTup [(aName 6), (aName 7), (aName 8), (aName 9)]) (fLst (fLc (iTupD (fVar 7)) (aTup [(aName 13), (aName 14)]) bYes (fVar 13) [13, 14]))) (sFor (iRange1 (fCons (fC (.int 5)) fNil)) (aName 10) (sSeq (sAsg (fCall fn__law_drawn (fDeck 1 (fCons (fVar 5) (fCons (fSl oSlD (fVar 3) (fPart (fC (.int 8))) (fPart (fC (.int 12)))) (fCons (fC (.int 4)) fNil))))) (aName 11)) (sSeq (sIf (fTest (fOp oEqD (fCall fn__law_draw (fDeck 1 (fCons (fC (.int 2)) fNil))) (fC (.int 0)))) (sAsg (fCall fn__law_widened (fDeck 1 (fCons (fVar 5) (fCons (fVar 11) (fCons (fSl oSlD (fVar 3) (fPart (fC (.int 14))) fNoP) fNil))))) (aName 11)) sNext) (sSeq (sAsg (fCb oReprD (fCons (fVar 11) fNil)) (aName 12)) (sIf (fOr (fNot (fTest (fCall0 fn__law_right (fCons (fVar 11) fNil)))) (fTest (fOp oNeD (fCb oReprD (fCons (fVar 11) fNil)) (fVar 12)))) (sRet (fC (.bool false))) sNext))))))))) (sRet (fC (.bool true))))
def lawEnv : FW.Env := [none, some U.deck] ++ List.replicate 13 none
theorem sc_law : FnScope ["_law_script", "_law_deck_here", "_law_turn", "_law_names_here", "_law_schema_here", "_law_world", "_law_table", "_law_columns", "_law_unique", "_law_indexes", "_law_k", "_law_asked", "_law_kept", "_law_name", "_law_some"] ["_law_script"] (defScope (top 29)) := ⟨rfl, rfl, rfl, by decide +kernel, rfl, by decide +kernel, by decide +kernel⟩
theorem ok_law {fn__law_names fn__law_schema fn__law_drawn fn__law_draw fn__law_widened fn__law_right : Fn} (F : FnP K "law" 29 f fd) (hS : ∃ o, base.get? sysModules = some o) (m_repr : mg "repr" = none) (m_range : mg "range" = none) (c__law_deck : Cal P w K mg base 1 "_law_deck" ["_law_script"] (spDeck K))
    (c__law_names : Cal P w K mg base 2 "_law_names" ["_law_deck_here", "_law_many"] (spW K true false lay__law_names fn__law_names))
    (c__law_schema : Cal P w K mg base 3 "_law_schema" ["_law_deck_here", "_law_names_here", "_law_many"] (spW K true false lay__law_schema fn__law_schema))
    (c__law_drawn : Cal P w K mg base 14 "_law_drawn" ["_law_deck_here", "_law_world", "_law_names_here", "_law_most"] (spW K true false lay__law_drawn fn__law_drawn))
    (c__law_draw : Cal P w K mg base 1 "_law_draw" ["_law_deck_here", "_law_many"] (spW K true false lay__law_draw fn__law_draw))
    (c__law_widened : Cal P w K mg base 9 "_law_widened" ["_law_deck_here", "_law_world", "_law_asked", "_law_aliases"] (spW K true false lay__law_widened fn__law_widened))
    (c__law_right : Cal P w K mg base 23 "_law_right" ["_law_asked"] (spW K false false lay__law_right fn__law_right))
    (good : lawRest fn__law_names fn__law_schema fn__law_drawn fn__law_draw fn__law_widened fn__law_right lawEnv ⟨0, []⟩ fun o _ => o = .ret (.bool true)) :
    FnG P w K mg base CX0 26 f fd ["_law_script"] (spLaw K) := by
  refine okD F sc_law hS (fun vs H Q E h => ?_) (fun cdv A outer s H vs Q E R h => ?_)
  · obtain ⟨a, ns, rfl, _⟩ := h
    rfl
  obtain ⟨a, ns, rfl, hS, hl, q⟩ := h
  have nd := sc_law.nd
  refine ⟨_, (pss_cons (ps_set (i := 1) nd rfl (Or.inl rfl) (cc c__law_deck R (pa_cons (pv 0) pa_nil))) (pss_cons (ps_for PassesOwn.never rfl (pi_range1 rfl m_range (pa_cons pe_int pa_nil)) (pg_name (i := 2) nd rfl (Or.inl rfl)) (pss_cons (ps_set (i := 3) nd rfl (Or.inl rfl) (cc c__law_names R (pa_cons (pv 1) (pa_cons pe_int pa_nil)))) (pss_cons (ps_set (i := 4) nd rfl (Or.inl rfl) (cc c__law_schema R (pa_cons (pv 1) (pa_cons (pv 3) (pa_cons (pe_op (opAddW K rfl) pe_int (cc c__law_draw R (pa_cons (pv 1) (pa_cons pe_int pa_nil)))) pa_nil))))) (pss_cons (ps_set (i := 5) nd rfl (Or.inl rfl) (pe_disp (pps_cons pe_str (pv 4) (pps_cons pe_str pe_dnewK pps_nil)) rfl rfl (by decide) (by decide))) (pss_cons (ps_for PassesOwn.never rfl (pi_tupW K rfl (pv 4)) (pg_tupW (n := 4) K rfl rfl (pgs_cons (pg_name (i := 6) nd rfl (Or.inl rfl)) (pgs_cons (pg_name (i := 7) nd rfl (Or.inl rfl)) (pgs_cons (pg_name (i := 8) nd rfl (Or.inl rfl)) (pgs_cons (pg_name (i := 9) nd rfl (Or.inl rfl)) pgs_nil))))) (pss_one (ps_dput (hu_of R.room) (pe_dget (hu_of R.room) (pv 5) pe_str (fun _ _ => rfl)) (pv 6) (pe_lc (own := [("_law_name", 13), ("_law_some", 14)]) rfl nd (pi_tupW K rfl (pv 7)) (blkOk_by (by kernel_rfl)) (fun _ _ _ _ _ => (pg_tupW (n := 2) K rfl rfl (pgs_cons (pg_name (i := 13) nd rfl (Or.inl rfl)) (pgs_cons (pg_name (i := 14) nd rfl (Or.inl rfl)) pgs_nil)))) (fun _ _ _ _ _ => pts_nil) (fun _ _ _ _ _ => (pv 13))) rfl))) (pss_one (ps_for PassesOwn.never rfl (pi_range1 rfl m_range (pa_cons pe_int pa_nil)) (pg_name (i := 10) nd rfl (Or.inl rfl)) (pss_cons (ps_set (i := 11) nd rfl (Or.inl rfl) (cc c__law_drawn R (pa_cons (pv 1) (pa_cons (pv 5) (pa_cons (pe_slice (slAnyW K rfl) (pv 3) (po_some pe_int) (po_some pe_int)) (pa_cons pe_int pa_nil)))))) (pss_cons (ps_if (pt_cmpR op_eq (cc c__law_draw R (pa_cons (pv 1) (pa_cons pe_int pa_nil))) pe_int (by rfl)) (pss_one (ps_set (i := 11) nd rfl (Or.inl rfl) (cc c__law_widened R (pa_cons (pv 1) (pa_cons (pv 5) (pa_cons (pv 11) (pa_cons (pe_slice (slAnyW K rfl) (pv 3) (po_some pe_int) po_none) pa_nil))))))) pss_nil) (pss_cons (ps_set (i := 12) nd rfl (Or.inl rfl) (creprW K rfl R m_repr (pa_cons (pv 11) pa_nil))) (pss_one (ps_if (PW.pt (pw_or (pt_not (pt_val (cc c__law_right R (pa_cons (pv 11) pa_nil)))) (pw_or1 (pt_cmpR op_ne (creprW K rfl R m_repr (pa_cons (pv 11) pa_nil)) (pv 12) (by rfl))))) (pss_one (ps_ret pe_bl)) pss_nil)))))))))))) (pss_one (ps_ret pe_bl)))), ?r⟩
  case r =>
    refine ⟨_, rfl, a, ns, rfl, hS, hl, fun d c H1 hd hc D1 s1 => ?_⟩
    have hb : SS K _ (lawRest fn__law_names fn__law_schema fn__law_drawn fn__law_draw fn__law_widened fn__law_right) := (ss_seq (ss_for (si_range1 (sa_cons se_int sa_nil)) (sg_name (i := 2)) (ss_seq (ss_asg (se_call (ir := 0) (sal_deck (i := 1) (sal_dat se_int sal_nil))) sg_name) (ss_seq (ss_asg (se_call (ir := 0) (sal_deck (i := 1) (sal_dat (se_var (i := 3)) (sal_dat (se_op os_add se_int (se_call (ir := 0) (sal_deck (i := 1) (sal_dat se_int sal_nil)))) sal_nil)))) sg_name) (ss_world (si_tup (se_var (i := 4))) (sg_tup rfl (sgs_cons (sg_name (i := 6)) (sgs_cons (sg_name (i := 7)) (sgs_cons (sg_name (i := 8)) (sgs_cons (sg_name (i := 9)) sgs_nil))))) (SL.se (sl_lc (vs := [13, 14]) (si_tup (se_var (i := 7))) (sg_tup rfl (sgs_cons (sg_name (i := 13)) (sgs_cons (sg_name (i := 14)) sgs_nil))) (gin_tup (gsin_name (by decide) (gsin_name (by decide) gsin_nil))) st_yes (se_var (i := 13)))) (ss_for (si_range1 (sa_cons se_int sa_nil)) (sg_name (i := 10)) (ss_seq (ss_asg (se_call (ir := 0) (sal_deck (i := 1) (sal_dat (se_var (i := 5)) (sal_dat (se_sl ss_any (se_var (i := 3)) (so_some se_int) (so_some se_int)) (sal_dat se_int sal_nil))))) sg_name) (ss_seq (ss_if (st_test (se_op os_eq (se_call (ir := 0) (sal_deck (i := 1) (sal_dat se_int sal_nil))) se_int)) (ss_asg (se_call (ir := 0) (sal_deck (i := 1) (sal_dat (se_var (i := 5)) (sal_dat (se_var (i := 11)) (sal_dat (se_sl ss_any (se_var (i := 3)) (so_some se_int) so_none) sal_nil))))) sg_name) ss_next) (ss_seq (ss_asg (se_cb cs_repr (sa_cons (se_var (i := 11)) sa_nil)) sg_name) (ss_if (st_or (st_not (st_B (se_call0 (ir := 0) (sal_dat (se_var (i := 11)) sal_nil)))) (st_test (se_op os_ne (se_cb cs_repr (sa_cons (se_var (i := 11)) sa_nil)) (se_var (i := 12))))) (ss_ret se_bl) ss_next))))))))) (ss_ret se_bl))
    exact rest_run (env := lawEnv) hb D1 rfl (env_deck rfl) good (fun _ _ h => h) q
end
end K21
end

/-! K21o -/
section
set_option autoImplicit false
open PySem PySem.Spec PyProof.Rows L2 FA FW
namespace K21
theorem ixT1 {x y : PyData} {xs : List PyData} {k : PyData → Prop} (h : k y) : oIxD (.tuple (x :: y :: xs)) (.int 1) k := by
  show (match atI (x :: y :: xs) ((1 : Nat) : Int) with
    | some z => k z
    | none => False)
  rw [atI_nat (j := 1) rfl]
  exact h
/-! the law's walk -/
def enc (it : List Nat × PyData) : PyData := .tuple [.tuple (intsD it.1), it.2]
def BelSp (f : Fn) : Prop := ∀ (h : Nat) (x : PyData) (n : Nat) (post : PyData → List PyData → Nat → Prop), Pt h x → post (.list ((steps x).map enc)) [] n → f [x] [] n post
theorem bel_sp : BelSp fn__law_below := by
  intro h x n post hx q
  cases hx with
  | val => exact ⟨rfl, rfl, ifP (by decide) q⟩
  | col => exact ⟨rfl, rfl, ifP (by decide) q⟩
  | @one j w p r hw hp => rcases hw with rfl | rfl | rfl <;> exact ixT0 ⟨rfl, rfl, ifN (by decide) (ixT0 ⟨rfl, rfl, ifP (by decide) (ixT1 q)⟩)⟩
  | @ex j r c hc => exact ⟨rfl, rfl, ifN (by decide) ⟨rfl, rfl, ifN (by decide) ⟨rfl, ifP (by decide) q⟩⟩⟩
  | @of j w r c t hw hc ht => rcases hw with rfl | rfl <;> exact ⟨rfl, rfl, ifN (by decide) ⟨rfl, rfl, ifN (by decide) ⟨rfl, ifN (by decide) ⟨rfl, rfl, ifP (by decide) q⟩⟩⟩⟩
  | @two j w p r hw hp hr => rcases hw with rfl | rfl | rfl | rfl | rfl <;> exact ⟨rfl, rfl, ifN (by decide) ⟨rfl, rfl, ifN (by decide) ⟨rfl, ifN (by decide) ⟨rfl, rfl, ifN (by decide) q⟩⟩⟩⟩
theorem take_succ' {α : Type} {l : List α} {i : Nat} {x : α} (h : l[i]? = some x) : l.take (i + 1) = l.take i ++ [x] := by
  rw [List.take_add_one, h]; rfl
def AllSp (f : Fn) (k : Nat) : Prop := ∀ (h : Nat) (x : PyData) (lead : List Nat) (n : Nat) (post : PyData → List PyData → Nat → Prop), h ≤ k → h ≤ 12 → lead.length + 2 * h ≤ 100 → Pt h x → post (.list ((allP k lead x).map enc)) [] n → f [x, .tuple (intsD lead)] [] n post
theorem all_step {fb g : Fn} (hb : BelSp fb) (k : Nat) (hg : ∀ j, k = j + 1 → AllSp g j) : AllSp (fnb__law_all fb g) k := by
  intro h x lead n post hk h12 hl hx q
  refine hb h x 0 _ hx ?_
  have p12 : 2 ^ (h + 1) ≤ 2 ^ 13 := Nat.pow_le_pow_right (by decide) (by omega)
  refine for_inv (fun i env s => s = ⟨n, []⟩ ∧ ∃ a3 a4, env = [some (.dat x), some (.dat (.tuple (intsD lead))), some (.dat (.list (((lead, x) :: ((steps x).take i).flatMap fun s => allP (k - 1) (lead ++ s.1) s.2).map enc))), a3, a4])
    ⟨rfl, none, none, rfl⟩ ?_ ?_
  · rintro i y env s ey ⟨rfl, a3, a4, rfl⟩ kn hkn
    rw [List.getElem?_map] at ey
    obtain ⟨st, es, rfl⟩ := Option.map_eq_some_iff.mp ey
    have ms := List.mem_of_getElem? es
    obtain ⟨j, rfl, pj, _, l2⟩ := steps_pt hx st ms
    obtain ⟨k, rfl⟩ : ∃ k', k = k' + 1 := ⟨k - 1, by omega⟩
    refine ⟨rfl, ?_⟩
    show (intsD lead).length + (intsD st.1).length ≤ 1000000 ∧ g [st.2, .tuple (intsD lead ++ intsD st.1)] [] 0 _
    rw [← intsD_app]
    refine ⟨by rw [intsD_len, intsD_len]; omega, hg k rfl j st.2 (lead ++ st.1) 0 _ (by omega) (by omega) (by rw [List.length_append]; omega) pj ?_⟩
    refine ⟨?_, ?_⟩
    · have h1 := allP_len k j (lead ++ st.1) st.2 pj
      have h2 := allP_len (k + 1) (j + 1) lead x hx
      have h3 : ((lead, x) :: ((steps x).take i).flatMap fun s => allP k (lead ++ s.1) s.2).length ≤ (allP (k + 1) lead x).length := by
        show _ ≤ ((lead, x) :: (steps x).flatMap fun s => allP k (lead ++ s.1) s.2).length
        rw [List.length_cons, List.length_cons]
        have : ((steps x).take i).flatMap (fun s => allP k (lead ++ s.1) s.2) ++ ((steps x).drop i).flatMap (fun s => allP k (lead ++ s.1) s.2) = (steps x).flatMap fun s => allP k (lead ++ s.1) s.2 := by
          rw [← List.flatMap_append, List.take_append_drop]
        rw [← this, List.length_append]
        omega
      have h4 : (2 : Nat) ^ (j + 1) ≤ 2 ^ 13 := Nat.pow_le_pow_right (by decide) (by omega)
      have e13 : (2 : Nat) ^ 13 = 8192 := by decide
      rw [List.length_map, List.length_map]
      show ((lead, x) :: ((steps x).take i).flatMap fun s => allP k (lead ++ s.1) s.2).length + _ ≤ _
      omega
    · refine hkn _ _ ⟨rfl, some (.dat (.tuple (intsD st.1))), some (.dat st.2), ?_⟩
      have e : ((steps x).take (i + 1)).flatMap (fun s => allP k (lead ++ s.1) s.2) = ((steps x).take i).flatMap (fun s => allP k (lead ++ s.1) s.2) ++ allP k (lead ++ st.1) st.2 := by
        rw [take_succ' es, List.flatMap_append, List.flatMap_cons, List.flatMap_nil, List.append_nil]
      show _ = ([some (.dat x), some (.dat (.tuple (intsD lead))), some (.dat (.list (((lead, x) :: ((steps x).take (i + 1)).flatMap fun s => allP k (lead ++ s.1) s.2).map enc))), some (.dat (.tuple (intsD st.1))), some (.dat st.2)] : FW.Env)
      rw [e, ← List.cons_append, List.map_append]
      rfl
  · rintro env s ⟨rfl, a3, a4, rfl⟩
    rw [List.length_map, List.take_length]
    show post (.list (((lead, x) :: (steps x).flatMap fun s => allP (k - 1) (lead ++ s.1) s.2).map enc)) [] n
    have : (lead, x) :: (steps x).flatMap (fun s => allP (k - 1) (lead ++ s.1) s.2) = allP k lead x := by
      cases k with
      | zero =>
        have : steps x = [] := by
          cases e : steps x with
          | nil => rfl
          | cons s r =>
            obtain ⟨j, ej, _⟩ := steps_pt hx s (by rw [e]; exact List.mem_cons_self)
            omega
        rw [this]
        rfl
      | succ k => rfl
    rw [this]
    exact q
theorem all_sp {fb : Fn} (hb : BelSp fb) : ∀ k : Nat, AllSp (fn__law_all fb (k + 1)) k
  | 0 => all_step hb 0 fun j h => nomatch h
  | k + 1 => all_step hb (k + 1) fun j h => by cases h; exact all_sp hb k
end K21
end

/-! K21p -/
section
set_option autoImplicit false
open PySem PySem.Spec PyProof.Rows L2 FA FW
namespace K21
def EvSp (f : Fn) : Prop := ∀ (kvs : List (PyData × PyData)) (h D W : Nat) (y : PyData) (rs : List PyData) (wh : PyData) (told : List PyData) (o l : PyData) (n : Nat) (post : PyData → List PyData → Nat → Prop), Ask kvs h D W y rs wh told o l → h ≤ 10 →
  post (.list ((evW wh ++ evT 0 told).map enc)) [] n → f [y] [] n post
theorem evT_take {told : List PyData} : ∀ {i j : Nat} {t : PyData}, told[i]? = some t → evT j (told.take (i + 1)) = evT j (told.take i) ++ allP KK [2, j + i] t := by
  induction told with
  | nil => intro i j t e; simp at e
  | cons u ts ih =>
    intro i j t e
    cases i with
    | zero =>
      have : u = t := Option.some.inj e
      subst this
      simp [evT]
    | succ i =>
      have := ih (i := i) (j := j + 1) (t := t) e
      rw [List.take_succ_cons, List.take_succ_cons, evT, evT, this, List.append_assoc, show j + 1 + i = j + (i + 1) by omega]
theorem ev_sp {fa : Fn} (ha : AllSp fa KK) : EvSp (fn__law_every fa) := by
  rintro kvs h D W y rs wh told o l n post A h8 q
  obtain ⟨rfl, R, r3, hwh, htl, t3, _, ho, hl⟩ := A
  have p8 : 2 ^ (h + 1) ≤ 2 ^ 11 := Nat.pow_le_pow_right (by decide) (by omega)
  have e11 : (2 : Nat) ^ 11 = 2048 := by decide
  have lw : (evW wh).length ≤ 2048 := by
    rcases hwh with rfl | hp
    · exact Nat.zero_le _
    · rw [evW_pt hp.pt]
      have := allP_len KK h [1] wh hp.pt
      omega
  have rest : ∀ its : List PyData, its = (evW wh).map enc →
      sSeq (sFor (iEnumD (fCons (fOp oIxD (fVar 0) (fC (.int 2))) fNil)) (aTup [(aName 2), (aName 3)]) (sAsg (fOp oAddD (fVar 1) (fCall0 fa (fCons (fVar 3) (fCons (fTup (fCons (fC (.int 2)) (fCons (fVar 2) fNil))) fNil)))) (aName 1))) (sRet (fVar 1)) [some (.dat (.tuple [.tuple rs, wh, .tuple told, o, l])), some (.dat (.list its)), none, none] ⟨n, []⟩ (fun o s' => match o with
        | .ret r => endOf false s' post r
        | .nxt env => endOf false s' post .none
        | _ => False) := by
    rintro its rfl
    refine for_inv (all := enumD told) (fun i env s => s = ⟨n, []⟩ ∧ ∃ a2 a3, env = [some (.dat (.tuple [.tuple rs, wh, .tuple told, o, l])), some (.dat (.list ((evW wh ++ evT 0 (told.take i)).map enc))), a2, a3]) ⟨rfl, none, none, by simp [evT]⟩ ?_ ?_
    · rintro i y env s ey ⟨rfl, a2, a3, rfl⟩ kn hkn
      have il : i < told.length := by rw [← enumD_len]; exact (List.getElem?_eq_some_iff.mp ey).1
      have et : told[i]? = some told[i] := List.getElem?_eq_getElem il
      rw [enumD_get et] at ey
      obtain rfl := Option.some.inj ey
      have pt := htl told[i] (List.getElem_mem il)
      refine ⟨rfl, ?_⟩
      show fa [told[i], .tuple (intsD [2, i])] [] 0 _
      refine ha h _ [2, i] 0 _ (by show h ≤ 19; omega) (by omega) (by simp; omega) pt.pt ?_
      refine ⟨?_, hkn _ _ ⟨rfl, some (.dat (.int (i : Int))), some (.dat told[i]), ?_⟩⟩
      · have l1 := allP_len KK h [2, i] told[i] pt.pt
        have l2 := evT_len (i := 0) (h := h) (ts := told.take i) fun t ht => (htl t (List.mem_of_mem_take ht)).pt
        have l3 : (told.take i).length ≤ 4 := by rw [List.length_take]; omega
        have l4 : (told.take i).length * 2 ^ (h + 1) ≤ 4 * 2 ^ (h + 1) := Nat.mul_le_mul_right _ l3
        rw [List.length_map, List.length_map, List.length_append]
        omega
      · have e := evT_take (j := 0) et
        rw [Nat.zero_add] at e
        show _ = ([some (.dat (.tuple [.tuple rs, wh, .tuple told, o, l])), some (.dat (.list ((evW wh ++ evT 0 (told.take (i + 1))).map enc))), some (.dat (.int (i : Int))), some (.dat told[i])] : FW.Env)
        rw [e, ← List.append_assoc, List.map_append (l₁ := evW wh ++ evT 0 (told.take i))]
        rfl
    · rintro env s ⟨rfl, a2, a3, rfl⟩
      rw [enumD_len, List.take_length]
      exact q
  refine if2 (fun c => ?_) fun c => ?_
  · rcases hwh with rfl | hp
    · exact rest [] rfl
    · have : isNone wh = false := by cases hp.pt <;> rfl
      rw [this] at c
      cases c
  · rcases hwh with rfl | hp
    · exact absurd rfl c
    · refine ha h wh [1] 0 _ (by show h ≤ 19; omega) (by omega) (by simp; omega) hp.pt ?_
      exact rest _ (by rw [evW_pt hp.pt])
/-! the program's parts_of -/
theorem tab_pt {h : Nat} {x : PyData} (p : Pt h x) : ∃ w r, x = .tuple (.str w :: r) ∧ tlook tab_STEPS w = some (.tuple ((steps x).map fun s => .tuple (intsD s.1))) := by
  cases p with
  | val => exact ⟨_, _, rfl, rfl⟩
  | col => exact ⟨_, _, rfl, rfl⟩
  | one hw hp => rcases hw with rfl | rfl | rfl <;> exact ⟨_, _, rfl, rfl⟩
  | ex hc => exact ⟨_, _, rfl, rfl⟩
  | of hw hc ht => rcases hw with rfl | rfl <;> exact ⟨_, _, rfl, rfl⟩
  | two hw hp hq => rcases hw with rfl | rfl | rfl | rfl | rfl <;> exact ⟨_, _, rfl, rfl⟩
def ParSp (f : Fn) (k : Nat) : Prop := ∀ (h : Nat) (x : PyData) (lead : List Nat) (n : Nat) (post : PyData → List PyData → Nat → Prop), h ≤ k → h ≤ 12 → Pt h x → post (.list ((allP k lead x).map (·.2))) [] n → f [x] [] n post
theorem par_step {fa g : Fn} (ha : AtSp fa) (k : Nat) (hg : ∀ j, k = j + 1 → ParSp g j) : ParSp (fnb_parts_of fa g) k := by
  intro h x lead n post hk h12 hx q
  obtain ⟨w, r, ex, et⟩ := tab_pt hx
  have p12 : 2 ^ (h + 1) ≤ 2 ^ 13 := Nat.pow_le_pow_right (by decide) (by omega)
  have go : forGo (aName 2) (sExt 1 (fCall0 g (fCons (fCall0 fa (fCons (fVar 0) (fCons (fVar 2) fNil))) fNil))) ((steps x).map fun s => .tuple (intsD s.1)) [some (.dat x), some (.reg 0), none] ⟨n, [⟨true, true, [x]⟩]⟩ (fun o s' => match o with
      | .nxt env' => sRet (fFrz 1) env' s' fun o s' => match o with
        | .ret r => endOf false s' post r
        | .nxt env => endOf false s' post .none
        | _ => False
      | o => match o with
        | .ret r => endOf false s' post r
        | .nxt env => endOf false s' post .none
        | _ => False) := by
    refine for_inv (fun i env s => s = ⟨n, [⟨true, true, ((lead, x) :: ((steps x).take i).flatMap fun s => allP (k - 1) (lead ++ s.1) s.2).map (·.2)⟩]⟩ ∧ ∃ a2, env = [some (.dat x), some (.reg 0), a2])
      ⟨rfl, none, rfl⟩ ?_ ?_
    · rintro i y env s ey ⟨rfl, a2, rfl⟩ kn hkn
      rw [List.getElem?_map] at ey
      obtain ⟨st, es, rfl⟩ := Option.map_eq_some_iff.mp ey
      have ms := List.mem_of_getElem? es
      obtain ⟨j, rfl, pj, sj, l2⟩ := steps_pt hx st ms
      obtain ⟨k, rfl⟩ : ∃ k', k = k' + 1 := ⟨k - 1, by omega⟩
      refine ha x st.2 st.1 0 _ sj ?_
      refine hg k rfl j st.2 (lead ++ st.1) 0 _ (by omega) (by omega) pj ?_
      refine ⟨?_, ?_⟩
      · have h1 := allP_len k j (lead ++ st.1) st.2 pj
        have h2 := allP_len (k + 1) (j + 1) lead x hx
        have h3 : ((lead, x) :: ((steps x).take i).flatMap fun s => allP k (lead ++ s.1) s.2).length ≤ (allP (k + 1) lead x).length := by
          show _ ≤ ((lead, x) :: (steps x).flatMap fun s => allP k (lead ++ s.1) s.2).length
          rw [List.length_cons, List.length_cons]
          have : ((steps x).take i).flatMap (fun s => allP k (lead ++ s.1) s.2) ++ ((steps x).drop i).flatMap (fun s => allP k (lead ++ s.1) s.2) = (steps x).flatMap fun s => allP k (lead ++ s.1) s.2 := by
            rw [← List.flatMap_append, List.take_append_drop]
          rw [← this, List.length_append]
          omega
        have h4 : (2 : Nat) ^ (j + 1) ≤ 2 ^ 13 := Nat.pow_le_pow_right (by decide) (by omega)
        have e13 : (2 : Nat) ^ 13 = 8192 := by decide
        rw [List.length_map, List.length_map]
        show ((lead, x) :: ((steps x).take i).flatMap fun s => allP k (lead ++ s.1) s.2).length + _ ≤ _
        omega
      · refine hkn _ _ ⟨?_, some (.dat (.tuple (intsD st.1))), rfl⟩
        have e : ((steps x).take (i + 1)).flatMap (fun s => allP k (lead ++ s.1) s.2) = ((steps x).take i).flatMap (fun s => allP k (lead ++ s.1) s.2) ++ allP k (lead ++ st.1) st.2 := by
          rw [take_succ' es, List.flatMap_append, List.flatMap_cons, List.flatMap_nil, List.append_nil]
        show _ = (⟨n, [⟨true, true, ((lead, x) :: ((steps x).take (i + 1)).flatMap fun s => allP k (lead ++ s.1) s.2).map (·.2)⟩]⟩ : S)
        rw [e, ← List.cons_append, List.map_append]
        rfl
    · rintro env s ⟨rfl, a2, rfl⟩
      rw [List.length_map, List.take_length]
      show post (.list (((lead, x) :: (steps x).flatMap fun s => allP (k - 1) (lead ++ s.1) s.2).map (·.2))) [] n
      have : (lead, x) :: (steps x).flatMap (fun s => allP (k - 1) (lead ++ s.1) s.2) = allP k lead x := by
        cases k with
        | zero =>
          have : steps x = [] := by
            cases e : steps x with
            | nil => rfl
            | cons s r =>
              obtain ⟨j, ej, _⟩ := steps_pt hx s (by rw [e]; exact List.mem_cons_self)
              omega
          rw [this]
          rfl
        | succ k => rfl
      rw [this]
      exact q
  subst ex
  refine ixT0 ?_
  show (match tlook tab_STEPS w with
    | some d => _
    | none => False)
  rw [et]
  exact go
theorem par_sp {fa : Fn} (ha : AtSp fa) : ∀ k : Nat, ParSp (fn_parts_of fa (k + 1)) k
  | 0 => par_step ha 0 fun j h => nomatch h
  | k + 1 => par_step ha (k + 1) fun j h => by cases h; exact par_sp ha k
end K21
end

/-! K21q -/
section
set_option autoImplicit false
open PySem PySem.Spec PyProof.Rows L2 FA FW
namespace K21
def tI (l : List Nat) : PyData := .tuple (intsD l)
def LvSp (f : Fn) (k : Nat) : Prop := ∀ (h : Nat) (x : PyData) (lead : List Nat) (n : Nat) (post : PyData → List PyData → Nat → Prop), h ≤ k → h ≤ 12 → lead.length + h ≤ 100 → Pt h x → post (.list ((leavesP k lead x).map tI)) [] n → f [x, .tuple (intsD lead)] [] n post
theorem pl_step {g : Fn} (k : Nat) (hg : ∀ j, k = j + 1 → LvSp g j) : LvSp (fnb_leaves_of g) k := by
  intro h x lead n post hk h12 hl hx q
  have p12 : 2 ^ h ≤ 2 ^ 12 := Nat.pow_le_pow_right (by decide) h12
  have e12 : (2 : Nat) ^ 12 = 4096 := by decide
  have ll : (intsD lead).length + [PyData.int 1].length ≤ 1000000 := by rw [intsD_len]; simp; omega
  have one : intsD lead ++ [PyData.int 1] = intsD (lead ++ [1]) := by rw [intsD_app]; rfl
  have two : intsD lead ++ [PyData.int 2] = intsD (lead ++ [2]) := by rw [intsD_app]; rfl
  cases hx with
  | @val j v =>
    have e : leavesP k lead (.tuple [.str "value", v]) = [lead] := by cases k <;> rfl
    rw [e] at q
    exact ⟨rfl, ifN (by decide) ⟨rfl, rfl, ifN (by decide) q⟩⟩
  | @col j a c =>
    have e : leavesP k lead (.tuple [.str "column", .str a, .str c]) = [lead] := by cases k <;> rfl
    rw [e] at q
    exact ⟨rfl, ifN (by decide) ⟨rfl, rfl, ifN (by decide) q⟩⟩
  | @one j w p r hw hp =>
    rcases hw with rfl | rfl | rfl
    · have e : leavesP k lead (.tuple (.str "plus" :: p :: r)) = [lead] := by cases k <;> rfl
      rw [e] at q
      exact ixT0 ⟨rfl, ifN (by decide) (ixT0 ⟨rfl, rfl, ifN (by decide) q⟩)⟩
    · have e : leavesP k lead (.tuple (.str "is" :: p :: r)) = [lead] := by cases k <;> rfl
      rw [e] at q
      exact ixT0 ⟨rfl, ifN (by decide) (ixT0 ⟨rfl, rfl, ifN (by decide) q⟩)⟩
    · obtain ⟨k, rfl⟩ : ∃ k', k = k' + 1 := ⟨k - 1, by omega⟩
      refine ixT0 ⟨rfl, ifP (by decide) (ixT1 ⟨ll, ?_⟩)⟩
      show g [p, .tuple (intsD lead ++ [PyData.int 1])] [] 0 _
      rw [one]
      exact hg k rfl j p (lead ++ [1]) 0 _ (by omega) (by omega) (by rw [List.length_append, List.length_singleton]; omega) hp q
  | @ex j r c hc =>
    have e : leavesP k lead (.tuple [.str "exists", .tuple [r, c]]) = [lead] := by cases k <;> rfl
    rw [e] at q
    exact ⟨rfl, ifN (by decide) ⟨rfl, rfl, ifN (by decide) q⟩⟩
  | @of j w r c t hw hc ht =>
    have e : leavesP k lead (.tuple [.str w, .tuple [r, c], t]) = [lead] := by rcases hw with rfl | rfl <;> cases k <;> rfl
    rw [e] at q
    rcases hw with rfl | rfl <;> exact ⟨rfl, ifN (by decide) ⟨rfl, rfl, ifN (by decide) q⟩⟩
  | @two j w p t hw hp ht =>
    have no : leavesP k lead (.tuple [.str w, p, t]) = [lead] → post (.list [.tuple (intsD lead)]) [] n := fun e => by
      rw [e] at q
      exact q
    have both : (w = "and" ∨ w = "or") → g [p, .tuple (intsD lead ++ [PyData.int 1])] [] 0 (fun y _ _ => (intsD lead).length + [PyData.int 2].length ≤ 1000000 ∧ g [t, .tuple (intsD lead ++ [PyData.int 2])] [] 0 fun z _ _ => oAddD y z fun r => post r [] n) := by
      intro hw2
      obtain ⟨k, rfl⟩ : ∃ k', k = k' + 1 := ⟨k - 1, by omega⟩
      have e : leavesP (k + 1) lead (.tuple [.str w, p, t]) = leavesP k (lead ++ [1]) p ++ leavesP k (lead ++ [2]) t := by rcases hw2 with rfl | rfl <;> rfl
      rw [e, List.map_append] at q
      rw [one]
      refine hg k rfl j p (lead ++ [1]) 0 _ (by omega) (by omega) (by rw [List.length_append, List.length_singleton]; omega) hp ⟨ll, ?_⟩
      rw [two]
      refine hg k rfl j t (lead ++ [2]) 0 _ (by omega) (by omega) (by rw [List.length_append, List.length_singleton]; omega) ht ⟨?_, q⟩
      have l1 := leaves_len k j (lead ++ [1]) p hp
      have l2 := leaves_len k j (lead ++ [2]) t ht
      rw [List.length_map, List.length_map]
      rw [Nat.pow_succ] at p12
      omega
    rcases hw with rfl | rfl | rfl | rfl | rfl
    · exact ⟨rfl, ifN (by decide) ⟨rfl, rfl, ifN (by decide) (no (by cases k <;> rfl))⟩⟩
    · exact ⟨rfl, ifN (by decide) ⟨rfl, rfl, ifN (by decide) (no (by cases k <;> rfl))⟩⟩
    · exact ⟨rfl, ifN (by decide) ⟨rfl, rfl, ifN (by decide) (no (by cases k <;> rfl))⟩⟩
    · exact ⟨rfl, ifN (by decide) ⟨rfl, rfl, ifP (by decide) ⟨ll, both (.inl rfl)⟩⟩⟩
    · exact ⟨rfl, ifN (by decide) ⟨rfl, rfl, ifP (by decide) ⟨ll, both (.inr rfl)⟩⟩⟩
theorem pl_sp : ∀ k : Nat, LvSp (fn_leaves_of (k + 1)) k
  | 0 => pl_step 0 fun j h => nomatch h
  | k + 1 => pl_step (k + 1) fun j h => by cases h; exact pl_sp k
theorem ql_step {g : Fn} (k : Nat) (hg : ∀ j, k = j + 1 → LvSp g j) : LvSp (fnb__law_leaves g) k := by
  intro h x lead n post hk h12 hl hx q
  have p12 : 2 ^ h ≤ 2 ^ 12 := Nat.pow_le_pow_right (by decide) h12
  have e12 : (2 : Nat) ^ 12 = 4096 := by decide
  have ll : (intsD lead).length + [PyData.int 1].length ≤ 1000000 := by rw [intsD_len]; simp; omega
  have one : intsD lead ++ [PyData.int 1] = intsD (lead ++ [1]) := by rw [intsD_app]; rfl
  have two : intsD lead ++ [PyData.int 2] = intsD (lead ++ [2]) := by rw [intsD_app]; rfl
  cases hx with
  | @val j v =>
    have e : leavesP k lead (.tuple [.str "value", v]) = [lead] := by cases k <;> rfl
    rw [e] at q
    exact ⟨rfl, ifN (by decide) ⟨rfl, rfl, ifN (by decide) q⟩⟩
  | @col j a c =>
    have e : leavesP k lead (.tuple [.str "column", .str a, .str c]) = [lead] := by cases k <;> rfl
    rw [e] at q
    exact ⟨rfl, ifN (by decide) ⟨rfl, rfl, ifN (by decide) q⟩⟩
  | @one j w p r hw hp =>
    rcases hw with rfl | rfl | rfl
    · have e : leavesP k lead (.tuple (.str "plus" :: p :: r)) = [lead] := by cases k <;> rfl
      rw [e] at q
      exact ixT0 ⟨rfl, ifN (by decide) (ixT0 ⟨rfl, rfl, ifN (by decide) q⟩)⟩
    · have e : leavesP k lead (.tuple (.str "is" :: p :: r)) = [lead] := by cases k <;> rfl
      rw [e] at q
      exact ixT0 ⟨rfl, ifN (by decide) (ixT0 ⟨rfl, rfl, ifN (by decide) q⟩)⟩
    · obtain ⟨k, rfl⟩ : ∃ k', k = k' + 1 := ⟨k - 1, by omega⟩
      refine ixT0 ⟨rfl, ifP (by decide) (ixT1 ⟨ll, ?_⟩)⟩
      show g [p, .tuple (intsD lead ++ [PyData.int 1])] [] 0 _
      rw [one]
      exact hg k rfl j p (lead ++ [1]) 0 _ (by omega) (by omega) (by rw [List.length_append, List.length_singleton]; omega) hp q
  | @ex j r c hc =>
    have e : leavesP k lead (.tuple [.str "exists", .tuple [r, c]]) = [lead] := by cases k <;> rfl
    rw [e] at q
    exact ⟨rfl, ifN (by decide) ⟨rfl, rfl, ifN (by decide) q⟩⟩
  | @of j w r c t hw hc ht =>
    have e : leavesP k lead (.tuple [.str w, .tuple [r, c], t]) = [lead] := by rcases hw with rfl | rfl <;> cases k <;> rfl
    rw [e] at q
    rcases hw with rfl | rfl <;> exact ⟨rfl, ifN (by decide) ⟨rfl, rfl, ifN (by decide) q⟩⟩
  | @two j w p t hw hp ht =>
    have no : leavesP k lead (.tuple [.str w, p, t]) = [lead] → post (.list [.tuple (intsD lead)]) [] n := fun e => by
      rw [e] at q
      exact q
    have both : (w = "and" ∨ w = "or") → g [p, .tuple (intsD lead ++ [PyData.int 1])] [] 0 (fun y _ _ => (intsD lead).length + [PyData.int 2].length ≤ 1000000 ∧ g [t, .tuple (intsD lead ++ [PyData.int 2])] [] 0 fun z _ _ => oAddD y z fun r => post r [] n) := by
      intro hw2
      obtain ⟨k, rfl⟩ : ∃ k', k = k' + 1 := ⟨k - 1, by omega⟩
      have e : leavesP (k + 1) lead (.tuple [.str w, p, t]) = leavesP k (lead ++ [1]) p ++ leavesP k (lead ++ [2]) t := by rcases hw2 with rfl | rfl <;> rfl
      rw [e, List.map_append] at q
      rw [one]
      refine hg k rfl j p (lead ++ [1]) 0 _ (by omega) (by omega) (by rw [List.length_append, List.length_singleton]; omega) hp ⟨ll, ?_⟩
      rw [two]
      refine hg k rfl j t (lead ++ [2]) 0 _ (by omega) (by omega) (by rw [List.length_append, List.length_singleton]; omega) ht ⟨?_, q⟩
      have l1 := leaves_len k j (lead ++ [1]) p hp
      have l2 := leaves_len k j (lead ++ [2]) t ht
      rw [List.length_map, List.length_map]
      rw [Nat.pow_succ] at p12
      omega
    rcases hw with rfl | rfl | rfl | rfl | rfl
    · exact ⟨rfl, ifN (by decide) ⟨rfl, rfl, ifN (by decide) (no (by cases k <;> rfl))⟩⟩
    · exact ⟨rfl, ifN (by decide) ⟨rfl, rfl, ifN (by decide) (no (by cases k <;> rfl))⟩⟩
    · exact ⟨rfl, ifN (by decide) ⟨rfl, rfl, ifN (by decide) (no (by cases k <;> rfl))⟩⟩
    · exact ⟨rfl, ifN (by decide) ⟨rfl, rfl, ifP (by decide) ⟨ll, both (.inl rfl)⟩⟩⟩
    · exact ⟨rfl, ifN (by decide) ⟨rfl, rfl, ifP (by decide) ⟨ll, both (.inr rfl)⟩⟩⟩
theorem ql_sp : ∀ k : Nat, LvSp (fn__law_leaves (k + 1)) k
  | 0 => ql_step 0 fun j h => nomatch h
  | k + 1 => ql_step (k + 1) fun j h => by cases h; exact ql_sp k
end K21
end

/-! K21r -/
section
set_option autoImplicit false
open PySem PySem.Spec PyProof.Rows L2 FA FW
namespace K21
/-! main parts -/
def leavesW : PyData → List (List Nat)
  | .none => []
  | x => leavesP KK [1] x
theorem leavesW_pt {h : Nat} {x : PyData} (p : Pt h x) : leavesW x = leavesP KK [1] x := by cases p <;> rfl
def dueP (wh : PyData) (m : Nat) : List (List Nat) := leavesW wh ++ (List.range m).map fun k => [2, k]
def MainSp (f : Fn) : Prop := ∀ (kvs : List (PyData × PyData)) (h D W : Nat) (y : PyData) (rs : List PyData) (wh : PyData) (told : List PyData) (o l : PyData) (n : Nat) (post : PyData → List PyData → Nat → Prop), Ask kvs h D W y rs wh told o l → h ≤ 10 →
  post (.tuple ((dueP wh told.length).map tI)) [] n → f [y] [] n post
theorem rng_map {m : Nat} {post : List PyData → S → Prop} {env : FW.Env} {i0 : Nat} {s : S} (hc : ∀ k : Nat, ∀ kt : PyData → S → Prop, kt (tI [2, k]) s → (fTup (fCons (fC (.int 2)) (fCons (fVar i0) fNil))) (env.set i0 (some (.dat (.int (0 + (k : Int)))))) s kt)
    (q : post ((List.range m).map fun k => tI [2, k]) s) : lcGo (aName i0) bYes (fTup (fCons (fC (.int 2)) (fCons (fVar i0) fNil))) env (rngD 0 m) [] s post := by
  refine lc_inv (fun i acc s' => s' = s ∧ acc = (List.range i).map fun k => tI [2, k]) ⟨rfl, rfl⟩ ?_ ?_
  · rintro i y acc s' ey ⟨rfl, rfl⟩ kt kf ht hf
    obtain ⟨hi, rfl⟩ := rng_get ey
    refine hc i kt ?_
    refine ht _ _ ⟨rfl, ?_⟩
    rw [List.range_succ, List.map_append]
    rfl
  · rintro acc s' ⟨rfl, rfl⟩
    rw [rng_len]
    exact q
theorem main_sp {fl : Fn} (hl : LvSp fl KK) : MainSp (fn_main_parts fl) := by
  rintro kvs h D W y rs wh told o l n post A h8 q
  obtain ⟨rfl, R, r3, hwh, htl, t3, _, ho, hll⟩ := A
  have p8 : 2 ^ h ≤ 2 ^ 10 := Nat.pow_le_pow_right (by decide) h8
  have e10 : (2 : Nat) ^ 10 = 1024 := by decide
  have ll : (leavesW wh).length ≤ 1024 := by
    rcases hwh with rfl | hp
    · exact Nat.zero_le _
    · rw [leavesW_pt hp.pt]
      have := leaves_len KK h [1] wh hp.pt
      omega
  have rest : ∀ its : List PyData, its = (leavesW wh).map tI →
      sRet (fUn oTupD (fOp oAddD (fVar 1) (fLst (fLc (iRange1 (fCons (fCb oLenD (fCons (fOp oIxD (fVar 0) (fC (.int 2))) fNil)) fNil)) (aName 2) bYes (fTup (fCons (fC (.int 2)) (fCons (fVar 2) fNil))) [2])))) [some (.dat (.tuple [.tuple rs, wh, .tuple told, o, l])), some (.dat (.list its)), none] ⟨n, []⟩ (fun o s' => match o with
        | .ret r => endOf false s' post r
        | .nxt env => endOf false s' post .none
        | _ => False) := by
    rintro its rfl
    refine ⟨⟨by omega, by omega⟩, by rw [rng_len]; omega, ?_⟩
    refine rng_map (fun k kt h => ?_) ?_
    · show kt (.tuple [.int 2, .int (0 + (k : Int))]) _
      rw [Int.zero_add]
      exact h
    · refine ⟨?_, ?_⟩
      · rw [List.length_map, List.length_map, List.length_range]
        show (leavesW wh).length + told.length ≤ _
        omega
      · show post (.tuple ((leavesW wh).map tI ++ (List.range told.length).map fun k => tI [2, k])) [] n
        unfold dueP at q
        rw [List.map_append, List.map_map] at q
        exact q
  refine if2 (fun c => ?_) fun c => ?_
  · rcases hwh with rfl | hp
    · exact rest [] rfl
    · have : isNone wh = false := by cases hp.pt <;> rfl
      rw [this] at c
      cases c
  · rcases hwh with rfl | hp
    · exact absurd rfl c
    · refine hl h wh [1] 0 _ (by show h ≤ 19; omega) (by omega) (by simp; omega) hp.pt ?_
      exact rest _ (by rw [leavesW_pt hp.pt])
/-! sorted names -/
def leS (a b : Str) : Bool := decide (a.cps.toList ≤ b.cps.toList)
theorem sort_str {zs : List Str} : (zs.map PyData.str).mergeSort (PySem.W.dataLe false id) = (zs.mergeSort leS).map .str := by
  refine (List.map_mergeSort fun a _ b _ => ?_).symm
  have := congrFun (congrFun (PySem.W.dataLe_str (fun b : Str => b)) a) b
  exact this.symm
theorem leS_anti {a b : Str} (h1 : leS a b = true) (h2 : leS b a = true) : a = b := by
  have h1 := of_decide_eq_true h1
  have h2 := of_decide_eq_true h2
  have : a.cps.toList = b.cps.toList := List.le_antisymm h1 h2
  cases a; cases b
  simp only [PySem.Str.mk.injEq]
  exact Array.toList_inj.mp this
theorem sort_filter {P : Str → Bool} {zs : List Str} : (zs.filter P).mergeSort leS = (zs.mergeSort leS).filter P := by
  have tr : ∀ a b c : Str, leS a b = true → leS b c = true → leS a c = true := fun a b c h1 h2 => decide_eq_true (List.le_trans (of_decide_eq_true h1) (of_decide_eq_true h2))
  have tot : ∀ a b : Str, (leS a b || leS b a) = true := fun a b => by
    rcases List.le_total a.cps.toList b.cps.toList with h | h
    · rw [show leS a b = true from decide_eq_true h]; rfl
    · rw [show leS b a = true from decide_eq_true h, Bool.or_true]
  refine List.Perm.eq_of_pairwise (le := fun a b => leS a b = true) (fun a b _ _ h1 h2 => leS_anti h1 h2) (List.pairwise_mergeSort tr tot _) ((List.pairwise_mergeSort tr tot _).filter _) ?_
  exact (List.mergeSort_perm _ _).trans ((List.mergeSort_perm _ _).symm.filter _)
end K21
end

/-! K21s -/
section
set_option autoImplicit false
open PySem PySem.Spec PyProof.Rows L2 FA FW
namespace K21
/-! columns -/
def colOf : PyData → Option Str
  | .tuple (.str w :: .str a :: _) => if w = "column" then some a else none
  | _ => none
theorem colOf_pt {h : Nat} {x : PyData} (p : Pt h x) : (∃ a c, x = .tuple [.str "column", .str a, .str c] ∧ colOf x = some a) ∨ (colOf x = none ∧ ∃ w r, x = .tuple (.str w :: r) ∧ decide (V.str w = V.str "column") = false) := by
  cases p with
  | val => exact .inr ⟨by rename_i v; cases v <;> rfl, _, _, rfl, by decide⟩
  | @col n a c => exact .inl ⟨a, c, rfl, rfl⟩
  | @one n w q r hw hp => exact .inr ⟨by rcases hw with rfl | rfl | rfl <;> cases hp <;> rfl, _, _, rfl, by rcases hw with rfl | rfl | rfl <;> decide⟩
  | ex hc => exact .inr ⟨rfl, _, _, rfl, by decide⟩
  | of hw hc ht => exact .inr ⟨rfl, _, _, rfl, by rcases hw with rfl | rfl <;> decide⟩
  | two hw hp hq => exact .inr ⟨by cases hp <;> rfl, _, _, rfl, by rcases hw with rfl | rfl | rfl | rfl | rfl <;> decide⟩
def cols (lead : List Nat) (p : PyData) : List Str := (allP KK lead p).filterMap fun it => colOf it.2
theorem in_cols {a : Str} : ∀ {zs : List Str}, inV (vD (.str a)) ((zs.map PyData.str).map vD) = decide (a ∈ zs)
  | [] => by simp [inV]
  | z :: zs => by
    have ih := in_cols (a := a) (zs := zs)
    show (eqV (.str z) (.str a) || inV (vD (.str a)) ((zs.map PyData.str).map vD)) = _
    rw [ih]
    show ((z == a) || decide (a ∈ zs)) = decide (a ∈ z :: zs)
    by_cases h : z = a
    · subst h; simp
    · have : (z == a) = false := by simpa using h
      rw [this, Bool.false_or]
      refine decide_eq_decide.mpr ?_
      rw [List.mem_cons]
      exact ⟨.inr, fun q => q.elim (fun e => absurd e.symm h) id⟩
theorem scD_strs {zs : List Str} : (zs.map PyData.str).all scD = true := by
  rw [List.all_eq_true]
  intro x hx
  obtain ⟨z, _, rfl⟩ := List.mem_map.mp hx
  rfl
def al : PyData → Str
  | .tuple (.str a :: _) => a
  | _ => ""
def NamSp (f : Fn) : Prop := ∀ (kvs : List (PyData × PyData)) (h D W : Nat) (y : PyData) (rs : List PyData) (wh : PyData) (told : List PyData) (o l p : PyData) (lead : List Nat) (n : Nat) (post : PyData → List PyData → Nat → Prop), Ask kvs h D W y rs wh told o l → h ≤ 10 → sub y lead = some p → Pt h p →
  post (.tuple ((((rs.map al).filter fun a => decide (a ∈ cols lead p)).mergeSort leS).map .str)) [] n → f [y, .tuple (intsD lead)] [] n post
theorem nam_sp {fa fp : Fn} (ha : AtSp fa) (hp : ParSp fp KK) : NamSp (fn_named fp fa) := by
  rintro kvs h D W y rs wh told o l p lead n post A h8 sp pt q
  obtain ⟨rfl, R, r3, hwh, htl, t3, _, ho, hll⟩ := A
  have p8 : 2 ^ (h + 1) ≤ 2 ^ 11 := Nat.pow_le_pow_right (by decide) (by omega)
  have e11 : (2 : Nat) ^ 11 = 2048 := by decide
  have ln := allP_len KK h lead p pt
  refine ha _ p lead 0 _ sp ?_
  refine hp h p lead 0 _ (by show h ≤ 19; omega) (by omega) pt ?_
  refine ⟨by rw [List.length_map]; omega, ?_⟩
  refine lc_inv (fun i acc s => s = ⟨n, []⟩ ∧ acc = (((allP KK lead p).take i).filterMap fun it => colOf it.2).map .str) ⟨rfl, rfl⟩ ?_ ?_
  · rintro i z acc s ez ⟨rfl, rfl⟩ kt kf ht hf
    rw [List.getElem?_map] at ez
    obtain ⟨it, ei, rfl⟩ := Option.map_eq_some_iff.mp ez
    obtain ⟨rel, _, _, _, p2⟩ := allP_ok KK h lead p pt it (List.mem_of_getElem? ei)
    rcases colOf_pt p2 with ⟨a, c, e, ec⟩ | ⟨ec, w, r, e, ne⟩
    · rw [e]
      refine ⟨rfl, ifP (by decide) ?_⟩
      refine ht _ _ ⟨rfl, ?_⟩
      rw [take_succ' ei, List.filterMap_append, List.map_append, List.filterMap_cons, ec]
      rfl
    · rw [e]
      refine ixT0 ⟨rfl, ?_⟩
      show if decide (V.str w = V.str "column") = true then _ else _
      rw [ne]
      refine ifN (by decide) (hf _ ⟨rfl, ?_⟩)
      rw [take_succ' ei, List.filterMap_append, List.filterMap_cons, ec, List.filterMap_nil, List.append_nil]
  · rintro cs s ⟨rfl, rfl⟩
    rw [List.length_map, List.take_length]
    refine ⟨by omega, ?_⟩
    refine lc_inv (fun i acc s => s = ⟨n, []⟩ ∧ acc = (((rs.take i).map al).filter fun a => decide (a ∈ cols lead p)).map .str) ⟨rfl, rfl⟩ ?_ ?_
    · rintro i z acc s ez ⟨rfl, rfl⟩ kt kf ht hf
      obtain ⟨a, t, rfl, _⟩ := R.each z (List.mem_of_getElem? ez)
      refine ⟨rfl, rfl, scD_strs, ?_⟩
      show if inV (vD (.str a)) (((cols lead p).map PyData.str).map vD) = true then _ else _
      rw [in_cols]
      have e2 : (rs.take (i + 1)).map al = (rs.take i).map al ++ [a] := by rw [take_succ' ez, List.map_append]; rfl
      refine if2 (fun c => ht _ _ ⟨rfl, ?_⟩) (fun c => hf _ ⟨rfl, ?_⟩)
      · rw [e2, List.filter_append, List.filter_cons_of_pos (by simpa using c), List.map_append]
        rfl
      · rw [e2, List.filter_append, List.filter_cons_of_neg (by simpa using c), List.filter_nil, List.append_nil]
    · rintro os s ⟨rfl, rfl⟩
      rw [List.take_length]
      obtain ⟨s1, s2, s3⟩ := sort_strs (ds := ((rs.map al).filter fun a => decide (a ∈ cols lead p)).map PyData.str) fun x hx => by
        obtain ⟨z, hz, rfl⟩ := List.mem_map.mp hx
        obtain ⟨r, hr, rfl⟩ := List.mem_map.mp (List.mem_filter.mp hz).1
        obtain ⟨a, t, rfl, na, _⟩ := R.each r hr
        exact ⟨a, rfl, na⟩
      refine ⟨s1, s2, s3, ?_⟩
      show post (.tuple ((((rs.map al).filter fun a => decide (a ∈ cols lead p)).map PyData.str).mergeSort (PySem.W.dataLe false id))) [] n
      rw [sort_str]
      exact q
end K21
end

/-! K21t -/
section
set_option autoImplicit false
open PySem PySem.Spec PyProof.Rows L2 FA FW
namespace K21
def WidSp (f : Fn) : Prop := ∀ (kvs : List (PyData × PyData)) (w y : PyData) (rs : List PyData) (wh : PyData) (told : List PyData) (o l : PyData) (as : List Str) (n : Nat) (post : PyData → List PyData → Nat → Prop), Wd kvs w → Ask kvs 7 9 7660 y rs wh told o l → told.length ≤ 2 → 0 < as.length → as.length ≤ 20 → (∀ a ∈ as, Nm a) → n + 40 ≤ 1000000 →
  (∀ (y : PyData) (rs : List PyData) (wh : PyData) (told : List PyData) (o l : PyData) (n' : Nat), Ask kvs 7 9 7660 y rs wh told o l → n' ≤ n + 40 → post y [] n') → f [w, y, .list (as.map .str)] [] n post
theorem wid_sp {fl fp fc ft : Fn} (hp : PickSp fp) (hl : TermSp fl 3 4 1120 15 2) (hc : ColSp fc) (ht : TermSp ft 3 4 680 9 3) : WidSp (fn__law_widened fp fl fc ft) := by
  rintro kvs w y rs wh told o l as n post W A t2 la0 la ha hn q
  have A' := A
  obtain ⟨rfl, R, r3, hwh, htl, t3, oo, ho, hll⟩ := A'
  have W2 := W
  obtain ⟨ts, rfl, t0, t1, hts⟩ := W2
  match as, la0 with
  | a :: as2, _ =>
    refine ixL0 ((hp ts n _ (by omega) t0 (by omega) fun t htm => ?_).2)
    obtain ⟨z, tc, tk, ti, rfl, hz, hcz⟩ := hts t htm
    have na : Nm a := ha a List.mem_cons_self
    have nr : Rf kvs (.tuple [.str a, .str z]) := ⟨a, z, rfl, na, hz, hcz⟩
    obtain ⟨cs, ec, c0, c1, hcs⟩ := hcz
    match cs, c0 with
    | cn :: ct, _ =>
    have R2 : Rfs kvs (.tuple ([.tuple [.str a, .str z]] ++ rs)) ([.tuple [.str a, .str z]] ++ rs) := ⟨rfl, by simp, by simp; omega, fun r hr => by
      rcases List.mem_append.mp hr with hr | hr
      · rw [List.mem_singleton.mp hr]; exact nr
      · exact R.each r hr⟩
    refine ixL0 ?_
    show (match dlook kvs z with
      | some d => _
      | none => False)
    rw [ec]
    refine ixL0 ?_
    refine ⟨by simp; omega, ?_⟩
    refine hl kvs _ _ _ (n + 1) _ W R2 (by omega) fun lf n2 plf h2 => ?_
    have okO : Okd 2 23 (.tuple [.tuple [.str a, .str z]]) := okt (oks1 nr.ok) (by decide)
    have okI : Okd 5 1145 (.tuple [.tuple [.tuple [.str a, .str z]], lf]) := okt (oks2 (okO.mono (by decide) (Nat.le_refl _)) plf.ok) (by decide)
    have pc0 : PO 0 1 40 (.tuple [.str "column", .str a, .str cn]) := ⟨.col, okt (oks3 (okw (lit (by decide) (by decide))) (okw na) (okw (hcs cn List.mem_cons_self))) (by decide)⟩
    refine hc kvs _ _ rs n2 _ W R (by omega) fun yc n3 pyc h3 => ?_
    refine (hp _ n3 _ (by omega) (by simp) (by simp) fun cl hcl => ?_).1
    have pcl : PO 0 1 40 cl := by
      simp only [List.mem_cons, List.not_mem_nil, or_false] at hcl
      rcases hcl with rfl | rfl
      · exact pc0
      · exact pyc
    refine (hp _ (n3 + 1) _ (by omega) (by decide) (by decide) fun w2 hw2 => ?_).1
    have wl2 : ∃ z : Str, w2 = .str z ∧ (z = "only" ∨ z = "first") := by
      simp only [List.mem_cons, List.not_mem_nil, or_false] at hw2
      rcases hw2 with rfl | rfl
      · exact ⟨_, rfl, .inl rfl⟩
      · exact ⟨_, rfl, .inr rfl⟩
    obtain ⟨w2, rfl, hwd2⟩ := wl2
    have wn2 : w2.length ≤ 10 ∧ Low w2 := by rcases hwd2 with rfl | rfl <;> exact lit (by decide) (by decide)
    have pi : PO 4 6 1200 (.tuple [.str w2, .tuple [.tuple [.tuple [.str a, .str z]], lf], cl]) := ⟨.of hwd2 plf.pt (pcl.pt.up (by decide)), okt (oks3 (okw wn2) okI (pcl.ok.mono (by decide) (Nat.le_refl _))) (by decide)⟩
    refine ht kvs _ _ rs (n3 + 2) _ W R (by omega) fun tm n4 ptm h4 => ?_
    refine ⟨by simp; omega, (by show 2 + 1 ≤ 1000000; decide), (by show 3 + 2 ≤ 1000000; decide), ?_⟩
    refine q _ rs wh (told ++ [.tuple [.str "plus", .tuple [.str w2, .tuple [.tuple [.tuple [.str a, .str z]], lf], cl], .int 3], tm]) o l n4 ⟨rfl, R, r3, hwh, fun t ht => ?_, by simp; omega, oo, ho, hll⟩ (by omega)
    rcases List.mem_append.mp ht with ht | ht
    · exact htl t ht
    · simp only [List.mem_cons, List.not_mem_nil, or_false] at ht
      rcases ht with rfl | rfl
      · exact (PO.up ⟨.one (.inl rfl) pi.pt, okt (oks3 (okw (lit (by decide) (by decide))) pi.ok (okd_int (by decide) (by decide) : Okd 6 140 (.int 3))) (Nat.le_refl _)⟩ (by decide) (by decide) (by decide))
      · exact ptm.up (by decide) (by decide) (by decide)
end K21
end

/-! K21u -/
section
set_option autoImplicit false
open PySem PySem.Spec PyProof.Rows L2 FA FW
namespace K21
structure Sh (x : PyData) : Prop where
  sh : x.showable = true
  d60 : x.depth ≤ 60
  ln : x.shown.length ≤ sizeLine
theorem Okd.sh' {D W : Nat} {x : PyData} (h : Okd D W x) (hd : D ≤ 60) (hw : 62 * W + 60 ≤ 16777216) : Sh x := by
  refine ⟨h.sh, Nat.le_trans h.dp hd, ?_⟩
  have := h.len
  have e : sizeLine = 16777216 := by decide
  rw [e]
  omega
theorem shaped_intsD (l : List Nat) : SeqAt.shaped (.tuple (intsD l)) = true := by
  have e : intsD l = (l.map fun (i : Nat) => (i : Int)).map PyData.int := by unfold intsD; rw [List.map_map]; rfl
  unfold SeqAt.shaped
  rw [Bool.and_eq_true, e]
  refine ⟨?_, decide_eq_true ?_⟩
  · simp only [PyData.canLay0, ints_canLay]
  · simp only [PyData.depth, ints_depth]
    decide
theorem eqvAll_ints : ∀ {a b : List Nat}, PyData.eqvAll (intsD a) (intsD b) = decide (a = b)
  | [], [] => by simp [intsD, PyData.eqvAll]
  | [], j :: b => by simp [intsD, PyData.eqvAll]
  | i :: a, [] => by simp [intsD, PyData.eqvAll]
  | i :: a, j :: b => by
    have ih := eqvAll_ints (a := a) (b := b)
    show PyData.eqvAll (.int (i : Int) :: intsD a) (.int (j : Int) :: intsD b) = _
    rw [PyData.eqvAll, ih]
    simp only [PyData.eqv]
    by_cases h : i = j
    · subst h
      by_cases q : a = b
      · subst q; simp
      · simp [q]
    · have : ¬ ((i : Int) = (j : Int)) := by omega
      simp [h, this]
theorem eqv_ints {a b : List Nat} : PyData.eqv (.tuple (intsD a)) (.tuple (intsD b)) = decide (a = b) := by
  rw [PyData.eqv]
  exact eqvAll_ints
/-! the parts of what may be shown may be shown -/
structure Rep (x : PyData) : Prop where
  sh : x.showable = true
  lv : x.leavesShort 60 = true
  dp : x.depth ≤ 20
  wt : x.weight ≤ 30000
theorem Rep.s {x : PyData} (h : Rep x) : Sh x := by
  refine ⟨h.sh, by have := h.dp; omega, ?_⟩
  have := PyData.shown_le 60 (by decide) x h.lv
  have w := h.wt
  have e : sizeLine = 16777216 := by decide
  rw [e]
  omega
theorem rep_get {a : PyData} : ∀ {xs : List PyData} {i : Nat}, xs[i]? = some a → PyData.showableAll xs = true → PyData.leavesShortAll 60 xs = true → a.showable = true ∧ a.leavesShort 60 = true ∧ a.depth ≤ PyData.depthAll xs ∧ a.weight ≤ PyData.weightAll xs
  | [], i, e, _, _ => by simp at e
  | x :: xs, 0, e, h1, h2 => by
    have : x = a := Option.some.inj e
    subst this
    simp only [PyData.showableAll, PyData.leavesShortAll, PyData.depthAll, PyData.weightAll, Bool.and_eq_true] at h1 h2 ⊢
    exact ⟨h1.1, h2.1, by omega, by omega⟩
  | x :: xs, i + 1, e, h1, h2 => by
    simp only [PyData.showableAll, PyData.leavesShortAll, PyData.depthAll, PyData.weightAll, Bool.and_eq_true] at h1 h2 ⊢
    obtain ⟨q1, q2, q3, q4⟩ := rep_get (xs := xs) (i := i) e h1.2 h2.2
    exact ⟨q1, q2, by omega, by omega⟩
theorem rep_sub : ∀ {l : List Nat} {x p : PyData}, Rep x → sub x l = some p → Rep p
  | [], x, p, h, e => by
    have : x = p := Option.some.inj e
    subst this
    exact h
  | i :: r, x, p, h, e => by
    obtain ⟨xs, z, rfl, e1, e2⟩ := sub_bad e
    have h1 := h.sh
    have h2 := h.lv
    have h3 := h.dp
    have h4 := h.wt
    simp only [PyData.showable, PyData.leavesShort, PyData.depth, PyData.weight] at h1 h2 h3 h4
    obtain ⟨q1, q2, q3, q4⟩ := rep_get e1 h1 h2
    exact rep_sub ⟨q1, q2, by omega, by omega⟩ e2
theorem ask_rep {kvs : List (PyData × PyData)} {y : PyData} {rs : List PyData} {wh : PyData} {told : List PyData} {o l : PyData} (A : Ask kvs 7 9 7660 y rs wh told o l) : Rep y := by
  obtain ⟨rfl, R, r3, hwh, htl, t3, oo, ho, hl⟩ := A
  have o1 : Okd 11 92 (.tuple rs) := (R.ok 4 r3).mono (by decide) (by decide)
  have o2 : Okd 11 7660 wh := by
    rcases hwh with rfl | h
    · exact okd_non
    · exact h.ok.mono (by decide) (Nat.le_refl _)
  have o3 : Okd 11 12004 (.tuple told) := (okt (oks_all fun t ht => (htl t ht).ok) (W' := 12004) (by omega)).mono (by decide) (Nat.le_refl _)
  have all : Okd 12 20200 (.tuple [.tuple rs, wh, .tuple told, o, l]) := okt (oks_cons o1 (oks_cons o2 (oks3 o3 (ho.mono (by decide) (Nat.le_refl _)) (hl.mono (by decide) (Nat.le_refl _))))) (by decide)
  exact ⟨all.sh, all.lv, by have := all.dp; omega, by have := all.wt; omega⟩
/-! the places of the main parts are small -/
theorem leaves_small : ∀ (k h : Nat) (lead : List Nat) (x : PyData), Pt h x → ∀ l ∈ leavesP k lead x, l.length ≤ lead.length + h ∧ ∀ i ∈ l, i ∈ lead ∨ i ≤ 2
  | 0, h, lead, x, hx, l, hl => by
    have : leavesP 0 lead x = [lead] := rfl
    rw [this, List.mem_singleton] at hl
    subst hl
    exact ⟨by omega, fun i h => .inl h⟩
  | k + 1, h, lead, x, hx, l, hl => by
    have self : leavesP (k + 1) lead x = [lead] → l.length ≤ lead.length + h ∧ ∀ i ∈ l, i ∈ lead ∨ i ≤ 2 := fun e => by
      rw [e, List.mem_singleton] at hl
      subst hl
      exact ⟨by omega, fun i h => .inl h⟩
    have down : ∀ (n a : Nat), h = n + 1 → a ≤ 2 → (l.length ≤ (lead ++ [a]).length + n ∧ ∀ i ∈ l, i ∈ lead ++ [a] ∨ i ≤ 2) → l.length ≤ lead.length + h ∧ ∀ i ∈ l, i ∈ lead ∨ i ≤ 2 := fun n a e ha ⟨q1, q2⟩ => by
      rw [List.length_append, List.length_singleton] at q1
      refine ⟨by omega, fun i hi => ?_⟩
      rcases q2 i hi with q | q
      · rcases List.mem_append.mp q with q | q
        · exact .inl q
        · rw [List.mem_singleton] at q; exact .inr (by omega)
      · exact .inr q
    cases hx with
    | val => exact self rfl
    | col => exact self rfl
    | @one n w q r hw hp =>
      rcases hw with rfl | rfl | rfl
      · exact self rfl
      · exact self rfl
      · have : leavesP (k + 1) lead (.tuple (.str "not" :: q :: r)) = leavesP k (lead ++ [1]) q := rfl
        rw [this] at hl
        exact down n 1 rfl (by decide) (leaves_small k n _ q hp l hl)
    | ex hc => exact self rfl
    | of hw hc ht => exact self (by rcases hw with rfl | rfl <;> rfl)
    | @two n w q t hw hq ht =>
      have both : (w = "and" ∨ w = "or") → l.length ≤ lead.length + (n + 1) ∧ ∀ i ∈ l, i ∈ lead ∨ i ≤ 2 := by
        intro hw2
        have e : leavesP (k + 1) lead (.tuple [.str w, q, t]) = leavesP k (lead ++ [1]) q ++ leavesP k (lead ++ [2]) t := by rcases hw2 with rfl | rfl <;> rfl
        rw [e] at hl
        rcases List.mem_append.mp hl with hl | hl
        · exact down n 1 rfl (by decide) (leaves_small k n _ q hq l hl)
        · exact down n 2 rfl (by decide) (leaves_small k n _ t ht l hl)
      rcases hw with rfl | rfl | rfl | rfl | rfl
      · exact self rfl
      · exact self rfl
      · exact self rfl
      · exact both (.inl rfl)
      · exact both (.inr rfl)
theorem okd_tI {l : List Nat} (h1 : l.length ≤ 8) (h2 : ∀ i ∈ l, i ≤ 10) : Okd 1 1128 (tI l) := by
  refine okt (oks_all (D := 0) (W := 140) fun x hx => ?_) ?_
  · obtain ⟨i, hi, rfl⟩ := List.mem_map.mp hx
    have := h2 i hi
    exact okd_int (by omega) (by decide)
  · rw [intsD_len]
    omega
end K21
end

/-! K21v -/
section
set_option autoImplicit false
open PySem PySem.Spec PyProof.Rows L2 FA FW
namespace K21
abbrev qn (rs : List PyData) (wh : PyData) (told : List PyData) (o l : PyData) : PyData := .tuple [.tuple rs, wh, .tuple told, o, l]
section
variable {kvs : List (PyData × PyData)} {y : PyData} {rs : List PyData} {wh : PyData} {told : List PyData} {o l : PyData}
theorem told_pt (A : Ask kvs 7 9 7660 y rs wh told o l) : ∀ t ∈ told, ∃ h, Pt h t := fun t ht => ⟨7, (A.tl t ht).pt⟩
theorem ev_in (A : Ask kvs 7 9 7660 y rs wh told o l) {it : List Nat × PyData} (h : it ∈ evW wh ++ evT 0 told) : sub y it.1 = some it.2 ∧ Pt 7 it.2 ∧ it.1.length ≤ 16 := by
  rw [A.is]
  rcases List.mem_append.mp h with h | h
  · rcases A.wh with rfl | hp
    · cases h
    · rw [evW_pt hp.pt] at h
      obtain ⟨rel, e1, e2, e3, e4⟩ := allP_ok KK 7 [1] wh hp.pt it h
      refine ⟨?_, e4, by rw [e1, List.length_append, List.length_singleton]; omega⟩
      rw [e1]
      exact e2
  · -- a told term: by its own height
    have : ∀ (ts : List PyData) (i : Nat), (∀ t ∈ ts, Pt 7 t) → it ∈ evT i ts → ∃ j t rel, ts[j]? = some t ∧ it.1 = [2, i + j] ++ rel ∧ sub t rel = some it.2 ∧ rel.length ≤ 14 ∧ Pt 7 it.2 := by
      intro ts
      induction ts with
      | nil => intro i _ h; cases h
      | cons u ts ih =>
        intro i hp h
        unfold evT at h
        rcases List.mem_append.mp h with h | h
        · obtain ⟨rel, e1, e2, e3, e4⟩ := allP_ok KK 7 [2, i] u (hp u List.mem_cons_self) it h
          exact ⟨0, u, rel, rfl, e1, e2, e3, e4⟩
        · obtain ⟨j, t, rel, e0, e1, e2⟩ := ih (i + 1) (fun t ht => hp t (List.mem_cons_of_mem _ ht)) h
          exact ⟨j + 1, t, rel, e0, by rw [e1, show i + 1 + j = i + (j + 1) by omega], e2⟩
    obtain ⟨j, t, rel, e0, e1, e2, e3, e4⟩ := this told 0 (fun t ht => (A.tl t ht).pt) h
    refine ⟨?_, e4, by rw [e1, List.length_append]; simp; omega⟩
    rw [e1, Nat.zero_add]
    show sub (.tuple told) (j :: rel) = _
    rw [sub_cons, e0]
    exact e2
theorem ev_len (A : Ask kvs 7 9 7660 y rs wh told o l) : (evW wh ++ evT 0 told).length ≤ 2000 := by
  have l1 : (evW wh).length ≤ 256 := by
    rcases A.wh with rfl | hp
    · exact Nat.zero_le _
    · rw [evW_pt hp.pt]
      have := allP_len KK 7 [1] wh hp.pt
      omega
  have l2 := evT_len (i := 0) (h := 7) (ts := told) fun t ht => (A.tl t ht).pt
  have l3 : told.length * 2 ^ (7 + 1) ≤ 4 * 2 ^ (7 + 1) := Nat.mul_le_mul_right _ A.t3
  rw [List.length_append]
  omega
/-- a main part: its place, what stands there, and which parts stand within it -/
theorem due_in (A : Ask kvs 7 9 7660 y rs wh told o l) {d : List Nat} (h : d ∈ dueP wh told.length) : ∃ p, sub y d = some p ∧ Pt 7 p ∧ (evW wh ++ evT 0 told).filter (fun it => pre d it.1) = allP KK d p ∧ d.length ≤ 8 ∧ ∀ i ∈ d, i ≤ 10 := by
  rcases List.mem_append.mp h with h | h
  · rcases A.wh with rfl | hp
    · cases h
    · rw [leavesW_pt hp.pt] at h
      obtain ⟨p, hm⟩ := leaves_in KK 7 [1] wh hp.pt (by decide) d h
      obtain ⟨s1, s2⟩ := leaves_small KK 7 [1] wh hp.pt d h
      have hev : (d, p) ∈ evW wh ++ evT 0 told := List.mem_append_left _ (by rw [evW_pt hp.pt]; exact hm)
      obtain ⟨q1, q2, _⟩ := ev_in A hev
      obtain ⟨rel, e1, _⟩ := allP_ok KK 7 [1] wh hp.pt (d, p) hm
      have e1 : d = [1] ++ rel := e1
      refine ⟨p, q1, q2, ?_, by simpa using s1, fun i hi => ?_⟩
      · rw [List.filter_append, evW_pt hp.pt]
        have none2 : (evT 0 told).filter (fun it => pre d it.1) = [] := by
          refine filter_none fun it hit => ?_
          obtain ⟨j, t, rel2, _, _, e2, _⟩ := evT_in (told_pt A) hit
          rw [e2, e1]
          exact pre_ne (by decide)
        rw [none2, List.append_nil]
        rw [e1] at hm ⊢
        exact pre_filter KK 7 [1] rel wh p hp.pt (by decide) hm
      · rcases s2 i hi with z | z
        · rw [List.mem_singleton] at z; omega
        · omega
  · obtain ⟨k, hk, rfl⟩ := List.mem_map.mp h
    have hk := List.mem_range.mp hk
    have et : told[k]? = some told[k] := List.getElem?_eq_getElem hk
    have t3 := A.t3
    have pk := (A.tl _ (List.getElem_mem hk)).pt
    refine ⟨told[k], ?_, pk, ?_, by simp, fun i hi => ?_⟩
    · rw [A.is]
      show sub (.tuple told) [k] = _
      rw [sub_cons, et]
      rfl
    · rw [List.filter_append]
      have none1 : (evW wh).filter (fun it => pre [2, k] it.1) = [] := by
        refine filter_none fun it hit => ?_
        rcases A.wh with rfl | hp
        · cases hit
        · rw [evW_pt hp.pt] at hit
          obtain ⟨rel, e1, _⟩ := allP_ok KK 7 [1] wh hp.pt it hit
          rw [e1]
          exact pre_ne (by decide)
      have := evT_filter (i := 0) (told_pt A) et
      rw [Nat.zero_add] at this
      rw [none1, this, List.nil_append]
    · simp only [List.mem_cons, List.not_mem_nil, or_false] at hi
      omega
theorem due_sh (A : Ask kvs 7 9 7660 y rs wh told o l) : Sh (.tuple ((dueP wh told.length).map tI)) := by
  have t3 := A.t3
  have len : (dueP wh told.length).length ≤ 132 := by
    unfold dueP
    rw [List.length_append, List.length_map, List.length_range]
    have : (leavesW wh).length ≤ 128 := by
      rcases A.wh with rfl | hp
      · exact Nat.zero_le _
      · rw [leavesW_pt hp.pt]
        exact leaves_len KK 7 [1] wh hp.pt
    omega
  refine Okd.sh' (D := 2) (W := 150000) (okt (oks_all (D := 1) (W := 1128) fun x hx => ?_) ?_) (by decide) (by decide)
  · obtain ⟨d, hd, rfl⟩ := List.mem_map.mp hx
    obtain ⟨p, _, _, _, h1, h2⟩ := due_in A hd
    exact okd_tI h1 h2
  · rw [List.length_map]
    have := Nat.mul_le_mul_left 1129 len
    omega
end
end K21
end

/-! K21w -/
section
set_option autoImplicit false
open PySem PySem.Spec PyProof.Rows L2 FA FW
namespace K21
def r2 (fn__law_every fn__law_leaves fn_part_at fn_main_parts fn_named : Fn) : ES := (sSeq (sAsg (fUn oTupD (fOp oAddD (fVar 3) (fLst (fLc (iRange1 (fCons (fCb oLenD (fCons (fOp oIxD (fVar 0) (fC (.int 2))) fNil)) fNil)) (aName 11) bYes (fTup (fCons (fC (.int 2)) (fCons (fVar 11) fNil))) [11])))) (aName 4)) (sSeq (sIf (fOr (fTest (fOp oNeD (fCb oReprD (fCons (fCall0 fn_main_parts (fCons (fVar 0) fNil)) fNil)) (fCb oReprD (fCons (fVar 4) fNil)))) (fTest (fOp oNeD (fCb oReprD (fCons (fCallK fn_main_parts (fun l => l) (fCons (fVar 0) fNil)) fNil)) (fCb oReprD (fCons (fVar 4) fNil))))) (sRet (fC (.bool false))) sNext) (sSeq (sIf (fTest (fOp oNeD (fCb oReprD (fCons (fCall0 fn_part_at (fCons (fVar 0) (fCons (fTup fNil) fNil))) fNil)) (fCb oReprD (fCons (fVar 0) fNil)))) (sRet (fC (.bool false))) sNext) (sSeq (sIf (fTest (fOp oNeX (fLst (fLc (iEnumD (fCons (fOp oIxD (fVar 0) (fC (.int 3))) fNil)) (aTup [(aName 11), (aName 12)]) (fTest (fOp oNeD (fCb oReprD (fCons (fCall0 fn_part_at (fCons (fVar 0) (fCons (fTup (fCons (fC (.int 3)) (fCons (fVar 11) fNil))) fNil))) fNil)) (fCb oReprD (fCons (fVar 12) fNil)))) (fC (.int 1)) [11, 12])) (fLst fNil))) (sRet (fC (.bool false))) sNext) (sSeq (sFor (iListD (fVar 2)) (aTup [(aName 5), (aName 6)]) (sSeq (sIf (fOr (fTest (fOp oNeD (fCb oReprD (fCons (fCall0 fn_part_at (fCons (fVar 0) (fCons (fVar 5) fNil))) fNil)) (fCb oReprD (fCons (fVar 6) fNil)))) (fTest (fOp oNeD (fCb oReprD (fCons (fCallK fn_part_at swapK (fCons (fVar 5) (fCons (fVar 0) fNil))) fNil)) (fCb oReprD (fCons (fVar 6) fNil))))) (sRet (fC (.bool false))) sNext) (sIf (fAnd (fTest (fOp (oInD false) (fOp oIxD (fVar 6) (fC (.int 0))) (fTup (fCons (fC (.str "exists")) (fCons (fC (.str "only")) (fCons (fC (.str "first")) fNil)))))) (fTest (fOp oNeD (fCb oReprD (fCons (fCall0 fn_part_at (fCons (fVar 0) (fCons (fOp oAddD (fVar 5) (fTup (fCons (fC (.int 1)) fNil))) fNil))) fNil)) (fCb oReprD (fCons (fOp oIxD (fVar 6) (fC (.int 1))) fNil))))) (sRet (fC (.bool false))) sNext))) (sSeq (sFor (iTupD (fVar 4)) (aName 5) (sSeq (sAsg (fLst (fLc (iListD (fVar 2)) (aTup [(aName 13), (aName 6)]) (fAnd (fTest (fOp oEqX (fSl oSlD (fVar 13) fNoP (fPart (fCb oLenD (fCons (fVar 5) fNil)))) (fVar 5))) (fTest (fOp oEqD (fOp oIxD (fVar 6) (fC (.int 0))) (fC (.str "column"))))) (fVar 6) [13, 6])) (aName 7)) (sSeq (sAsg (fUn oTupD (fLst (fLc (iListD (fCb oSortD (fCons (fVar 1) fNil))) (aName 14) (fTest (fOp oNeX (fLst (fLc (iListD (fVar 7)) (aName 6) (fTest (fOp oEqD (fOp oIxD (fVar 6) (fC (.int 1))) (fVar 14))) (fC (.int 1)) [6])) (fLst fNil))) (fVar 14) [14]))) (aName 8)) (sIf (fOr (fTest (fOp oNeD (fCb oReprD (fCons (fCall0 fn_named (fCons (fVar 0) (fCons (fVar 5) fNil))) fNil)) (fCb oReprD (fCons (fVar 8) fNil)))) (fTest (fOp oNeD (fCb oReprD (fCons (fCallK fn_named swapK (fCons (fVar 5) (fCons (fVar 0) fNil))) fNil)) (fCb oReprD (fCons (fVar 8) fNil))))) (sRet (fC (.bool false))) sNext)))) (sRet (fC (.bool true)))))))))
def r3 (fn__law_every fn__law_leaves fn_part_at fn_main_parts fn_named : Fn) : ES := (sSeq (sIf (fOr (fTest (fOp oNeD (fCb oReprD (fCons (fCall0 fn_main_parts (fCons (fVar 0) fNil)) fNil)) (fCb oReprD (fCons (fVar 4) fNil)))) (fTest (fOp oNeD (fCb oReprD (fCons (fCallK fn_main_parts (fun l => l) (fCons (fVar 0) fNil)) fNil)) (fCb oReprD (fCons (fVar 4) fNil))))) (sRet (fC (.bool false))) sNext) (sSeq (sIf (fTest (fOp oNeD (fCb oReprD (fCons (fCall0 fn_part_at (fCons (fVar 0) (fCons (fTup fNil) fNil))) fNil)) (fCb oReprD (fCons (fVar 0) fNil)))) (sRet (fC (.bool false))) sNext) (sSeq (sIf (fTest (fOp oNeX (fLst (fLc (iEnumD (fCons (fOp oIxD (fVar 0) (fC (.int 3))) fNil)) (aTup [(aName 11), (aName 12)]) (fTest (fOp oNeD (fCb oReprD (fCons (fCall0 fn_part_at (fCons (fVar 0) (fCons (fTup (fCons (fC (.int 3)) (fCons (fVar 11) fNil))) fNil))) fNil)) (fCb oReprD (fCons (fVar 12) fNil)))) (fC (.int 1)) [11, 12])) (fLst fNil))) (sRet (fC (.bool false))) sNext) (sSeq (sFor (iListD (fVar 2)) (aTup [(aName 5), (aName 6)]) (sSeq (sIf (fOr (fTest (fOp oNeD (fCb oReprD (fCons (fCall0 fn_part_at (fCons (fVar 0) (fCons (fVar 5) fNil))) fNil)) (fCb oReprD (fCons (fVar 6) fNil)))) (fTest (fOp oNeD (fCb oReprD (fCons (fCallK fn_part_at swapK (fCons (fVar 5) (fCons (fVar 0) fNil))) fNil)) (fCb oReprD (fCons (fVar 6) fNil))))) (sRet (fC (.bool false))) sNext) (sIf (fAnd (fTest (fOp (oInD false) (fOp oIxD (fVar 6) (fC (.int 0))) (fTup (fCons (fC (.str "exists")) (fCons (fC (.str "only")) (fCons (fC (.str "first")) fNil)))))) (fTest (fOp oNeD (fCb oReprD (fCons (fCall0 fn_part_at (fCons (fVar 0) (fCons (fOp oAddD (fVar 5) (fTup (fCons (fC (.int 1)) fNil))) fNil))) fNil)) (fCb oReprD (fCons (fOp oIxD (fVar 6) (fC (.int 1))) fNil))))) (sRet (fC (.bool false))) sNext))) (sSeq (sFor (iTupD (fVar 4)) (aName 5) (sSeq (sAsg (fLst (fLc (iListD (fVar 2)) (aTup [(aName 13), (aName 6)]) (fAnd (fTest (fOp oEqX (fSl oSlD (fVar 13) fNoP (fPart (fCb oLenD (fCons (fVar 5) fNil)))) (fVar 5))) (fTest (fOp oEqD (fOp oIxD (fVar 6) (fC (.int 0))) (fC (.str "column"))))) (fVar 6) [13, 6])) (aName 7)) (sSeq (sAsg (fUn oTupD (fLst (fLc (iListD (fCb oSortD (fCons (fVar 1) fNil))) (aName 14) (fTest (fOp oNeX (fLst (fLc (iListD (fVar 7)) (aName 6) (fTest (fOp oEqD (fOp oIxD (fVar 6) (fC (.int 1))) (fVar 14))) (fC (.int 1)) [6])) (fLst fNil))) (fVar 14) [14]))) (aName 8)) (sIf (fOr (fTest (fOp oNeD (fCb oReprD (fCons (fCall0 fn_named (fCons (fVar 0) (fCons (fVar 5) fNil))) fNil)) (fCb oReprD (fCons (fVar 8) fNil)))) (fTest (fOp oNeD (fCb oReprD (fCons (fCallK fn_named swapK (fCons (fVar 5) (fCons (fVar 0) fNil))) fNil)) (fCb oReprD (fCons (fVar 8) fNil))))) (sRet (fC (.bool false))) sNext)))) (sRet (fC (.bool true))))))))
def r6 (fn__law_every fn__law_leaves fn_part_at fn_main_parts fn_named : Fn) : ES := (sSeq (sFor (iListD (fVar 2)) (aTup [(aName 5), (aName 6)]) (sSeq (sIf (fOr (fTest (fOp oNeD (fCb oReprD (fCons (fCall0 fn_part_at (fCons (fVar 0) (fCons (fVar 5) fNil))) fNil)) (fCb oReprD (fCons (fVar 6) fNil)))) (fTest (fOp oNeD (fCb oReprD (fCons (fCallK fn_part_at swapK (fCons (fVar 5) (fCons (fVar 0) fNil))) fNil)) (fCb oReprD (fCons (fVar 6) fNil))))) (sRet (fC (.bool false))) sNext) (sIf (fAnd (fTest (fOp (oInD false) (fOp oIxD (fVar 6) (fC (.int 0))) (fTup (fCons (fC (.str "exists")) (fCons (fC (.str "only")) (fCons (fC (.str "first")) fNil)))))) (fTest (fOp oNeD (fCb oReprD (fCons (fCall0 fn_part_at (fCons (fVar 0) (fCons (fOp oAddD (fVar 5) (fTup (fCons (fC (.int 1)) fNil))) fNil))) fNil)) (fCb oReprD (fCons (fOp oIxD (fVar 6) (fC (.int 1))) fNil))))) (sRet (fC (.bool false))) sNext))) (sSeq (sFor (iTupD (fVar 4)) (aName 5) (sSeq (sAsg (fLst (fLc (iListD (fVar 2)) (aTup [(aName 13), (aName 6)]) (fAnd (fTest (fOp oEqX (fSl oSlD (fVar 13) fNoP (fPart (fCb oLenD (fCons (fVar 5) fNil)))) (fVar 5))) (fTest (fOp oEqD (fOp oIxD (fVar 6) (fC (.int 0))) (fC (.str "column"))))) (fVar 6) [13, 6])) (aName 7)) (sSeq (sAsg (fUn oTupD (fLst (fLc (iListD (fCb oSortD (fCons (fVar 1) fNil))) (aName 14) (fTest (fOp oNeX (fLst (fLc (iListD (fVar 7)) (aName 6) (fTest (fOp oEqD (fOp oIxD (fVar 6) (fC (.int 1))) (fVar 14))) (fC (.int 1)) [6])) (fLst fNil))) (fVar 14) [14]))) (aName 8)) (sIf (fOr (fTest (fOp oNeD (fCb oReprD (fCons (fCall0 fn_named (fCons (fVar 0) (fCons (fVar 5) fNil))) fNil)) (fCb oReprD (fCons (fVar 8) fNil)))) (fTest (fOp oNeD (fCb oReprD (fCons (fCallK fn_named swapK (fCons (fVar 5) (fCons (fVar 0) fNil))) fNil)) (fCb oReprD (fCons (fVar 8) fNil))))) (sRet (fC (.bool false))) sNext)))) (sRet (fC (.bool true)))))
def r7 (fn__law_every fn__law_leaves fn_part_at fn_main_parts fn_named : Fn) : ES := (sSeq (sFor (iTupD (fVar 4)) (aName 5) (sSeq (sAsg (fLst (fLc (iListD (fVar 2)) (aTup [(aName 13), (aName 6)]) (fAnd (fTest (fOp oEqX (fSl oSlD (fVar 13) fNoP (fPart (fCb oLenD (fCons (fVar 5) fNil)))) (fVar 5))) (fTest (fOp oEqD (fOp oIxD (fVar 6) (fC (.int 0))) (fC (.str "column"))))) (fVar 6) [13, 6])) (aName 7)) (sSeq (sAsg (fUn oTupD (fLst (fLc (iListD (fCb oSortD (fCons (fVar 1) fNil))) (aName 14) (fTest (fOp oNeX (fLst (fLc (iListD (fVar 7)) (aName 6) (fTest (fOp oEqD (fOp oIxD (fVar 6) (fC (.int 1))) (fVar 14))) (fC (.int 1)) [6])) (fLst fNil))) (fVar 14) [14]))) (aName 8)) (sIf (fOr (fTest (fOp oNeD (fCb oReprD (fCons (fCall0 fn_named (fCons (fVar 0) (fCons (fVar 5) fNil))) fNil)) (fCb oReprD (fCons (fVar 8) fNil)))) (fTest (fOp oNeD (fCb oReprD (fCons (fCallK fn_named swapK (fCons (fVar 5) (fCons (fVar 0) fNil))) fNil)) (fCb oReprD (fCons (fVar 8) fNil))))) (sRet (fC (.bool false))) sNext)))) (sRet (fC (.bool true))))

abbrev en (post : PyData → List PyData → Nat → Prop) : Out → S → Prop := fun o s' => match o with
  | .ret r => endOf false s' post r
  | .nxt _ => endOf false s' post .none
  | _ => False
abbrev rEnv (y : PyData) (own : List Str) (ev : List (List Nat × PyData)) (pl a4 a5 a6 a7 a8 : Option U) : FW.Env := [some (.dat y), some (.dat (.list (own.map .str))), some (.dat (.list (ev.map enc))), pl, a4, a5, a6, a7, a8, none, none, none, none, none, none]
theorem take_intsD {l : List Nat} {n : Nat} : (intsD l).take n = intsD (l.take n) := by unfold intsD; rw [List.map_take]
theorem ones_ne {c : Nat} : SeqAt.shaped (.list (List.replicate c (.int 1))) = true ∧ PyData.eqv (.list (List.replicate c (.int 1))) (.list []) = decide (c = 0) := by
  refine ⟨?_, ?_⟩
  · have e : List.replicate c (PyData.int 1) = (List.replicate c (1 : Int)).map PyData.int := by rw [List.map_replicate]
    unfold SeqAt.shaped
    rw [Bool.and_eq_true, e]
    refine ⟨?_, decide_eq_true ?_⟩
    · simp only [PyData.canLay0, ints_canLay]
    · simp only [PyData.depth, ints_depth]
      decide
  · cases c with
    | zero => rfl
    | succ c =>
      rw [List.replicate_succ]
      simp [PyData.eqv, PyData.eqvAll]
section
variable {kvs : List (PyData × PyData)} {y : PyData} {rs : List PyData} {wh : PyData} {told : List PyData} {o l : PyData}
theorem own_strs (A : Ask kvs 7 9 7660 y rs wh told o l) {zs : List Str} (h : ∀ z ∈ zs, z ∈ rs.map al) : ∀ x ∈ zs.map PyData.str, IsStr x := by
  intro x hx
  obtain ⟨z, hz, rfl⟩ := List.mem_map.mp hx
  obtain ⟨r, hr, rfl⟩ := List.mem_map.mp (h z hz)
  obtain ⟨a, t, rfl, na, _⟩ := A.refs.each r hr
  exact ⟨a, rfl, na⟩
theorem names_sh (A : Ask kvs 7 9 7660 y rs wh told o l) {zs : List Str} (h : ∀ z ∈ zs, z ∈ rs.map al) (hl : zs.length ≤ 4) : Sh (.tuple (zs.map .str)) := by
  refine Okd.sh' (D := 1) (W := 100) (okt (oks_all (D := 0) (W := 10) fun x hx => (own_strs A h x hx).ok) ?_) (by decide) (by decide)
  rw [List.length_map]
  omega
/-- which columns stand within -/
theorem cols_iff {d : List Nat} {p : PyData} {a : Str} : a ∈ cols d p ↔ ((((allP KK d p).filter fun it => (colOf it.2).isSome).map (·.2)).filter fun x => decide (colOf x = some a)) ≠ [] := by
  unfold cols
  rw [List.mem_filterMap]
  constructor
  · rintro ⟨it, hit, e⟩ z
    have : it.2 ∈ ((((allP KK d p).filter fun it => (colOf it.2).isSome).map (·.2)).filter fun x => decide (colOf x = some a)) := List.mem_filter.mpr ⟨List.mem_map.mpr ⟨it, List.mem_filter.mpr ⟨hit, by rw [e]; rfl⟩, rfl⟩, decide_eq_true e⟩
    rw [z] at this
    cases this
  · intro h
    obtain ⟨x, hx⟩ := List.exists_mem_of_ne_nil _ h
    obtain ⟨h1, h2⟩ := List.mem_filter.mp hx
    obtain ⟨it, h3, rfl⟩ := List.mem_map.mp h1
    exact ⟨it, (List.mem_filter.mp h3).1, of_decide_eq_true h2⟩
theorem r7_ok {fe fq fa fm fn' : Fn} (A : Ask kvs 7 9 7660 y rs wh told o l) (hn : NamSp fn') {pl a5 a6 a7 a8 : Option U} {n : Nat} {post : PyData → List PyData → Nat → Prop} (q : post (.bool true) [] n) :
    r7 fe fq fa fm fn' (rEnv y (rs.map al) (evW wh ++ evT 0 told) pl (some (.dat (.tuple ((dueP wh told.length).map tI)))) a5 a6 a7 a8) ⟨n, []⟩ (en post) := by
  have ol : rs.length ≤ 4 := A.r3
  have el := ev_len A
  refine for_inv (fun i env s => s = ⟨n, []⟩ ∧ ∃ a5 a6 a7 a8, env = rEnv y (rs.map al) (evW wh ++ evT 0 told) pl (some (.dat (.tuple ((dueP wh told.length).map tI)))) a5 a6 a7 a8) ⟨rfl, _, _, _, _, rfl⟩ ?_ ?_
  · rintro i x env s ex ⟨rfl, b5, b6, b7, b8, rfl⟩ kn hkn
    rw [List.getElem?_map] at ex
    obtain ⟨d, ed, rfl⟩ := Option.map_eq_some_iff.mp ex
    obtain ⟨p, sp, pp, fl, dl, _⟩ := due_in A (List.mem_of_getElem? ed)
    -- within
    refine ⟨by rw [List.length_map]; omega, ?_⟩
    refine lc_inv (fun i acc s => s = ⟨n, []⟩ ∧ acc = (((evW wh ++ evT 0 told).take i).filter fun it => pre d it.1 && (colOf it.2).isSome).map (·.2)) ⟨rfl, rfl⟩ ?_ ?_
    · rintro j z acc s ez ⟨rfl, rfl⟩ kt kf ht hf
      rw [List.getElem?_map] at ez
      obtain ⟨it, ei, rfl⟩ := Option.map_eq_some_iff.mp ez
      obtain ⟨_, pt, _⟩ := ev_in A (List.mem_of_getElem? ei)
      refine ⟨rfl, ?_⟩
      show SeqAt.shaped (.tuple (cutD (intsD it.1) none (some ((intsD d).length : Int)))) = true ∧ SeqAt.shaped (.tuple (intsD d)) = true ∧ (if PyData.eqv (.tuple (cutD (intsD it.1) none (some ((intsD d).length : Int)))) (.tuple (intsD d)) = true then _ else _)
      rw [cutD_take, intsD_len, take_intsD, eqv_ints]
      refine ⟨shaped_intsD _, shaped_intsD d, ?_⟩
      have e2 : ((evW wh ++ evT 0 told).take (j + 1)).filter (fun it => pre d it.1 && (colOf it.2).isSome) = ((evW wh ++ evT 0 told).take j).filter (fun it => pre d it.1 && (colOf it.2).isSome) ++ [it].filter (fun it => pre d it.1 && (colOf it.2).isSome) := by rw [take_succ' ei, List.filter_append]
      refine if2 (fun c => ?_) fun c => ?_
      · have pr : pre d it.1 = true := c
        rcases colOf_pt pt with ⟨a, cc, e, ec⟩ | ⟨ec, w, r, e, ne⟩
        · rw [e]
          refine ⟨rfl, ifP (by decide) (ht _ _ ⟨rfl, ?_⟩)⟩
          rw [e2, List.filter_cons_of_pos (by rw [pr, ec]; rfl), List.filter_nil, List.map_append, ← e]
          rfl
        · rw [e]
          refine ixT0 ⟨rfl, ?_⟩
          show if decide (V.str w = V.str "column") = true then _ else _
          rw [ne]
          refine ifN (by decide) (hf _ ⟨rfl, ?_⟩)
          rw [e2, List.filter_cons_of_neg (by rw [ec]; simp), List.filter_nil, List.append_nil]
      · have pr : ¬ (pre d it.1 = true) := c
        refine ifN (by decide) (hf _ ⟨rfl, ?_⟩)
        rw [e2, List.filter_cons_of_neg (by rw [Bool.and_eq_true]; exact fun z => pr z.1), List.filter_nil, List.append_nil]
    · rintro wl s ⟨rfl, rfl⟩
      rw [List.length_map, List.take_length]
      have ew : ((evW wh ++ evT 0 told).filter fun it => pre d it.1 && (colOf it.2).isSome) = (allP KK d p).filter fun it => (colOf it.2).isSome := by
        rw [← fl, List.filter_filter]
        congr 1
        funext it
        rw [Bool.and_comm]
      rw [ew]
      have wp : ∀ x ∈ ((allP KK d p).filter fun it => (colOf it.2).isSome).map (·.2), ∃ a c, x = .tuple [.str "column", .str a, .str c] ∧ colOf x = some a := by
        intro x hx
        obtain ⟨it, hit, rfl⟩ := List.mem_map.mp hx
        obtain ⟨h1, h2⟩ := List.mem_filter.mp hit
        obtain ⟨rel, _, _, _, p2⟩ := allP_ok KK 7 d p pp it h1
        rcases colOf_pt p2 with ⟨a, c, e, ec⟩ | ⟨ec, _⟩
        · exact ⟨a, c, e, ec⟩
        · rw [ec] at h2; cases h2
      have wlen : (((allP KK d p).filter fun it => (colOf it.2).isSome).map (·.2)).length ≤ 300 := by
        rw [List.length_map]
        have h1 := List.length_filter_le (fun it : List Nat × PyData => (colOf it.2).isSome) (allP KK d p)
        have h2 := allP_len KK 7 d p pp
        omega
      have ci := fun a => cols_iff (d := d) (p := p) (a := a)
      generalize ((allP KK d p).filter fun it => (colOf it.2).isSome).map (·.2) = wl at wp wlen ci
      -- the names
      obtain ⟨s1, s2, s3⟩ := sort_strs (own_strs A (zs := rs.map al) fun z h => h)
      refine ⟨s1, s2, s3, ?_⟩
      show (((rs.map al).map PyData.str).mergeSort (PySem.W.dataLe false id)).length ≤ 1000000 ∧ lcGo _ _ _ _ (((rs.map al).map PyData.str).mergeSort (PySem.W.dataLe false id)) [] _ _
      rw [sort_str]
      have sl : ((rs.map al).mergeSort leS).length ≤ 4 := by rw [List.length_mergeSort, List.length_map]; omega
      refine ⟨by rw [List.length_map]; omega, ?_⟩
      refine lc_inv (fun i acc s => s = ⟨n, []⟩ ∧ acc = ((((rs.map al).mergeSort leS).take i).filter fun a => decide (a ∈ cols d p)).map .str) ⟨rfl, rfl⟩ ?_ ?_
      · rintro j z acc s ez ⟨rfl, rfl⟩ kt kf ht hf
        rw [List.getElem?_map] at ez
        obtain ⟨a, ea, rfl⟩ := Option.map_eq_some_iff.mp ez
        refine ⟨by omega, ?_⟩
        refine lc_inv (fun i acc s => s = ⟨n, []⟩ ∧ acc = List.replicate (((wl.take i).filter fun x => decide (colOf x = some a)).length) (.int 1)) ⟨rfl, rfl⟩ ?_ ?_
        · rintro m x acc s em ⟨rfl, rfl⟩ kt2 kf2 ht2 hf2
          obtain ⟨a2, c2, rfl, ec⟩ := wp x (List.mem_of_getElem? em)
          have e2 : (wl.take (m + 1)).filter (fun x => decide (colOf x = some a)) = (wl.take m).filter (fun x => decide (colOf x = some a)) ++ [(.tuple [.str "column", .str a2, .str c2] : PyData)].filter (fun x => decide (colOf x = some a)) := by rw [take_succ' em, List.filter_append]
          refine ⟨rfl, ?_⟩
          show if decide (V.str a2 = V.str a) = true then _ else _
          refine if2 (fun c => ht2 _ _ ⟨rfl, ?_⟩) fun c => hf2 _ ⟨rfl, ?_⟩
          · have : a2 = a := V.str.inj (of_decide_eq_true c)
            rw [e2, List.filter_cons_of_pos (by rw [ec, this]; exact decide_eq_true rfl), List.filter_nil, List.length_append, List.length_singleton, List.replicate_succ']
          · have : ¬ a2 = a := fun e => c (by rw [e]; exact decide_eq_true rfl)
            rw [e2, List.filter_cons_of_neg (by rw [ec]; simpa using this), List.filter_nil, List.append_nil]
        · rintro os s ⟨rfl, rfl⟩
          rw [List.take_length]
          obtain ⟨o1, o2⟩ := ones_ne (c := (wl.filter fun x => decide (colOf x = some a)).length)
          refine ⟨o1, rfl, ?_⟩
          show if (!PyData.eqv (.list (List.replicate _ (.int 1))) (.list [])) = true then _ else _
          rw [o2]
          have e2 : (((rs.map al).mergeSort leS).take (j + 1)).filter (fun a => decide (a ∈ cols d p)) = (((rs.map al).mergeSort leS).take j).filter (fun a => decide (a ∈ cols d p)) ++ [a].filter (fun a => decide (a ∈ cols d p)) := by rw [take_succ' ea, List.filter_append]
          refine if2 (fun c => ht _ _ ⟨rfl, ?_⟩) fun c => hf _ ⟨rfl, ?_⟩
          · have : a ∈ cols d p := (ci a).mpr fun e => by rw [e] at c; simp at c
            have ef : [a].filter (fun a => decide (a ∈ cols d p)) = [a] := by simp [this]
            rw [e2, ef, List.map_append]
            rfl
          · have : ¬ a ∈ cols d p := fun h => by
              have := (ci a).mp h
              have : (wl.filter fun x => decide (colOf x = some a)).length ≠ 0 := fun e => this (List.length_eq_zero_iff.mp e)
              apply c
              rw [decide_eq_false this]
              rfl
            have ef : [a].filter (fun a => decide (a ∈ cols d p)) = [] := by simp [this]
            rw [e2, ef, List.append_nil]
      · rintro ns s ⟨rfl, rfl⟩
        rw [List.length_map, List.take_length]
        have es : (((rs.map al).filter fun a => decide (a ∈ cols d p)).mergeSort leS).map PyData.str = (((rs.map al).mergeSort leS).filter fun a => decide (a ∈ cols d p)).map PyData.str := by rw [sort_filter]
        have N := names_sh A (zs := ((rs.map al).mergeSort leS).filter fun a => decide (a ∈ cols d p)) (fun z hz => (List.mergeSort_perm _ _).mem_iff.mp (List.mem_filter.mp hz).1) (Nat.le_trans (List.length_filter_le _ _) sl)
        show fn' [y, .tuple (intsD d)] [] 0 _
        refine hn kvs 7 9 7660 y rs wh told o l p d 0 _ A (by decide) sp pp ?_
        rw [es]
        refine ⟨N.sh, N.d60, N.ln, N.sh, N.d60, N.ln, rfl, ?_⟩
        refine ifN (by simp) ?_
        show fn' [y, .tuple (intsD d)] [] 0 _
        refine hn kvs 7 9 7660 y rs wh told o l p d 0 _ A (by decide) sp pp ?_
        rw [es]
        refine ⟨N.sh, N.d60, N.ln, N.sh, N.d60, N.ln, rfl, ?_⟩
        refine ifN (by simp) ?_
        exact hkn _ _ ⟨rfl, _, _, _, _, rfl⟩
  · rintro env s ⟨rfl, b5, b6, b7, b8, rfl⟩
    exact q
end
end K21
end

/-! K21x -/
section
set_option autoImplicit false
open PySem PySem.Spec PyProof.Rows L2 FA FW
namespace K21
theorem Pt.word {h : Nat} {x : PyData} (p : Pt h x) : ∃ w xs, x = .tuple (.str w :: xs) := by cases p <;> exact ⟨_, _, rfl⟩
section
variable {kvs : List (PyData × PyData)} {y : PyData} {rs : List PyData} {wh : PyData} {told : List PyData} {o l : PyData}
theorem lead1 {it : List Nat × PyData} {w : Str} {r : List PyData} (pt : Pt 7 it.2) (e : it.2 = .tuple (.str w :: r)) (c : inV (vD (.str w)) ([PyData.str "exists", .str "only", .str "first"].map vD) = true) : ∃ z r2, r = z :: r2 := by
  rw [e] at pt
  cases pt with
  | val => exact ⟨_, _, rfl⟩
  | col => exact ⟨_, _, rfl⟩
  | one _ _ => exact ⟨_, _, rfl⟩
  | ex _ => exact ⟨_, _, rfl⟩
  | of _ _ _ => exact ⟨_, _, rfl⟩
  | two _ _ _ => exact ⟨_, _, rfl⟩
theorem r6_ok {fe fq fa fm fn' : Fn} (A : Ask kvs 7 9 7660 y rs wh told o l) (ha : AtSp fa) (hn : NamSp fn') {pl a5 a6 a7 a8 : Option U} {n : Nat} {post : PyData → List PyData → Nat → Prop} (q : post (.bool true) [] n) :
    r6 fe fq fa fm fn' (rEnv y (rs.map al) (evW wh ++ evT 0 told) pl (some (.dat (.tuple ((dueP wh told.length).map tI)))) a5 a6 a7 a8) ⟨n, []⟩ (en post) := by
  have RY := ask_rep A
  refine for_inv (fun i env s => s = ⟨n, []⟩ ∧ ∃ a5 a6 a7 a8, env = rEnv y (rs.map al) (evW wh ++ evT 0 told) pl (some (.dat (.tuple ((dueP wh told.length).map tI)))) a5 a6 a7 a8) ⟨rfl, _, _, _, _, rfl⟩ ?_ ?_
  · rintro i x env s ex ⟨rfl, b5, b6, b7, b8, rfl⟩ kn hkn
    rw [List.getElem?_map] at ex
    obtain ⟨it, ei, rfl⟩ := Option.map_eq_some_iff.mp ex
    obtain ⟨sp, pt, ll⟩ := ev_in A (List.mem_of_getElem? ei)
    have N := (rep_sub RY sp).s
    refine ⟨rfl, ?_⟩
    show fa [y, .tuple (intsD it.1)] [] 0 _
    refine ha y it.2 it.1 0 _ sp ?_
    refine ⟨N.sh, N.d60, N.ln, N.sh, N.d60, N.ln, rfl, ?_⟩
    refine ifN (by simp) ?_
    show fa [y, .tuple (intsD it.1)] [] 0 _
    refine ha y it.2 it.1 0 _ sp ?_
    refine ⟨N.sh, N.d60, N.ln, N.sh, N.d60, N.ln, rfl, ?_⟩
    refine ifN (by simp) ?_
    have fin : ∀ b7 b8, kn (rEnv y (rs.map al) (evW wh ++ evT 0 told) pl (some (.dat (.tuple ((dueP wh told.length).map tI)))) (some (.dat (.tuple (intsD it.1)))) (some (.dat it.2)) b7 b8) ⟨n, []⟩ := fun b7 b8 => hkn _ _ ⟨rfl, _, _, _, _, rfl⟩
    obtain ⟨w, r, er⟩ : ∃ w r, it.2 = .tuple (.str w :: r) := pt.word
    have l1 := lead1 pt er
    have fin2 := fin b7 b8
    have N2 : ∀ z r2, r = z :: r2 → Sh z ∧ sub y (it.1 ++ [1]) = some z := fun z r2 e => by
      have : sub it.2 [1] = some z := by rw [er, e]; rfl
      have s2 : sub y (it.1 ++ [1]) = some z := by rw [sub_app sp]; exact this
      exact ⟨(rep_sub RY s2).s, s2⟩
    rw [er] at fin2 ⊢
    refine ixT0 ⟨rfl, rfl, if2 (fun c => ?_) fun c => ?_⟩
    · obtain ⟨z, r2, rfl⟩ := l1 c
      obtain ⟨M, s2⟩ := N2 z r2 rfl
      refine ⟨by show (intsD it.1).length + 1 ≤ _; rw [intsD_len]; omega, ?_⟩
      have e1 : intsD it.1 ++ [PyData.int 1] = intsD (it.1 ++ [1]) := by rw [intsD_app]; rfl
      show fa [y, .tuple (intsD it.1 ++ [PyData.int 1])] [] 0 _
      rw [e1]
      refine ha y z (it.1 ++ [1]) 0 _ s2 ?_
      refine ⟨M.sh, M.d60, M.ln, ixT1 ?_⟩
      refine ⟨M.sh, M.d60, M.ln, rfl, ?_⟩
      refine ifN (by simp) ?_
      exact fin2
    · exact ifN (by decide) fin2
  · rintro env s ⟨rfl, b5, b6, b7, b8, rfl⟩
    exact r7_ok (fe := fe) (fq := fq) (fa := fa) (fm := fm) A hn q
theorem r3_ok {fe fq fa fm fn' : Fn} (A : Ask kvs 7 9 7660 y rs wh told o l) (ha : AtSp fa) (hm : MainSp fm) (hn : NamSp fn') {pl : Option U} {n : Nat} {post : PyData → List PyData → Nat → Prop} (q : post (.bool true) [] n) :
    r3 fe fq fa fm fn' (rEnv y (rs.map al) (evW wh ++ evT 0 told) pl (some (.dat (.tuple ((dueP wh told.length).map tI)))) none none none none) ⟨n, []⟩ (en post) := by
  have RY := ask_rep A
  have D := due_sh A
  have Y := RY.s
  obtain ⟨os, eo, lo⟩ := A.oo
  have r6' := r6_ok (fe := fe) (fq := fq) (fm := fm) A ha hn (pl := pl) (a5 := none) (a6 := none) (a7 := none) (a8 := none) q
  have A0 := A
  obtain ⟨ey, _⟩ := A0
  refine hm kvs 7 9 7660 y rs wh told o l 0 _ A (by decide) ?_
  refine ⟨D.sh, D.d60, D.ln, D.sh, D.d60, D.ln, rfl, ?_⟩
  refine ifN (by simp) ?_
  show fm [y] [] 0 _
  refine hm kvs 7 9 7660 y rs wh told o l 0 _ A (by decide) ?_
  refine ⟨D.sh, D.d60, D.ln, D.sh, D.d60, D.ln, rfl, ?_⟩
  refine ifN (by simp) ?_
  show fa [y, .tuple (intsD [])] [] 0 _
  refine ha y y [] 0 _ rfl ?_
  refine ⟨Y.sh, Y.d60, Y.ln, Y.sh, Y.d60, Y.ln, rfl, ?_⟩
  refine ifN (by simp) ?_
  subst eo
  have ixo : ∀ {k : PyData → Prop}, k (.tuple os) → oIxD y (.int 3) k := fun h => by rw [ey]; exact h
  refine ixo ⟨by rw [enumD_len]; omega, ?_⟩
  refine lc_inv (fun i acc s => s = ⟨n, []⟩ ∧ acc = []) ⟨rfl, rfl⟩ ?_ ?_
  · rintro i z acc s ez ⟨rfl, rfl⟩ kt kf ht hf
    have il : i < os.length := by rw [← enumD_len]; exact (List.getElem?_eq_some_iff.mp ez).1
    have et : os[i]? = some os[i] := List.getElem?_eq_getElem il
    rw [enumD_get et] at ez
    obtain rfl := Option.some.inj ez
    have sp : sub y [3, i] = some os[i] := by
      rw [ey]
      show sub (.tuple os) [i] = _
      rw [sub_cons, et]
      rfl
    have N := (rep_sub RY sp).s
    refine ⟨rfl, ?_⟩
    show fa [y, .tuple (intsD [3, i])] [] 0 _
    refine ha y os[i] [3, i] 0 _ sp ?_
    refine ⟨N.sh, N.d60, N.ln, N.sh, N.d60, N.ln, rfl, ?_⟩
    refine ifN (by simp) ?_
    exact hf _ ⟨rfl, rfl⟩
  · rintro acc s ⟨rfl, rfl⟩
    refine ⟨rfl, rfl, ifN (by decide) ?_⟩
    exact r6'
theorem r2_ok {fe fq fa fm fn' : Fn} (A : Ask kvs 7 9 7660 y rs wh told o l) (ha : AtSp fa) (hm : MainSp fm) (hn : NamSp fn') {n : Nat} {post : PyData → List PyData → Nat → Prop} (q : post (.bool true) [] n) :
    r2 fe fq fa fm fn' (rEnv y (rs.map al) (evW wh ++ evT 0 told) (some (.dat (.list ((leavesW wh).map tI)))) none none none none none) ⟨n, []⟩ (en post) := by
  have r3' := r3_ok (fe := fe) (fq := fq) A ha hm hn (pl := some (.dat (.list ((leavesW wh).map tI)))) q
  have A0 := A
  obtain ⟨ey, _, _, hwh, _, t3, _⟩ := A0
  have ll : (leavesW wh).length ≤ 128 := by
    rcases hwh with rfl | hp
    · exact Nat.zero_le _
    · rw [leavesW_pt hp.pt]
      exact leaves_len KK 7 [1] wh hp.pt
  have ixo : ∀ {k : PyData → Prop}, k (.tuple told) → oIxD y (.int 2) k := fun h => by rw [ey]; exact h
  refine ixo ⟨⟨by omega, by omega⟩, by rw [rng_len]; omega, ?_⟩
  refine rng_map (i0 := 11) (fun k kt h => ?_) ?_
  · show kt (.tuple [.int 2, .int (0 + (k : Int))]) _
    rw [Int.zero_add]
    exact h
  · refine ⟨?_, ?_⟩
    · rw [List.length_map, List.length_map, List.length_range]
      omega
    · unfold dueP at r3'
      rw [List.map_append, List.map_map] at r3'
      exact r3'
end
def RigSp (f : Fn) : Prop := ∀ (kvs : List (PyData × PyData)) (y : PyData) (rs : List PyData) (wh : PyData) (told : List PyData) (o l : PyData) (n : Nat) (post : PyData → List PyData → Nat → Prop), Ask kvs 7 9 7660 y rs wh told o l → post (.bool true) [] n → f [y] [] n post
theorem rig_sp {fe fq fa fm fn' : Fn} (he : EvSp fe) (hq : LvSp fq KK) (ha : AtSp fa) (hm : MainSp fm) (hn : NamSp fn') : RigSp (fn__law_right fe fq fa fm fn') := by
  rintro kvs y rs wh told o l n post A q
  have rr := r2_ok (fe := fe) (fq := fq) A ha hm hn q
  have A0 := A
  obtain ⟨ey, R, r3, hwh, _, _, _⟩ := A0
  have ix0 : ∀ {k : PyData → Prop}, k (.tuple rs) → oIxD y (.int 0) k := fun h => by rw [ey]; exact h
  have ix1 : ∀ {k : PyData → Prop}, k wh → oIxD y (.int 1) k := fun h => by rw [ey]; exact h
  refine ix0 ⟨by omega, ?_⟩
  refine lc_inv (fun i acc s => s = ⟨n, []⟩ ∧ acc = ((rs.take i).map al).map .str) ⟨rfl, rfl⟩ ?_ ?_
  · rintro i z acc s ez ⟨rfl, rfl⟩ kt kf ht hf
    obtain ⟨a, t, rfl, _⟩ := R.each z (List.mem_of_getElem? ez)
    refine ⟨rfl, ht _ _ ⟨rfl, ?_⟩⟩
    rw [take_succ' ez, List.map_append, List.map_append]
    rfl
  · rintro os s ⟨rfl, rfl⟩
    rw [List.take_length]
    refine he kvs 7 9 7660 y rs wh told o l 0 _ A (by decide) ?_
    refine ix1 (if2 (fun c => ?_) fun c => ix1 ?_)
    · rcases hwh with rfl | hp
      · exact rr
      · have : isNone wh = false := by cases hp.pt <;> rfl
        rw [this] at c
        cases c
    · rcases hwh with rfl | hp
      · exact absurd rfl c
      · refine hq 7 wh [1] 0 _ (by decide) (by decide) (by decide) hp.pt ?_
        rw [leavesW_pt hp.pt] at rr
        exact rr
end K21
end

/-! K21y -/
section
set_option autoImplicit false
open PySem PySem.Spec PyProof.Rows L2 FA FW
namespace K21
abbrev wTg : ET := aTup [(aName 6), (aName 7), (aName 8), (aName 9)]
abbrev wEl : E := fLst (fLc (iTupD (fVar 7)) (aTup [(aName 13), (aName 14)]) bYes (fVar 13) [13, 14])
theorem hasC_put {acc : List (PyData × PyData)} {z t : Str} {cs : List Str} (h0 : 0 < cs.length) (h3 : cs.length ≤ 3) (hc : ∀ c ∈ cs, Nm c) (h : t = z ∨ HasC acc t) : HasC (putD acc z (.list (cs.map .str))) t := by
  by_cases e : t = z
  · subst e
    exact ⟨cs, dlook_put_self, h0, h3, hc⟩
  · rcases h with h | ⟨ds, h1, h2⟩
    · exact absurd h e
    · exact ⟨ds, by rw [dlook_put_ne e]; exact h1, h2⟩
theorem world_go {P : Addr} {post : FW.Env → List (PyData × PyData) → S → Prop} {s : S} : ∀ (ts : List PyData) (acc : List (PyData × PyData)) (b2 b3 b4 b6 b7 b8 b9 b10 b11 b12 b13 b14 : Option U), (∀ t ∈ ts, ∃ z cs, IsTab t z cs) → acc.length + ts.length ≤ 1000 →
    (∀ kvs b6 b7 b8 b9, (∀ t, HasC acc t → HasC kvs t) → (∀ t ∈ ts, ∃ z c k i, t = .tuple [.str z, c, k, i] ∧ Nm z ∧ HasC kvs z) → post [none, some .deck, b2, b3, b4, some (.adr P), b6, b7, b8, b9, b10, b11, b12, b13, b14] kvs s) →
    wGo wTg wEl 6 5 P post ts acc [none, some .deck, b2, b3, b4, some (.adr P), b6, b7, b8, b9, b10, b11, b12, b13, b14] s
  | [], acc, b2, b3, b4, b6, b7, b8, b9, b10, b11, b12, b13, b14, ht, hl, q => ⟨rfl, q acc b6 b7 b8 b9 (fun _ h => h) (fun _ h => nomatch h)⟩
  | t :: ts, acc, b2, b3, b4, b6, b7, b8, b9, b10, b11, b12, b13, b14, ht, hl, q => by
    obtain ⟨z, cs, ⟨ks, is, rfl, _⟩, nz, hc, c0, c3⟩ := ht t List.mem_cons_self
    refine ⟨rfl, ?_⟩
    refine ⟨(by omega : cs.length ≤ 1000000), ?_⟩
    refine lc_inv (fun i acc s' => s' = s ∧ ∃ zs : List Str, acc = zs.map .str ∧ zs.length = i ∧ ∀ z ∈ zs, Nm z) ⟨rfl, [], rfl, rfl, fun _ h => nomatch h⟩ ?_ ?_
    · rintro i y acc s' ey ⟨rfl, zs, rfl, lz, hz⟩ kt kf ht2 hf
      obtain ⟨z1, k1, rfl, n1, _⟩ := hc y (List.mem_of_getElem? ey)
      refine ⟨rfl, ?_⟩
      refine ht2 _ _ ⟨rfl, zs ++ [z1], by simp, by simp [lz], fun w hw => ?_⟩
      rcases List.mem_append.mp hw with hw | hw
      · exact hz w hw
      · rw [List.mem_singleton.mp hw]; exact n1
    · rintro zsd s' ⟨rfl, zs, rfl, lz, hz⟩
      refine ⟨rfl, by simp only [List.length_cons] at hl; omega, ?_⟩
      have pl := putD_len (kvs := acc) (k := z) (v := .list (zs.map .str))
      refine world_go ts (putD acc z (.list (zs.map .str))) b2 b3 b4 _ _ _ _ b10 b11 b12 b13 b14 (fun t h => ht t (List.mem_cons_of_mem _ h)) (by simp only [List.length_cons] at hl; omega) fun kvs d6 d7 d8 d9 h1 h2 => ?_
      refine q kvs d6 d7 d8 d9 (fun t h => h1 t (hasC_put (by omega) (by omega) hz (.inr h))) fun t htm => ?_
      rcases List.mem_cons.mp htm with rfl | htm
      · exact ⟨z, _, _, _, rfl, nz, h1 z (hasC_put (by omega) (by omega) hz (.inl rfl))⟩
      · exact h2 t htm
theorem good {fn fs fr fd fw fg : Fn} (hn : NamesSp fn) (hs : SchSp fs) (hr : DrnSp fr) (hd : DrawSp fd) (hw : WidSp fw) (hg : RigSp fg) :
    lawRest fn fs fr fd fw fg lawEnv ⟨0, []⟩ fun o _ => o = .ret (.bool true) := by
  refine ⟨⟨by decide, by decide⟩, ?_⟩
  refine for_inv (fun i env s => s.rs = [] ∧ s.n ≤ i * 1300 ∧ ∃ b2 b3 b4 b5 b6 b7 b8 b9 b10 b11 b12, env = [none, some .deck, b2, b3, b4, b5, b6, b7, b8, b9, b10, b11, b12, none, none])
    ⟨rfl, Nat.zero_le _, none, none, none, none, none, none, none, none, none, none, none, rfl⟩ ?_ fun env s _ => rfl
  rintro i x env ⟨sn, srs⟩ ex ⟨e1, e2, b2, b3, b4, b5, b6, b7, b8, b9, b10, b11, b12, rfl⟩ kn hkn
  subst e1
  obtain ⟨hi, rfl⟩ := rng_get ex
  have hi : i < 6 := hi
  have e2 : sn ≤ i * 1300 := e2
  have hi3 : i * 1300 ≤ 5 * 1300 := Nat.mul_le_mul_right _ (by omega)
  refine hn 16 sn _ (by decide) (by omega) fun zs lz hz => ?_
  refine hd 3 (sn + 2) _ (by omega) (by decide) (by decide) fun r r0 r1 => ?_
  have er : (1 : Int) + r = (((1 + r).toNat : Nat) : Int) := by omega
  have er2 : (1 + r).toNat = 1 ∨ (1 + r).toNat = 2 ∨ (1 + r).toNat = 3 := by omega
  show fs [.list (zs.map .str), .int (1 + r)] [] (sn + 3) _
  rw [er]
  generalize (1 + r).toNat = m at er2
  refine hs zs m (sn + 3) _ lz hz (by omega) (by omega) (by omega) fun ts n1 lt hts h1 => ?_
  intro P
  refine world_go ts [] _ _ _ _ _ _ _ _ _ _ _ _ hts (by show 0 + ts.length ≤ 1000; omega) fun kvs d6 d7 d8 d9 _ hW => ?_
  have W : Wd kvs (.dict [(.str "tables", .tuple ts), (.str "columns", .dict kvs)]) := ⟨ts, rfl, by omega, by omega, hW⟩
  refine ⟨⟨by decide, by decide⟩, ?_⟩
  refine for_inv (fun j env s => s.rs = [] ∧ s.n ≤ n1 + j * 241 ∧ ∃ c10 c11 c12, env = [none, some .deck, some (.dat (.int (0 + (i : Int)))), some (.dat (.list (zs.map .str))), some (.dat (.tuple ts)), some (.dat (.dict [(.str "tables", .tuple ts), (.str "columns", .dict kvs)])), d6, d7, d8, d9, c10, c11, c12, none, none])
    ⟨rfl, Nat.le_refl _, _, _, _, rfl⟩ ?_ ?_
  · rintro j x env ⟨sn2, srs⟩ ex ⟨e3, e4, c10, c11, c12, rfl⟩ kn2 hkn2
    subst e3
    obtain ⟨hj, rfl⟩ := rng_get ex
    have hj : j < 5 := hj
    have e4 : sn2 ≤ n1 + j * 241 := e4
    have hj3 : j * 241 ≤ 4 * 241 := Nat.mul_le_mul_right _ (by omega)
    show fr [.dict [(.str "tables", .tuple ts), (.str "columns", .dict kvs)], .list (cutD (zs.map .str) (some ((8 : Nat) : Int)) (some ((12 : Nat) : Int))), .int 4] [] sn2 _
    rw [cutD_mid, ← List.map_drop, ← List.map_take]
    refine hr kvs _ _ sn2 _ W (by rw [List.length_take, List.length_drop, lz]; rfl) (fun a h => hz a (List.mem_of_mem_drop (List.mem_of_mem_take h))) (by omega) fun y rs wh told o l n2 A t2 h2 => ?_
    -- behind the question
    have rest : ∀ (KBK : FW.Env → S → Prop) (KRK : PyData → S → Prop) (y : PyData) (rs : List PyData) (wh : PyData) (told : List PyData) (o l : PyData) (n3 : Nat), Ask kvs 7 9 7660 y rs wh told o l → n3 ≤ sn2 + 241 →
        sSeq (sAsg (fCb oReprD (fCons (fVar 11) fNil)) (aName 12)) (sIf (fOr (fNot (fTest (fCall0 fg (fCons (fVar 11) fNil)))) (fTest (fOp oNeD (fCb oReprD (fCons (fVar 11) fNil)) (fVar 12)))) (sRet (fC (.bool false))) sNext)
          [none, some .deck, some (.dat (.int (0 + (i : Int)))), some (.dat (.list (zs.map .str))), some (.dat (.tuple ts)), some (.dat (.dict [(.str "tables", .tuple ts), (.str "columns", .dict kvs)])), d6, d7, d8, d9, some (.dat (.int (0 + (j : Int)))), some (.dat y), c12, none, none] ⟨n3, []⟩
          (Kn kn2 KBK KRK) := by
      intro KBK KRK y rs wh told o l n3 A h3
      have N := (ask_rep A).s
      refine ⟨N.sh, N.d60, N.ln, ?_⟩
      refine hg kvs y rs wh told o l 0 _ A ?_
      refine ifN (by decide) ⟨N.sh, N.d60, N.ln, rfl, ?_⟩
      refine ifN (by simp) ?_
      exact hkn2 _ _ ⟨rfl, by show n3 ≤ _; rw [Nat.add_mul]; omega, _, _, _, rfl⟩
    refine hd 2 n2 _ (by omega) (by decide) (by decide) fun r2 _ _ => ⟨rfl, if2 (fun c => ?_) fun c => ?_⟩
    · show fw [.dict [(.str "tables", .tuple ts), (.str "columns", .dict kvs)], y, .list (cutD (zs.map .str) (some ((14 : Nat) : Int)) none)] [] (n2 + 1) _
      rw [cutD_drop, ← List.map_drop]
      refine hw kvs _ y rs wh told o l _ (n2 + 1) _ W A t2 (by rw [List.length_drop, lz]; decide) (by rw [List.length_drop, lz]; decide) (fun a h => hz a (List.mem_of_mem_drop h)) (by omega) fun y rs wh told o l n3 A h3 => ?_
      exact rest _ _ y rs wh told o l n3 A (by omega)
    · exact rest _ _ y rs wh told o l (n2 + 1) A (by omega)
  · rintro env ⟨sn2, srs⟩ ⟨e3, e4, c10, c11, c12, rfl⟩
    subst e3
    have e4 : sn2 ≤ n1 + 5 * 241 := e4
    exact hkn _ _ ⟨rfl, by show sn2 ≤ _; rw [Nat.add_mul]; omega, _, _, _, _, _, _, _, _, _, _, _, rfl⟩
end K21
end

/-! K21z -/
section
namespace K21
open PySem PySem.Spec PyProof.Rows L2 FA FW
def dd_at_place : He.DefD := ⟨("at_place", none), "at_place", "at_place", defArgs (top 3), defBody (top 3), defScope (top 3), [], []⟩
def dd_parts_of : He.DefD := ⟨("parts_of", none), "parts_of", "parts_of", defArgs (top 4), defBody (top 4), defScope (top 4), [], []⟩
def dd_leaves_of : He.DefD := ⟨("leaves_of", none), "leaves_of", "leaves_of", defArgs (top 5), defBody (top 5), defScope (top 5), [], []⟩
def dd_part_at : He.DefD := ⟨("part_at", none), "part_at", "part_at", defArgs (top 7), defBody (top 7), defScope (top 7), [], []⟩
def dd_main_parts : He.DefD := ⟨("main_parts", none), "main_parts", "main_parts", defArgs (top 8), defBody (top 8), defScope (top 8), [], []⟩
def dd_named : He.DefD := ⟨("named", none), "named", "named", defArgs (top 9), defBody (top 9), defScope (top 9), [], []⟩
def dd__law_deck : He.DefD := ⟨("_law_deck", none), "_law_deck", "_law_deck", defArgs (top 11), defBody (top 11), defScope (top 11), [], []⟩
def dd__law_draw : He.DefD := ⟨("_law_draw", none), "_law_draw", "_law_draw", defArgs (top 12), defBody (top 12), defScope (top 12), [], []⟩
def dd__law_pick : He.DefD := ⟨("_law_pick", none), "_law_pick", "_law_pick", defArgs (top 13), defBody (top 13), defScope (top 13), [], []⟩
def dd__law_names : He.DefD := ⟨("_law_names", none), "_law_names", "_law_names", defArgs (top 14), defBody (top 14), defScope (top 14), [], []⟩
def dd__law_schema : He.DefD := ⟨("_law_schema", none), "_law_schema", "_law_schema", defArgs (top 15), defBody (top 15), defScope (top 15), [], []⟩
def dd__law_any_value : He.DefD := ⟨("_law_any_value", none), "_law_any_value", "_law_any_value", defArgs (top 16), defBody (top 16), defScope (top 16), [], []⟩
def dd__law_column : He.DefD := ⟨("_law_column", none), "_law_column", "_law_column", defArgs (top 17), defBody (top 17), defScope (top 17), [], []⟩
def dd__law_some_term : He.DefD := ⟨("_law_some_term", none), "_law_some_term", "_law_some_term", defArgs (top 18), defBody (top 18), defScope (top 18), [], []⟩
def dd__law_some_leaf : He.DefD := ⟨("_law_some_leaf", none), "_law_some_leaf", "_law_some_leaf", defArgs (top 19), defBody (top 19), defScope (top 19), [], []⟩
def dd__law_inner : He.DefD := ⟨("_law_inner", none), "_law_inner", "_law_inner", defArgs (top 20), defBody (top 20), defScope (top 20), [], []⟩
def dd__law_condition : He.DefD := ⟨("_law_condition", none), "_law_condition", "_law_condition", defArgs (top 21), defBody (top 21), defScope (top 21), [], []⟩
def dd__law_drawn : He.DefD := ⟨("_law_drawn", none), "_law_drawn", "_law_drawn", defArgs (top 22), defBody (top 22), defScope (top 22), [], []⟩
def dd__law_below : He.DefD := ⟨("_law_below", none), "_law_below", "_law_below", defArgs (top 23), defBody (top 23), defScope (top 23), [], []⟩
def dd__law_all : He.DefD := ⟨("_law_all", none), "_law_all", "_law_all", defArgs (top 24), defBody (top 24), defScope (top 24), [], []⟩
def dd__law_every : He.DefD := ⟨("_law_every", none), "_law_every", "_law_every", defArgs (top 25), defBody (top 25), defScope (top 25), [], []⟩
def dd__law_leaves : He.DefD := ⟨("_law_leaves", none), "_law_leaves", "_law_leaves", defArgs (top 26), defBody (top 26), defScope (top 26), [], []⟩
def dd__law_widened : He.DefD := ⟨("_law_widened", none), "_law_widened", "_law_widened", defArgs (top 27), defBody (top 27), defScope (top 27), [], []⟩
def dd__law_right : He.DefD := ⟨("_law_right", none), "_law_right", "_law_right", defArgs (top 28), defBody (top 28), defScope (top 28), [], []⟩
def dd_law : He.DefD := ⟨("law", none), "law", "law", defArgs (top 29), defBody (top 29), defScope (top 29), [], []⟩
def fn : List He.DefD := [dd_at_place, dd_parts_of, dd_leaves_of, dd_part_at, dd_main_parts, dd_named, dd__law_deck, dd__law_draw, dd__law_pick, dd__law_names, dd__law_schema, dd__law_any_value, dd__law_column, dd__law_some_term, dd__law_some_leaf, dd__law_inner, dd__law_condition, dd__law_drawn, dd__law_below, dd__law_all, dd__law_every, dd__law_leaves, dd__law_widened, dd__law_right, dd_law]
def fa : List He.Fa := [.glo "at_place", .glo "parts_of", .glo "leaves_of", .glo "part_at", .glo "main_parts", .glo "named", .glo "_law_deck", .glo "_law_draw", .glo "_law_pick", .glo "_law_names", .glo "_law_schema", .glo "_law_any_value", .glo "_law_column", .glo "_law_some_term", .glo "_law_some_leaf", .glo "_law_inner", .glo "_law_condition", .glo "_law_drawn", .glo "_law_below", .glo "_law_all", .glo "_law_every", .glo "_law_leaves", .glo "_law_widened", .glo "_law_right", .glo "law", .free "isinstance", .free "len", .free "all", .free "abs", .free "repr", .free "str", .free "int", .free "bool", .free "list", .free "tuple", .free "range", .free "sorted", .free "enumerate", .glo "STEPS"]
def ts : List He.Tab := [((fun K => He.ga K "STEPS"), ["column", "value", "plus", "only", "first", "less", "most", "same", "is", "exists", "not", "and", "or"])]
def kB (K : PySem.W.Frag) : Bool := (gdB K "BOTH" dat_BOTH && (gtB K "STEPS" tab_STEPS && true))
abbrev R : PySem.W.OpenRow := PySem.W.OpenLaw.row PySem.Challenge.rw_failsalike_k21_places_and_main_parts
abbrev hk : PySem.W.Hook := hookU 4 fa fn ts kB
def ob (s : PySem.W.SharedT) : He.AlT × Bool × Bool := (He.obsTG 4 fa fn ts (HandSHeadRun.getT s), sysB (HandSHeadRun.getT s), kB (He.frG (HandSHeadRun.getT s) (He.asD (HandSHeadRun.getT s) 4)))
theorem ob_eq (s : PySem.W.SharedT) : ob s = hk.obs s.abs := by
  have e : HandSHeadRun.getT s = s.abs.heap.get? := funext (HandSHeadRun.getT_eq s)
  show (He.obsTG 4 fa fn ts (HandSHeadRun.getT s), sysB (HandSHeadRun.getT s), kB (He.frG (HandSHeadRun.getT s) (He.asD (HandSHeadRun.getT s) 4))) = (He.obsTG 4 fa fn ts s.abs.heap.get?, sysB s.abs.heap.get?, kB (He.frG s.abs.heap.get? (He.asD s.abs.heap.get? 4)))
  exact congrArg (fun g => (He.obsTG 4 fa fn ts g, sysB g, kB (He.frG g (He.asD g 4)))) e
def loose : List Str := ["BOTH", "STEPS", "at_place", "parts_of", "leaves_of", "part_at", "main_parts", "named", "_law_deck", "_law_draw", "_law_pick", "_law_names", "_law_schema", "_law_any_value", "_law_column", "_law_some_term", "_law_some_leaf", "_law_inner", "_law_condition", "_law_drawn", "_law_below", "_law_all", "_law_every", "_law_leaves", "_law_widened", "_law_right"]
theorem run (w : World) : HandSHeadRun.RunEq R (PySem.W.view R.prog [29]) hk ob 6000 loose w := by
  refine PySem.W.byRow2 "special-get-raises" (P := fun w => HandSHeadRun.RunEq R (PySem.W.view R.prog [29]) hk ob 6000 loose w) (fun w => ?_) (fun w => ?_) w
  · intro os
    kernel_rfl
  · intro os
    kernel_rfl
theorem facts {P : Program} {w : World} {K : PySem.W.Frag} {h : Heap} {mg : Str → Option Value} {f : Addr} (X : K.In h) (G : h.Ns mainGlobals mg) (hfa : mg ("law" : Str) = some (.ref f)) (cT : He.SaysT fa fn ts w K) (hk : kB K = true) :
    ∃ fd : FuncData, (∀ (s : Shared) (v : Value), BindsTo s fd ⟨[v], []⟩ [("_law_script", v)]) ∧ ∀ base : Heap, K.In base → base.Ns mainGlobals mg → (∃ o, base.get? sysModules = some o) → FnG P w K mg base CX0 26 f fd ["_law_script"] (spLaw K) := by
  have c := cT.d
  unfold kB at hk
  obtain ⟨hd_BOTH, hk⟩ := Bool.and_eq_true_iff.mp hk
  have d_BOTH : Gd K mg "BOTH" dat_BOTH := gdB_ok X G hd_BOTH
  obtain ⟨hd_STEPS, hk⟩ := Bool.and_eq_true_iff.mp hk
  obtain ⟨es_STEPS, n_STEPS, D_STEPS⟩ := cT.tab 0 (t := ((fun K => He.ga K "STEPS"), ["column", "value", "plus", "only", "first", "less", "most", "same", "is", "exists", "not", "and", "or"])) rfl
  have d_STEPS : Gt K w mg "STEPS" tab_STEPS := gtB_ok (h := h) (He.glo_ok X G (c.fact 38 (f := .glo "STEPS") rfl)) D_STEPS hd_STEPS
  obtain ⟨q_at_place, F_at_place⟩ := c.def_ 0 (d := dd_at_place) rfl
  have g_at_place := He.glo_ok X G (c.fact 0 (f := .glo "at_place") rfl)
  have b_at_place : Binds K q_at_place ["part", "place"] [] := FunD.bindsN F_at_place fun _ _ _ _ _ _ us hl => match us, hl with | [_, _], _ => rfl
  obtain ⟨q_parts_of, F_parts_of⟩ := c.def_ 1 (d := dd_parts_of) rfl
  have g_parts_of := He.glo_ok X G (c.fact 1 (f := .glo "parts_of") rfl)
  have b_parts_of : Binds K q_parts_of ["part"] [] := FunD.bindsN F_parts_of fun _ _ _ _ _ _ us hl => match us, hl with | [_], _ => rfl
  obtain ⟨q_leaves_of, F_leaves_of⟩ := c.def_ 2 (d := dd_leaves_of) rfl
  have g_leaves_of := He.glo_ok X G (c.fact 2 (f := .glo "leaves_of") rfl)
  have b_leaves_of : Binds K q_leaves_of ["condition", "place"] [] := FunD.bindsN F_leaves_of fun _ _ _ _ _ _ us hl => match us, hl with | [_, _], _ => rfl
  obtain ⟨q_part_at, F_part_at⟩ := c.def_ 3 (d := dd_part_at) rfl
  have g_part_at := He.glo_ok X G (c.fact 3 (f := .glo "part_at") rfl)
  have b_part_at : Binds K q_part_at ["question", "place"] [] := FunD.bindsN F_part_at fun _ _ _ _ _ _ us hl => match us, hl with | [_, _], _ => rfl
  have w_part_at : KwTo K q_part_at ["question", "place"] ["place", "question"] swapK := kwTo F_part_at (fun _ _ _ _ _ _ us hl => match us, hl with | [_, _], _ => rfl) rel_swapK
  obtain ⟨q_main_parts, F_main_parts⟩ := c.def_ 4 (d := dd_main_parts) rfl
  have g_main_parts := He.glo_ok X G (c.fact 4 (f := .glo "main_parts") rfl)
  have b_main_parts : Binds K q_main_parts ["question"] [] := FunD.bindsN F_main_parts fun _ _ _ _ _ _ us hl => match us, hl with | [_], _ => rfl
  have w_main_parts : KwTo K q_main_parts ["question"] ["question"] (fun l => l) := kwTo F_main_parts (fun _ _ _ _ _ _ us hl => match us, hl with | [_], _ => rfl) (fun h => h)
  obtain ⟨q_named, F_named⟩ := c.def_ 5 (d := dd_named) rfl
  have g_named := He.glo_ok X G (c.fact 5 (f := .glo "named") rfl)
  have b_named : Binds K q_named ["question", "place"] [] := FunD.bindsN F_named fun _ _ _ _ _ _ us hl => match us, hl with | [_, _], _ => rfl
  have w_named : KwTo K q_named ["question", "place"] ["place", "question"] swapK := kwTo F_named (fun _ _ _ _ _ _ us hl => match us, hl with | [_, _], _ => rfl) rel_swapK
  obtain ⟨q__law_deck, F__law_deck⟩ := c.def_ 6 (d := dd__law_deck) rfl
  have g__law_deck := He.glo_ok X G (c.fact 6 (f := .glo "_law_deck") rfl)
  have b__law_deck : Binds K q__law_deck ["_law_script"] [] := FunD.bindsN F__law_deck fun _ _ _ _ _ _ us hl => match us, hl with | [_], _ => rfl
  obtain ⟨q__law_draw, F__law_draw⟩ := c.def_ 7 (d := dd__law_draw) rfl
  have g__law_draw := He.glo_ok X G (c.fact 7 (f := .glo "_law_draw") rfl)
  have b__law_draw : Binds K q__law_draw ["_law_deck_here", "_law_many"] [] := FunD.bindsN F__law_draw fun _ _ _ _ _ _ us hl => match us, hl with | [_, _], _ => rfl
  obtain ⟨q__law_pick, F__law_pick⟩ := c.def_ 8 (d := dd__law_pick) rfl
  have g__law_pick := He.glo_ok X G (c.fact 8 (f := .glo "_law_pick") rfl)
  have b__law_pick : Binds K q__law_pick ["_law_deck_here", "_law_some"] [] := FunD.bindsN F__law_pick fun _ _ _ _ _ _ us hl => match us, hl with | [_, _], _ => rfl
  obtain ⟨q__law_names, F__law_names⟩ := c.def_ 9 (d := dd__law_names) rfl
  have g__law_names := He.glo_ok X G (c.fact 9 (f := .glo "_law_names") rfl)
  have b__law_names : Binds K q__law_names ["_law_deck_here", "_law_many"] [] := FunD.bindsN F__law_names fun _ _ _ _ _ _ us hl => match us, hl with | [_, _], _ => rfl
  obtain ⟨q__law_schema, F__law_schema⟩ := c.def_ 10 (d := dd__law_schema) rfl
  have g__law_schema := He.glo_ok X G (c.fact 10 (f := .glo "_law_schema") rfl)
  have b__law_schema : Binds K q__law_schema ["_law_deck_here", "_law_names_here", "_law_many"] [] := FunD.bindsN F__law_schema fun _ _ _ _ _ _ us hl => match us, hl with | [_, _, _], _ => rfl
  obtain ⟨q__law_any_value, F__law_any_value⟩ := c.def_ 11 (d := dd__law_any_value) rfl
  have g__law_any_value := He.glo_ok X G (c.fact 11 (f := .glo "_law_any_value") rfl)
  have b__law_any_value : Binds K q__law_any_value ["_law_deck_here", "_law_kinds"] [] := FunD.bindsN F__law_any_value fun _ _ _ _ _ _ us hl => match us, hl with | [_, _], _ => rfl
  obtain ⟨q__law_column, F__law_column⟩ := c.def_ 12 (d := dd__law_column) rfl
  have g__law_column := He.glo_ok X G (c.fact 12 (f := .glo "_law_column") rfl)
  have b__law_column : Binds K q__law_column ["_law_deck_here", "_law_world", "_law_refs"] [] := FunD.bindsN F__law_column fun _ _ _ _ _ _ us hl => match us, hl with | [_, _, _], _ => rfl
  obtain ⟨q__law_some_term, F__law_some_term⟩ := c.def_ 13 (d := dd__law_some_term) rfl
  have g__law_some_term := He.glo_ok X G (c.fact 13 (f := .glo "_law_some_term") rfl)
  have b__law_some_term : Binds K q__law_some_term ["_law_deck_here", "_law_world", "_law_refs", "_law_deep"] [] := FunD.bindsN F__law_some_term fun _ _ _ _ _ _ us hl => match us, hl with | [_, _, _, _], _ => rfl
  obtain ⟨q__law_some_leaf, F__law_some_leaf⟩ := c.def_ 14 (d := dd__law_some_leaf) rfl
  have g__law_some_leaf := He.glo_ok X G (c.fact 14 (f := .glo "_law_some_leaf") rfl)
  have b__law_some_leaf : Binds K q__law_some_leaf ["_law_deck_here", "_law_world", "_law_refs", "_law_deep"] [] := FunD.bindsN F__law_some_leaf fun _ _ _ _ _ _ us hl => match us, hl with | [_, _, _, _], _ => rfl
  obtain ⟨q__law_inner, F__law_inner⟩ := c.def_ 15 (d := dd__law_inner) rfl
  have g__law_inner := He.glo_ok X G (c.fact 15 (f := .glo "_law_inner") rfl)
  have b__law_inner : Binds K q__law_inner ["_law_deck_here", "_law_world", "_law_refs", "_law_aliases"] [] := FunD.bindsN F__law_inner fun _ _ _ _ _ _ us hl => match us, hl with | [_, _, _, _], _ => rfl
  obtain ⟨q__law_condition, F__law_condition⟩ := c.def_ 16 (d := dd__law_condition) rfl
  have g__law_condition := He.glo_ok X G (c.fact 16 (f := .glo "_law_condition") rfl)
  have b__law_condition : Binds K q__law_condition ["_law_deck_here", "_law_world", "_law_refs", "_law_aliases", "_law_deep"] [] := FunD.bindsN F__law_condition fun _ _ _ _ _ _ us hl => match us, hl with | [_, _, _, _, _], _ => rfl
  obtain ⟨q__law_drawn, F__law_drawn⟩ := c.def_ 17 (d := dd__law_drawn) rfl
  have g__law_drawn := He.glo_ok X G (c.fact 17 (f := .glo "_law_drawn") rfl)
  have b__law_drawn : Binds K q__law_drawn ["_law_deck_here", "_law_world", "_law_names_here", "_law_most"] [] := FunD.bindsN F__law_drawn fun _ _ _ _ _ _ us hl => match us, hl with | [_, _, _, _], _ => rfl
  obtain ⟨q__law_below, F__law_below⟩ := c.def_ 18 (d := dd__law_below) rfl
  have g__law_below := He.glo_ok X G (c.fact 18 (f := .glo "_law_below") rfl)
  have b__law_below : Binds K q__law_below ["_law_part"] [] := FunD.bindsN F__law_below fun _ _ _ _ _ _ us hl => match us, hl with | [_], _ => rfl
  obtain ⟨q__law_all, F__law_all⟩ := c.def_ 19 (d := dd__law_all) rfl
  have g__law_all := He.glo_ok X G (c.fact 19 (f := .glo "_law_all") rfl)
  have b__law_all : Binds K q__law_all ["_law_part", "_law_lead"] [] := FunD.bindsN F__law_all fun _ _ _ _ _ _ us hl => match us, hl with | [_, _], _ => rfl
  obtain ⟨q__law_every, F__law_every⟩ := c.def_ 20 (d := dd__law_every) rfl
  have g__law_every := He.glo_ok X G (c.fact 20 (f := .glo "_law_every") rfl)
  have b__law_every : Binds K q__law_every ["_law_asked"] [] := FunD.bindsN F__law_every fun _ _ _ _ _ _ us hl => match us, hl with | [_], _ => rfl
  obtain ⟨q__law_leaves, F__law_leaves⟩ := c.def_ 21 (d := dd__law_leaves) rfl
  have g__law_leaves := He.glo_ok X G (c.fact 21 (f := .glo "_law_leaves") rfl)
  have b__law_leaves : Binds K q__law_leaves ["_law_condition_here", "_law_lead"] [] := FunD.bindsN F__law_leaves fun _ _ _ _ _ _ us hl => match us, hl with | [_, _], _ => rfl
  obtain ⟨q__law_widened, F__law_widened⟩ := c.def_ 22 (d := dd__law_widened) rfl
  have g__law_widened := He.glo_ok X G (c.fact 22 (f := .glo "_law_widened") rfl)
  have b__law_widened : Binds K q__law_widened ["_law_deck_here", "_law_world", "_law_asked", "_law_aliases"] [] := FunD.bindsN F__law_widened fun _ _ _ _ _ _ us hl => match us, hl with | [_, _, _, _], _ => rfl
  obtain ⟨q__law_right, F__law_right⟩ := c.def_ 23 (d := dd__law_right) rfl
  have g__law_right := He.glo_ok X G (c.fact 23 (f := .glo "_law_right") rfl)
  have b__law_right : Binds K q__law_right ["_law_asked"] [] := FunD.bindsN F__law_right fun _ _ _ _ _ _ us hl => match us, hl with | [_], _ => rfl
  obtain ⟨q_law, F_law⟩ := c.def_ 24 (d := dd_law) rfl
  have e := hfa.symm.trans (He.glo_ok X G (c.fact 24 (f := .glo "law") rfl))
  cases e
  have m_isinstance : mg "isinstance" = none := He.free_ok X G (c.fact 25 (f := .free "isinstance") rfl)
  have m_len : mg "len" = none := He.free_ok X G (c.fact 26 (f := .free "len") rfl)
  have m_all : mg "all" = none := He.free_ok X G (c.fact 27 (f := .free "all") rfl)
  have m_abs : mg "abs" = none := He.free_ok X G (c.fact 28 (f := .free "abs") rfl)
  have m_repr : mg "repr" = none := He.free_ok X G (c.fact 29 (f := .free "repr") rfl)
  have m_str : mg "str" = none := He.free_ok X G (c.fact 30 (f := .free "str") rfl)
  have m_int : mg "int" = none := He.free_ok X G (c.fact 31 (f := .free "int") rfl)
  have m_bool : mg "bool" = none := He.free_ok X G (c.fact 32 (f := .free "bool") rfl)
  have m_list : mg "list" = none := He.free_ok X G (c.fact 33 (f := .free "list") rfl)
  have m_tuple : mg "tuple" = none := He.free_ok X G (c.fact 34 (f := .free "tuple") rfl)
  have m_range : mg "range" = none := He.free_ok X G (c.fact 35 (f := .free "range") rfl)
  have m_sorted : mg "sorted" = none := He.free_ok X G (c.fact 36 (f := .free "sorted") rfl)
  have m_enumerate : mg "enumerate" = none := He.free_ok X G (c.fact 37 (f := .free "enumerate") rfl)
  have B : Blt mg := ⟨m_isinstance, m_len, m_all, m_abs, m_repr, m_str, m_int, m_bool, m_list, m_tuple, m_range⟩
  have b := FunD.bindsA (ps := ["_law_script"]) F_law fun _ _ _ _ _ _ us hl => match us, hl with | [_], _ => rfl
  refine ⟨_, fun s v => b s [v] rfl, fun base _ _ hS => ?_⟩
  have G_at_place := ok_at_place (P := P) (w := w) (mg := mg) (base := base) F_at_place hS 
  have c_at_place : Cal P w K mg base _ "at_place" ["part", "place"] _ := ⟨⟨_, _, G_at_place, g_at_place, F_at_place.kp, b_at_place⟩⟩
  have T_parts_of : ∀ n, FnG P w K mg base CX0 (1 + n) (He.fAd K dd_parts_of.at_) q_parts_of ["part"] (spW K false false lay_parts_of (fn_parts_of _ n)) := fun n => by
    induction n with
    | zero => exact fnG_none
    | succ n ih => exact ok_parts_of (P := P) (w := w) (mg := mg) (base := base) (1 + n) (by omega) F_parts_of hS d_STEPS c_at_place ⟨⟨_, _, ih, g_parts_of, F_parts_of.kp, b_parts_of⟩⟩
  have c_parts_of : Cal P w K mg base _ "parts_of" ["part"] _ := ⟨⟨_, _, T_parts_of 20, g_parts_of, F_parts_of.kp, b_parts_of⟩⟩
  have T_leaves_of : ∀ n, FnG P w K mg base CX0 (0 + n) (He.fAd K dd_leaves_of.at_) q_leaves_of ["condition", "place"] (spW K false false lay_leaves_of (fn_leaves_of  n)) := fun n => by
    induction n with
    | zero => exact fnG_none
    | succ n ih => exact ok_leaves_of (P := P) (w := w) (mg := mg) (base := base) (0 + n) (by omega) F_leaves_of hS d_BOTH ⟨⟨_, _, ih, g_leaves_of, F_leaves_of.kp, b_leaves_of⟩⟩
  have c_leaves_of : Cal P w K mg base _ "leaves_of" ["condition", "place"] _ := ⟨⟨_, _, T_leaves_of 20, g_leaves_of, F_leaves_of.kp, b_leaves_of⟩⟩
  have G_part_at := ok_part_at (P := P) (w := w) (mg := mg) (base := base) F_part_at hS c_at_place
  have c_part_at : Cal P w K mg base _ "part_at" ["question", "place"] _ := ⟨⟨_, _, G_part_at, g_part_at, F_part_at.kp, b_part_at⟩⟩
  have k_part_at : CalK P w K mg base _ "part_at" ["question", "place"] ["place", "question"] swapK _ := ⟨⟨_, _, G_part_at, g_part_at, F_part_at.kp, w_part_at⟩⟩
  have G_main_parts := ok_main_parts (P := P) (w := w) (mg := mg) (base := base) F_main_parts hS m_len m_tuple m_range c_leaves_of
  have c_main_parts : Cal P w K mg base _ "main_parts" ["question"] _ := ⟨⟨_, _, G_main_parts, g_main_parts, F_main_parts.kp, b_main_parts⟩⟩
  have k_main_parts : CalK P w K mg base _ "main_parts" ["question"] ["question"] (fun l => l) _ := ⟨⟨_, _, G_main_parts, g_main_parts, F_main_parts.kp, w_main_parts⟩⟩
  have G_named := ok_named (P := P) (w := w) (mg := mg) (base := base) F_named hS m_tuple m_sorted c_parts_of c_part_at
  have c_named : Cal P w K mg base _ "named" ["question", "place"] _ := ⟨⟨_, _, G_named, g_named, F_named.kp, b_named⟩⟩
  have k_named : CalK P w K mg base _ "named" ["question", "place"] ["place", "question"] swapK _ := ⟨⟨_, _, G_named, g_named, F_named.kp, w_named⟩⟩
  have G__law_deck := ok__law_deck (P := P) (w := w) (base := base) F__law_deck hS B
  have c__law_deck : Cal P w K mg base _ "_law_deck" ["_law_script"] _ := ⟨⟨_, _, G__law_deck, g__law_deck, F__law_deck.kp, b__law_deck⟩⟩
  have G__law_draw : FnG P w K mg base CX0 1 _ _ ["_law_deck_here", "_law_many"] (spW K true false lay__law_draw drawF) := (ok__law_draw (P := P) (w := w) (base := base) F__law_draw hS B).weak draw_weak
  have c__law_draw : Cal P w K mg base _ "_law_draw" ["_law_deck_here", "_law_many"] _ := ⟨⟨_, _, G__law_draw, g__law_draw, F__law_draw.kp, b__law_draw⟩⟩
  have G__law_pick := ok__law_pick (P := P) (w := w) (mg := mg) (base := base) F__law_pick hS m_len c__law_draw
  have c__law_pick : Cal P w K mg base _ "_law_pick" ["_law_deck_here", "_law_some"] _ := ⟨⟨_, _, G__law_pick, g__law_pick, F__law_pick.kp, b__law_pick⟩⟩
  have G__law_names := ok__law_names (P := P) (w := w) (mg := mg) (base := base) F__law_names hS m_range c__law_draw
  have c__law_names : Cal P w K mg base _ "_law_names" ["_law_deck_here", "_law_many"] _ := ⟨⟨_, _, G__law_names, g__law_names, F__law_names.kp, b__law_names⟩⟩
  have G__law_schema := ok__law_schema (P := P) (w := w) (mg := mg) (base := base) F__law_schema hS m_tuple m_sorted m_range c__law_draw c__law_pick
  have c__law_schema : Cal P w K mg base _ "_law_schema" ["_law_deck_here", "_law_names_here", "_law_many"] _ := ⟨⟨_, _, G__law_schema, g__law_schema, F__law_schema.kp, b__law_schema⟩⟩
  have G__law_any_value := ok__law_any_value (P := P) (w := w) (mg := mg) (base := base) F__law_any_value hS c__law_pick
  have c__law_any_value : Cal P w K mg base _ "_law_any_value" ["_law_deck_here", "_law_kinds"] _ := ⟨⟨_, _, G__law_any_value, g__law_any_value, F__law_any_value.kp, b__law_any_value⟩⟩
  have G__law_column := ok__law_column (P := P) (w := w) (mg := mg) (base := base) F__law_column hS c__law_pick
  have c__law_column : Cal P w K mg base _ "_law_column" ["_law_deck_here", "_law_world", "_law_refs"] _ := ⟨⟨_, _, G__law_column, g__law_column, F__law_column.kp, b__law_column⟩⟩
  have T__law_some_term : ∀ n, FnG P w K mg base CX0 (3 + n) (He.fAd K dd__law_some_term.at_) q__law_some_term ["_law_deck_here", "_law_world", "_law_refs", "_law_deep"] (spW K true false lay__law_some_term (fn__law_some_term _ _ _ _ n)) := fun n => by
    induction n with
    | zero => exact fnG_none
    | succ n ih => exact ok__law_some_term (P := P) (w := w) (mg := mg) (base := base) (3 + n) (by omega) F__law_some_term hS c__law_draw c__law_column c__law_pick c__law_any_value ⟨⟨_, _, ih, g__law_some_term, F__law_some_term.kp, b__law_some_term⟩⟩
  have c__law_some_term : Cal P w K mg base _ "_law_some_term" ["_law_deck_here", "_law_world", "_law_refs", "_law_deep"] _ := ⟨⟨_, _, T__law_some_term 4, g__law_some_term, F__law_some_term.kp, b__law_some_term⟩⟩
  have G__law_some_leaf := ok__law_some_leaf (P := P) (w := w) (mg := mg) (base := base) F__law_some_leaf hS c__law_pick c__law_some_term
  have c__law_some_leaf : Cal P w K mg base _ "_law_some_leaf" ["_law_deck_here", "_law_world", "_law_refs", "_law_deep"] _ := ⟨⟨_, _, G__law_some_leaf, g__law_some_leaf, F__law_some_leaf.kp, b__law_some_leaf⟩⟩
  have G__law_inner := ok__law_inner (P := P) (w := w) (mg := mg) (base := base) F__law_inner hS m_tuple c__law_some_leaf c__law_pick c__law_draw
  have c__law_inner : Cal P w K mg base _ "_law_inner" ["_law_deck_here", "_law_world", "_law_refs", "_law_aliases"] _ := ⟨⟨_, _, G__law_inner, g__law_inner, F__law_inner.kp, b__law_inner⟩⟩
  have T__law_condition : ∀ n, FnG P w K mg base CX0 (10 + n) (He.fAd K dd__law_condition.at_) q__law_condition ["_law_deck_here", "_law_world", "_law_refs", "_law_aliases", "_law_deep"] (spW K true true lay__law_condition (fn__law_condition _ _ _ _ _ n)) := fun n => by
    induction n with
    | zero => exact fnG_none
    | succ n ih => exact ok__law_condition (P := P) (w := w) (mg := mg) (base := base) (10 + n) (by omega) F__law_condition hS m_len c__law_draw c__law_some_leaf c__law_inner c__law_pick c__law_column ⟨⟨_, _, ih, g__law_condition, F__law_condition.kp, b__law_condition⟩⟩
  have c__law_condition : Cal P w K mg base _ "_law_condition" ["_law_deck_here", "_law_world", "_law_refs", "_law_aliases", "_law_deep"] _ := ⟨⟨_, _, T__law_condition 3, g__law_condition, F__law_condition.kp, b__law_condition⟩⟩
  have G__law_drawn := ok__law_drawn (P := P) (w := w) (mg := mg) (base := base) F__law_drawn hS m_tuple m_list m_range c__law_condition c__law_pick c__law_draw c__law_some_term c__law_column
  have c__law_drawn : Cal P w K mg base _ "_law_drawn" ["_law_deck_here", "_law_world", "_law_names_here", "_law_most"] _ := ⟨⟨_, _, G__law_drawn, g__law_drawn, F__law_drawn.kp, b__law_drawn⟩⟩
  have G__law_below := ok__law_below (P := P) (w := w) (mg := mg) (base := base) F__law_below hS 
  have c__law_below : Cal P w K mg base _ "_law_below" ["_law_part"] _ := ⟨⟨_, _, G__law_below, g__law_below, F__law_below.kp, b__law_below⟩⟩
  have T__law_all : ∀ n, FnG P w K mg base CX0 (1 + n) (He.fAd K dd__law_all.at_) q__law_all ["_law_part", "_law_lead"] (spW K false false lay__law_all (fn__law_all _ n)) := fun n => by
    induction n with
    | zero => exact fnG_none
    | succ n ih => exact ok__law_all (P := P) (w := w) (mg := mg) (base := base) (1 + n) (by omega) F__law_all hS c__law_below ⟨⟨_, _, ih, g__law_all, F__law_all.kp, b__law_all⟩⟩
  have c__law_all : Cal P w K mg base _ "_law_all" ["_law_part", "_law_lead"] _ := ⟨⟨_, _, T__law_all 20, g__law_all, F__law_all.kp, b__law_all⟩⟩
  have G__law_every := ok__law_every (P := P) (w := w) (mg := mg) (base := base) F__law_every hS m_enumerate c__law_all
  have c__law_every : Cal P w K mg base _ "_law_every" ["_law_asked"] _ := ⟨⟨_, _, G__law_every, g__law_every, F__law_every.kp, b__law_every⟩⟩
  have T__law_leaves : ∀ n, FnG P w K mg base CX0 (0 + n) (He.fAd K dd__law_leaves.at_) q__law_leaves ["_law_condition_here", "_law_lead"] (spW K false false lay__law_leaves (fn__law_leaves  n)) := fun n => by
    induction n with
    | zero => exact fnG_none
    | succ n ih => exact ok__law_leaves (P := P) (w := w) (mg := mg) (base := base) (0 + n) (by omega) F__law_leaves hS  ⟨⟨_, _, ih, g__law_leaves, F__law_leaves.kp, b__law_leaves⟩⟩
  have c__law_leaves : Cal P w K mg base _ "_law_leaves" ["_law_condition_here", "_law_lead"] _ := ⟨⟨_, _, T__law_leaves 20, g__law_leaves, F__law_leaves.kp, b__law_leaves⟩⟩
  have G__law_widened := ok__law_widened (P := P) (w := w) (mg := mg) (base := base) F__law_widened hS c__law_pick c__law_some_leaf c__law_column c__law_some_term
  have c__law_widened : Cal P w K mg base _ "_law_widened" ["_law_deck_here", "_law_world", "_law_asked", "_law_aliases"] _ := ⟨⟨_, _, G__law_widened, g__law_widened, F__law_widened.kp, b__law_widened⟩⟩
  have G__law_right := ok__law_right (P := P) (w := w) (mg := mg) (base := base) F__law_right hS m_len m_tuple m_sorted m_repr m_range m_enumerate c__law_every c__law_leaves c_part_at c_main_parts c_named k_part_at k_main_parts k_named
  have c__law_right : Cal P w K mg base _ "_law_right" ["_law_asked"] _ := ⟨⟨_, _, G__law_right, g__law_right, F__law_right.kp, b__law_right⟩⟩
  exact ok_law F_law hS m_repr m_range c__law_deck c__law_names c__law_schema c__law_drawn c__law_draw c__law_widened c__law_right (by
    have pk := pick_sp draw_sp
    have nm := names_sp draw_sp
    have col := col_sp pk
    have val := val_sp pk
    have trm := term_sp draw_sp col val pk 4
    have lf1 := leaf_sp pk (by decide) (trm 1 (by decide))
    have lf2 := leaf_sp pk (by decide) (trm 2 (by decide))
    have inn := inner_sp draw_sp pk lf1
    have cnd := cond_sp draw_sp lf1 inn pk col 2
    have drn := drawn_sp draw_sp cnd pk (trm 1 (by decide)) col
    have wid := wid_sp pk lf2 col (trm 3 (by decide))
    have ev := ev_sp (all_sp bel_sp 19)
    have rig := rig_sp ev (ql_sp 19) (part_sp at_sp) (main_sp (pl_sp 19)) (nam_sp (part_sp at_sp) (par_sp at_sp 19))
    exact good nm (schema_sp draw_sp pk) drn draw_sp wid rig)
end K21
open PySem PySem.W PySem.Calls PyProof.Rows
theorem PySem.Challenge.cw_failsalike_k21_places_and_main_parts_holds : PySem.Challenge.rw_failsalike_k21_places_and_main_parts.Holds := by
  w_on; o_law
  refine HandSHeadRun.head_any (r := OpenLaw.row PySem.Challenge.rw_failsalike_k21_places_and_main_parts) (q := view (OpenLaw.row PySem.Challenge.rw_failsalike_k21_places_and_main_parts).prog [29]) (H := K21.hk) (ob := K21.ob) (M := 6000) (loose := K21.loose) (d := HandSHeadRun.topDef (OpenLaw.row PySem.Challenge.rw_failsalike_k21_places_and_main_parts).prog 29) (kwd := []) K21.ob_eq
    (by kernel_rfl) (fun s => by kernel_rfl) K21.run (by kernel_rfl) (by kernel_rfl) (by kernel_rfl) (by rfl) (by first | assumption | decide +kernel) (by decide +kernel) ⟨rfl, rfl, rfl, rfl, rfl, by decide +kernel⟩ ?hw ?hc
  case hw => w_witness2
  case hc =>
    refine FA.walkE (l := PySem.Challenge.rw_failsalike_k21_places_and_main_parts) (n := 63) (k := 26) (x := "_law_script") (CX := L2.CX0) rfl (by decide) (by kernel_rfl) ⟨rfl, by decide, by decide⟩ ?F (fun _ _ _ _ z => z)
    intro w mg fa h Y G hmg0
    obtain ⟨⟨K, KX, c, kb⟩, hsys⟩ := Y
    have hmg : mg ("law" : PySem.Str) = some (.ref fa) := by
      have e : (HandSHeadRun.topDef (OpenLaw.row PySem.Challenge.rw_failsalike_k21_places_and_main_parts).prog 29).name = ("law" : PySem.Str) := by kernel_rfl
      rw [← e]
      exact hmg0
    obtain ⟨fd, hb, hF⟩ := K21.facts (P := (PySem.Challenge.rw_failsalike_k21_places_and_main_parts).prog) (w := w) KX G hmg c kb
    exact ⟨K, fd, K21.spLaw K, KX, hsys, hb, fun H a ns hl _ hS => ⟨a, ns, rfl, hS, hl, fun _ => rfl⟩, hF⟩
end
