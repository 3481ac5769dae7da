import PyProof.Rows.All
import Wide.All
import OpenK.AllK
import Wide.FinOn
import HandS.Base
import HandS.Call
import HandS.List
import HandS.Dict
import HandS.Ends
import HandS.Words
import PyProof.ReprRoads
import HandS.Defaults
import HandS.Comp
import HandS.Head0
import HandS.Head1
import HandS.Head2
import HandS.HeadEnd
import HandS.HeadHook1
import HandS.HeadHook2
import HandS.IsInst
import HandS.Text
import HandS.Conv
import HandS.Iter
import HandS.Walk
import HandS.Wide
import HandS.Style
import PyProof.StrBlock2
import KE.LtData
import HandS.ExcIs
import HandS.SortKw
import HandS.Star
import HandS.FStr
import HandS.Replace
import HandS.Codes
import HandS.TryOnly
import PySem.Challenge.RW_failsalike_k11_facts_added_and_asked
set_option Elab.async false
set_option linter.all false
set_option maxRecDepth 100000
set_option maxHeartbeats 0
/-! G1 -/
section
namespace FA
open PySem PySem.Spec PyProof.Rows L2

/-! data that stand in the abstract heap -/
def keyD : Key → PyData
  | .inl i => .int i
  | .inr z => .str z
mutual
def Dat (H : Hp) : PyData → V → Prop
  | .none, v => v = .non
  | .bool b, v => v = .bl b
  | .int i, v => v = .int i
  | .str x, v => v = .str x
  | .list ds, v => ∃ a xs, v = .ref a ∧ H a = some (.lst xs) ∧ DatAll H ds xs
  | .tuple ds, v => ∃ a xs, v = .ref a ∧ H a = some (.tup xs) ∧ DatAll H ds xs
  | .dict kvs, v => ∃ a es, v = .ref a ∧ H a = some (.dK es) ∧ DatKv H kvs es
def DatAll (H : Hp) : List PyData → List V → Prop
  | [], xs => xs = []
  | d :: ds, xs => ∃ y ys, xs = y :: ys ∧ Dat H d y ∧ DatAll H ds ys
def DatKv (H : Hp) : List (PyData × PyData) → List (Key × V) → Prop
  | [], xs => xs = []
  | (k, d) :: ds, xs => ∃ c y ys, xs = (c, y) :: ys ∧ k = keyD c ∧ Dat H d y ∧ DatKv H ds ys
end

section
variable {P : Program} {w : World} {H : Hp} {h : Heap}
theorem reads_key {c : Key} {u : Value} (q : keyIs c u = true) : Reads h u (keyD c) [] := by
  rcases keyIs_shape q with ⟨i, t, rfl, rfl⟩ | ⟨z, t, rfl, rfl⟩
  · exact .int i t
  · exact .str z t
mutual
theorem reads_of (ok : HOk P w H h) : ∀ (d : PyData) (v : V) (u : Value), Dat H d v → RelV v u → ∃ as, Reads h u d as ∧ ∀ b ∈ as, H b ≠ none
  | .none, v, u, e, r => by
    simp only [Dat] at e; subst e
    obtain rfl : u = .none := r
    exact ⟨[], .none, by simp⟩
  | .bool b, v, u, e, r => by
    simp only [Dat] at e; subst e
    obtain rfl : u = .bool b := r
    exact ⟨[], .bool b, by simp⟩
  | .int i, v, u, e, r => by
    simp only [Dat] at e; subst e
    obtain ⟨t, rfl⟩ : ∃ t, u = .int i t := r
    exact ⟨[], .int i t, by simp⟩
  | .str x, v, u, e, r => by
    simp only [Dat] at e; subst e
    obtain ⟨t, rfl⟩ : ∃ t, u = .str x t := r
    exact ⟨[], .str x t, by simp⟩
  | .list ds, v, u, e, r => by
    simp only [Dat] at e
    obtain ⟨a, xs, rfl, ha, hd⟩ := e
    obtain rfl : u = .ref a := r
    obtain ⟨_, its, n, rv, g⟩ := ok a _ ha
    obtain ⟨as, h1, h2⟩ := readsAll_of ok ds xs its hd rv
    refine ⟨a :: as, .list g rfl rfl (by simpa using h1), fun b hb => ?_⟩
    rcases List.mem_cons.mp hb with rfl | hb
    · rw [ha]; simp
    · exact h2 b hb
  | .tuple ds, v, u, e, r => by
    simp only [Dat] at e
    obtain ⟨a, xs, rfl, ha, hd⟩ := e
    obtain rfl : u = .ref a := r
    obtain ⟨_, its, rv, o, g, hc, n, hn⟩ := ok a _ ha
    obtain ⟨as, h1, h2⟩ := readsAll_of ok ds xs its hd rv
    exact ⟨as, .tuple g hc hn (by simpa using h1), h2⟩
  | .dict kvs, v, u, e, r => by
    simp only [Dat] at e
    obtain ⟨a, es, rfl, ha, hd⟩ := e
    obtain rfl : u = .ref a := r
    obtain ⟨_, _, vs, rel, o, ents, ep, g, hx, hdat, _, prs, _⟩ := ok a _ ha
    obtain ⟨as, bs, h1, h2, h3, h4⟩ := readsKv_of ok kvs es vs ents.toList hd rel prs
    refine ⟨a :: as ++ bs, .dict g (by first | exact hx.1 | exact hx.cls) hdat h1 h2, fun b hb => ?_⟩
    rcases List.mem_append.mp hb with hb | hb
    · rcases List.mem_cons.mp hb with rfl | hb
      · rw [ha]; simp
      · exact h3 b hb
    · exact h4 b hb
theorem readsAll_of (ok : HOk P w H h) : ∀ (ds : List PyData) (xs : List V) (us : List Value), DatAll H ds xs → Vals xs us → ∃ as, ReadsAll h us ds as ∧ ∀ b ∈ as, H b ≠ none
  | [], xs, us, e, r => by
    simp only [DatAll] at e; subst e
    cases r
    exact ⟨[], .nil, by simp⟩
  | d :: ds, xs, us, e, r => by
    simp only [DatAll] at e
    obtain ⟨y, ys, rfl, hy, hys⟩ := e
    cases r with
    | cons r1 r2 =>
      obtain ⟨as, h1, h2⟩ := reads_of ok d y _ hy r1
      obtain ⟨bs, h3, h4⟩ := readsAll_of ok ds ys _ hys r2
      exact ⟨as ++ bs, .cons h1 h3, fun b hb => (List.mem_append.mp hb).elim (h2 b) (h4 b)⟩
theorem readsKv_of (ok : HOk P w H h) : ∀ (kvs : List (PyData × PyData)) (es : List (Key × V)) (vs : List (Key × Value)) (ents : List DictEntry), DatKv H kvs es → KV es vs → PySem.Pairs (mixKind P w) ents vs →
    ∃ as bs, ReadsAll h (ents.map (·.key)) (kvs.map (·.1)) as ∧ ReadsAll h (ents.map (·.val)) (kvs.map (·.2)) bs ∧ (∀ b ∈ as, H b ≠ none) ∧ ∀ b ∈ bs, H b ≠ none
  | [], es, vs, ents, e, r, p => by
    simp only [DatKv] at e; subst e
    cases r
    cases p
    exact ⟨[], [], .nil, .nil, by simp, by simp⟩
  | (k, d) :: ds, es, vs, ents, e, r, p => by
    simp only [DatKv] at e
    obtain ⟨c, y, ys, rfl, rfl, hy, hys⟩ := e
    cases r with
    | cons r1 r2 =>
      cases p with
      | cons p1 p2 p3 =>
        obtain ⟨e1, e2⟩ := r1
        dsimp only at e1 e2
        obtain ⟨as, h1, h2⟩ := reads_of ok d y _ hy e2
        obtain ⟨cs, bs, h3, h4, h5, h6⟩ := readsKv_of ok ds ys _ _ hys r2 p3
        refine ⟨[] ++ cs, as ++ bs, .cons ?_ h3, .cons ?_ h4, by simpa using h5, fun b hb => (List.mem_append.mp hb).elim (h2 b) (h6 b)⟩
        · show Reads h _ (keyD c) []
          rw [e1]
          exact reads_key p1
        · rw [← p2] at h1
          exact h1
end
end

section
variable {X : Cx}
/-- what repr asks of the program's text: the table of modules is no object of the law's own -/
def NoSys (X : Cx) : Prop := ∃ o, X.base.get? sysModules = some o
theorem repr_any {prog : Program} {w : World} {A : Around} {E : Value → Shared → Prop} {s : Shared} {Q : Value → Shared → Prop} {u : Value} {d : PyData} {as : List Addr}
    (r : Reads s.heap u d as) (hs : d.showable = true) (hsm : d.hasDict = true → sysModules ∉ as) (hg : A.guards = some []) (hu : A.units + (d.depth + 1) < cLine)
    (hQ : ∀ h' t tk, (∀ b o, s.heap.get? b = some o → h'.get? b = some o) → Q (.str d.shown t) { s with heap := h', toks := tk })
    (hsz : d.shown.length ≤ sizeLine) : wpAny (model prog w) A (call (.builtin "repr") [u]) Q E s := by
  cases u with
  | ref a => exact repr_of_reads' r hs hsm hg hu (fun _ _ e => e) hQ hsz
  | none => cases r; exact PySem.P.repr_of_none (hQ s.heap _ _ fun _ _ e => e)
  | bool b => cases r; exact PySem.P.repr_of_bool (by
      have z := hQ s.heap s.toks (s.toks + 1) fun _ _ e => e
      cases b <;> exact z)
  | int i t => cases r; exact PySem.P.repr_of_int (by simpa [PyData.showable] using hs) (hQ s.heap _ _ fun _ _ e => e)
  | str x t => cases r; exact PySem.P.repr_of_str (hQ s.heap _ _ fun _ _ e => e) hsz
  | _ => cases r
def rRepr : List V → Hp → VK → Prop := fun xs H Q => ∃ v d, xs = [v] ∧ Dat H d v ∧ d.showable = true ∧ d.depth ≤ 60 ∧ d.shown.length ≤ sizeLine ∧ Q (.str d.shown) H
theorem call_reprA {k : Nat} (hg : X.A.guards = some []) (hr : Room k X.A) (hS : NoSys X) : CallR X (.builtin "repr") rRepr := by
  intro pins s σ H xs us Q I r h
  obtain ⟨v, d, rfl, hd, hs, hdp, hz, q⟩ := h
  obtain ⟨u, rfl, ru⟩ := vals1 r
  obtain ⟨as, hR, hT⟩ := reads_of I.hok d _ _ hd ru
  have hsm : d.hasDict = true → sysModules ∉ as := fun _ hm => by
    obtain ⟨o, ho⟩ := hS
    exact hT _ hm (I.bs _ _ ho).2
  have hu := hr.units
  exact repr_any hR hs hsm hg (by omega) (fun h' t tk hk => ⟨.str _, H, I.kept hk, ⟨t, rfl⟩, q⟩) hz
end
end FA
end

/-! G2 -/
section
namespace FA
open PySem PySem.Spec PyProof.Rows L2

/-- a def's promise where no repr is under way around it -/
structure FnG (P : Program) (w : World) (K : PySem.W.Frag) (mg : Str → Option Value)
    (base : Heap) (CX : CXT) (k : Nat) (f : Addr) (fd : FuncData) (ps : List Str) (sp : Sp) : Prop where
  size : ∀ vs H Q E, sp vs H Q E → vs.length = ps.length
  go : ∀ (A : Around) (outer : List Env) (s : Shared) (H : Hp) (args : Args) (us : List Value) (vs : List V)
    (Q : VK) (E : XK), Room k A → A.guards = some [] → Env0 P w K mg base A outer s H →
    BindsTo s fd args (ps.zip us) → Vals vs us → sp vs H Q E →
    codeAny (model P w) A (.call (.ref f) args) (CR CX outer P w H s Q E) s
section
variable {P : Program} {w : World} {K : PySem.W.Frag} {mg : Str → Option Value} {base : Heap} {CX : CXT}
  {f : Addr} {fd : FuncData} {ps : List Str} {sp sp' : Sp}
theorem FnG.more {j k : Nat} (F : FnG P w K mg base CX j f fd ps sp) (h : j ≤ k) : FnG P w K mg base CX k f fd ps sp where
  size := F.size
  go := fun A outer s H args us vs Q E hr hg e b v z => F.go A outer s H args us vs Q E (hr.mono h) hg e b v z
theorem FnG.weak {k : Nat} (F : FnG P w K mg base CX k f fd ps sp) (h : ∀ vs H Q E, sp' vs H Q E → sp vs H Q E) :
    FnG P w K mg base CX k f fd ps sp' where
  size := fun vs H Q E z => F.size vs H Q E (h _ _ _ _ z)
  go := fun A outer s H args us vs Q E hr hg e b v z => F.go A outer s H args us vs Q E hr hg e b v (h _ _ _ _ z)
theorem FnG.of {k : Nat} (F : FnOk P w K mg base CX k f fd ps sp) : FnG P w K mg base CX k f fd ps sp where
  size := F.len
  go := fun A outer s H args us vs Q E hr _ e b v z => F.run A outer s H args us vs Q E hr e b v z

/-- a def by its body -/
theorem fnG_of {k : Nat} {name qual : Str} {params : Arguments} {body : List Stmt} {scope : Scope}
    {dV kV doc pm cdv ct oc : Value} {an od : Option Addr} {osl : Array (Option Value)} {N : List Str}
    (lk : K.lookup f = some ⟨oc, od, .func (PySem.W.fnOf name qual params body scope dV kV doc pm an cdv ct), osl⟩)
    (hcd : PySem.W.codeIn K cdv qual = true) (S : FnScope N ps scope)
    (size : ∀ vs H Q E, sp vs H Q E → vs.length = ps.length)
    (hb : ∀ (A : Around) (outer : List Env) (s : Shared) (H : Hp) (vs : List V) (Q : VK) (E : XK),
      Room k (A.deeper (envOfC qual scope s.heap.objs.size f cdv)) → A.guards = some [] → sp vs H Q E →
      ∃ t, PSs (cxOf CX P w K mg base N qual scope f cdv A outer s H E) body t ∧
        t { nx := fun _ H' => Q .non H', rt := Q } (start N vs) H) :
    FnG P w K mg base CX (k + 1) f (PySem.W.fnOf name qual params body scope dV kV doc pm an cdv ct) ps sp where
  size := size
  go := by
    intro A outer s H args us vs Q E hr hg e0 bnd rv hsp
    have len := size _ _ _ _ hsp
    have kin : K.In s.heap := e0.mod.kin.keeps (fun b o z => (e0.bs b o z).1)
    have nolim : s.heap.NoLimit := e0.mod.nolimit.keeps (fun b o z => (e0.bs b o z).1)
    have names : ∀ y ∈ ps.zip us, scope.names.lookup y.1 = some .local ∨
        (scope.names.lookup y.1 = some .cell ∧
          ((cellsFrom (s.heap.objs.size + 1) scope.names []).lookup y.1).isSome = true) := by
      rintro ⟨n, v⟩ hy
      have hn := (List.of_mem_zip hy).1
      rcases S.par n hn with z | z
      · exact Or.inl z
      · exact Or.inr ⟨z, PySem.W.cellsFrom_some _ _ _ (Or.inl z)⟩
    apply codeAny_call_function hr.depth (kin _ _ lk) rfl S.co S.gen rfl (PySem.W.codeRec_of kin hcd) (bnd _ _ _ _ ?_)
    apply wpAny_newFunctionEnv_cells S.kind names
    intro env he s1 x
    subst he
    refine ⟨nolim.keeps x.toInCall.keep, codeAny_func ?_⟩
    obtain ⟨t, ht, hq⟩ := hb A outer s H vs Q E (hr.deeper _) hg hsp
    have I := inv_start (CX := CX) (P := P) (w := w) (K := K) (mg := mg) (base := base) (E := E) (cd := cdv) S hr.hd e0 len rv x
    refine wpAny_mono (ht.run [] s1 (start N vs) H _ I hq) ?_ (fun e s' z => z)
    intro fl s' hs
    cases fl with
    | brk =>
      obtain ⟨_, _, _, z⟩ := hs
      exact z.elim
    | cont =>
      obtain ⟨_, _, _, z⟩ := hs
      exact z.elim
    | ret u =>
      obtain ⟨v, σ', H', J, r1, z⟩ := hs
      exact ⟨v, H', J.os, J.bare, J.base, J.hok, r1, z⟩
    | next =>
      obtain ⟨σ', H', J, z⟩ := hs
      exact ⟨V.non, H', J.os, J.bare, J.base, J.hok, (rfl : Value.none = Value.none), z⟩
/-- .. that lets no exception out -/
theorem okG {x qual : Str} {st : Stmt} {N : List Str} {k : Nat} (F : Fun K x qual st f fd) (S : FnScope N ps (defScope st))
    (size : ∀ vs H Q E, sp vs H Q E → vs.length = ps.length)
    (hb : ∀ (cdv : Value) (A : Around) (outer : List Env) (s : Shared) (H : Hp) (vs : List V) (Q : VK) (E : XK),
      Room k (A.deeper (envOfC qual (defScope st) s.heap.objs.size f cdv)) → A.guards = some [] → sp vs H Q E →
      ∃ t, PSs (cxOf CX0 P w K mg base N qual (defScope st) f cdv A outer s H E).nox (defBody st) t ∧
        t { nx := fun _ H' => Q .non H', rt := Q } (start N vs) H) : FnG P w K mg base CX0 (k + 1) f fd ps sp := by
  obtain ⟨oc, od, kV, doc, pm, an, cdv, ct, osl, rfl, lk, hcd⟩ := F.ex
  refine fnG_of lk hcd S size ?_
  intro A outer s H vs Q E hr hg hsp
  obtain ⟨t, h, q⟩ := hb cdv A outer s H vs Q E hr hg hsp
  exact ⟨t, h.nox, q⟩
end

section
variable {X : Cx} {CX : CXT} {k : Nat} {f : Addr} {fd : FuncData} {ps : List Str} {sp : Sp} {dvs : List V} {ds : List Value}
  {E : XK} {x : Str} {p pos : Pos} {e : Expr} {es : List Expr} {t : TA}
/-- what a call hands back -/
theorem endG {pins : List (Addr × Obj)} {σ : L2.St} {H : Hp} {s : Shared} {Q : VK} {args : Args}
    (hx : Passes CX X E) (I : Inv X pins σ H s) (h : codeAny (model X.prog X.w) X.A (.call (.ref f) args) (CR CX X.stack X.prog X.w H s Q E) s) :
    codeAny (model X.prog X.w) X.A (.call (.ref f) args) (fun r s' => match r with
      | .ok (.ret u) => EP X pins σ Q u s'
      | .ok _ => False
      | .error e => X.xe e s') s := by
  refine codeAny_mono h ?_
  intro r s' hq
  cases r with
  | error e => exact hx pins σ H s e s' I hq
  | ok fl =>
    cases fl with
    | ret u => exact I.after hq
    | brk => exact hq.elim
    | cont => exact hq.elim
    | next => exact hq.elim
theorem runG {pins : List (Addr × Obj)} {σ : L2.St} {H : Hp} {s : Shared} {Q : VK} {us : List Value} {vs : List V}
    (F : FnG X.prog X.w X.K X.mg X.base CX k f fd ps sp) (hg : X.A.guards = some []) (hr : Room k X.A) (hb : Binds X.K fd ps ds)
    (hd : Vals dvs ds) (hx : Passes CX X E) (I : Inv X pins σ H s) (r : Vals vs us) (h : sp (vs ++ dvs) H Q E) :
    wpAny (model X.prog X.w) X.A (call (.ref f) us) (EP X pins σ Q) X.xe s := by
  have r2 := r.append hd
  have hl : (us ++ ds).length = ps.length := r2.length.symm.trans (F.size _ _ _ _ h)
  have z := F.go X.A X.stack s H ⟨us, []⟩ (us ++ ds) (vs ++ dvs) Q E hr hg I.env0 (hb s us I.kIn hl) r2 h
  refine wpAny_call (codeAny_mono (endG (pins := pins) (σ := σ) hx I z) ?_)
  intro r s' hq
  cases r with
  | error e => exact hq
  | ok fl =>
    cases fl with
    | ret u => exact hq
    | brk => exact hq.elim
    | cont => exact hq.elim
    | next => exact hq.elim
theorem callG (F : FnG X.prog X.w X.K X.mg X.base CX k f fd ps sp) (hgd : X.A.guards = some []) (hr : Room k X.A)
    (hm : X.mg x = some (.ref f)) (hk : PySem.W.keepIn X.K (.ref f) = true) (hb : Binds X.K fd ps ds) (hd : Vals dvs ds)
    (hx : Passes CX X E) (ha : PA X (e :: es) t) (hg : Gl X x := by rfl) (hdb : (x == ("__debug__" : Str)) = false := by decide)
    (he : starEach (e :: es) X.env = (false, eval e X.env) :: starEach es X.env := by rfl)
    (hpl : (backTo pos (starEach es X.env)).any (·.1) = false := by rfl) :
    PE X (.Call (.Name x p) (e :: es) [] pos) (tCall sp dvs E t) := by
  constructor
  intro pins s σ H Q I h
  apply wpAny_Call_Name_kw (ld_glob I hg hm ?_ hdb)
  have z := ha.run pos pins s σ H _ I h
  refine PySem.W.callWith_K (h₀ := X.base) I.ok.mod.kin hk (thn z ?_) he hpl
  rintro us s1 ⟨vs, H1, I1, r, q⟩
  exact ⟨I1.kIn, runG F hgd hr hb hd hx I1 r q⟩
theorem callG0 (F : FnG X.prog X.w X.K X.mg X.base CX k f fd ps sp) (hgd : X.A.guards = some []) (hr : Room k X.A)
    (hm : X.mg x = some (.ref f)) (hk : PySem.W.keepIn X.K (.ref f) = true) (hb : Binds X.K fd ps ds) (hd : Vals dvs ds)
    (hx : Passes CX X E) (hg : Gl X x := by rfl) (hdb : (x == ("__debug__" : Str)) = false := by decide) :
    PE X (.Call (.Name x p) [] [] pos) (tCall sp dvs E tNil) := by
  constructor
  intro pins s σ H Q I h
  apply wpAny_Call_Name_kw (ld_glob I hg hm ?_ hdb)
  exact PySem.W.callWith_K0 I.kIn hk (runG (us := []) F hgd hr hb hd hx I .nil h)

/-- f(k = v, ..): keywords alone; g puts their values in the parameters' order -/
structure KwTo (K : PySem.W.Frag) (fd : FuncData) (ps ks : List Str) (g : ∀ {α : Type}, List α → List α) : Prop where
  to : ∀ (s : Shared) (ws : List Value), K.In s.heap → ws.length = ks.length → BindsTo s fd ⟨[], ks.zip ws⟩ (ps.zip (g ws))
  rel : ∀ {zs : List V} {ws : List Value}, Vals zs ws → Vals (g zs) (g ws)
def tKw (n : Nat) (sp : Sp) (g : List V → List V) (E : XK) (tk : TA) : TE := fun σ H Q => tk σ H fun zs H1 => zs.length = n ∧ sp (g zs) H1 Q E
variable {ks : List Str} {kws : List Keyword} {tk : TA} {g : ∀ {α : Type}, List α → List α}
theorem callKw (F : FnG X.prog X.w X.K X.mg X.base CX k f fd ps sp) (hgd : X.A.guards = some []) (hr : Room k X.A)
    (hm : X.mg x = some (.ref f)) (hk : PySem.W.keepIn X.K (.ref f) = true) (hb : KwTo X.K fd ps ks g)
    (hx : Passes CX X E) (hkw : PK X kws tk) (hg : Gl X x := by rfl)
    (hall : (backToKw pos (keywordEach kws X.env)).all (·.1.isSome) = true := by rfl)
    (hks : (backToKw pos (keywordEach kws X.env)).filterMap (·.1) = ks := by rfl) (hdb : (x == ("__debug__" : Str)) = false := by decide)
    (hpl : ((backTo pos (starEach [] X.env)).any (·.1) || (backToKw pos (keywordEach kws X.env)).any (·.1.isNone)) = false := by rfl) :
    PE X (.Call (.Name x p) [] kws pos) (tKw ks.length sp g E tk) := by
  constructor
  intro pins s σ H Q I h
  apply wpAny_Call_Name_kw (ld_glob I hg hm ?_ hdb)
  refine PySem.W.callWith_KW0 (h₀ := X.base) I.ok.mod.kin hk hall ?_ hpl
  refine thn (hkw.run pos pins s σ H _ I h) ?_
  rintro ws s2 ⟨zs, H2, I2, rz, l2, q2⟩
  refine ⟨I2.kIn, ?_⟩
  rw [hks]
  have z := F.go X.A X.stack s2 H2 ⟨[], ks.zip ws⟩ (g ws) (g zs) _ E hr hgd I2.env0 (hb.to s2 ws I2.kIn (rz.length.symm.trans l2)) (hb.rel rz) q2
  refine wpAny_call (codeAny_mono (endG (pins := pins) (σ := σ) hx I2 z) ?_)
  intro r s' hq
  cases r with
  | error e => exact hq
  | ok fl =>
    cases fl with
    | ret u => exact hq
    | brk => exact hq.elim
    | cont => exact hq.elim
    | next => exact hq.elim
end
end FA
end

/-! G3 -/
section
namespace FA
open PySem PySem.Spec PyProof.Rows L2

/-- the one tracked thing at a law's entry: the script, as it is -/
def entry (a : Addr) (o : Obj) (xs : List V) : Hp := fun b => if b = a then some (.frz o (.lst xs)) else none
theorem entry_at {a : Addr} {o : Obj} {xs : List V} : entry a o xs a = some (.frz o (.lst xs)) := if_pos rfl
theorem entry_ne {a b : Addr} {o : Obj} {xs : List V} (h : b ≠ a) : entry a o xs b = none := if_neg h
def Lone (H : Hp) : Prop := (∀ b, H b = none) ∨ ∃ a o xs, H = entry a o xs

theorem endLaw {P : Program} {w : World} {K : PySem.W.Frag} {mg mb : Str → Option Value} {CX : CXT} {k : Nat} {fa a : Addr}
    {fd : FuncData} {x : Str} {sp : Sp} {s₁ : Shared} {H : Hp} {ns : List Int} {so : Obj}
    (kin : K.In s₁.heap) (n1 : s₁.heap.Ns mainGlobals mg) (n2 : s₁.heap.Ns builtinsNs mb)
    (bt : ∀ z : Str, z ≠ "__name__" → mb z = bootBuiltins z) (lim : s₁.heap.NoLimit) (gens : s₁.gens = #[])
    (hr : Room k callerA) (hso : ∃ vs : List Value, so = { cls := .type "list", data := .seq vs.toArray }) (obj : s₁.heap.get? a = some so)
    (hH : (∀ b, H b = none) ∨ (K.lookup a = none ∧ H = entry a so (ns.map V.int))) (hok : HOk P w H s₁.heap)
    (F : ∀ base : Heap, K.In base → base.Ns mainGlobals mg → (∀ b o, s₁.heap.get? b = some o → b ≠ a ∨ K.lookup a ≠ none → base.get? b = some o) →
      FnG P w K mg base CX k fa fd [x] sp)
    (bnd : ∀ (s : Shared) (u : Value), BindsTo s fd ⟨[u], []⟩ [(x, u)])
    (hsp : sp [.ref a] H (fun v _ => v = .bl true) fun _ _ _ => False)
    (noE : ∀ e s', CX [] H s₁ (fun _ _ _ => False) e s' → False) :
    codeAny (model P w) callerA (.call (.ref fa) ⟨[.ref a], []⟩)
      (fun r s' => r = .ok (.ret (.bool true)) ∧ OldK s₁.heap s'.heap ∧ s'.os = s₁.os ∧ AllBare s'.gens) s₁ := by
  obtain ⟨vs, rfl⟩ := hso
  have only : ∀ b, H b ≠ none → b = a ∧ K.lookup a = none := by
    intro b hb
    rcases hH with z | ⟨z, rfl⟩
    · exact absurd (z b) hb
    · refine ⟨?_, z⟩
      by_cases c : b = a
      · exact c
      · exact absurd (entry_ne c) hb
  have free : ∀ b, b ≠ a ∨ K.lookup a ≠ none → H b = none := by
    intro b hb
    cases q : H b with
    | none => rfl
    | some u =>
      obtain ⟨z1, z2⟩ := only b (by rw [q]; simp)
      rcases hb with hb | hb
      · exact absurd z1 hb
      · exact absurd z2 hb
  have keep : ∀ b o, s₁.heap.get? b = some o → b ≠ a ∨ K.lookup a ≠ none → (hidT s₁.heap H).get? b = some o :=
    fun b o e c => hidT_get e (free b c)
  have dictNe : ∀ b o es ep, s₁.heap.get? b = some o → o.data = Data.dict es ep → b ≠ a := by
    rintro b o es ep e d rfl
    rw [obj] at e
    cases e
    have d' : Data.seq vs.toArray _ = Data.dict es ep := d
    cases d'
  have nsB : ∀ {b : Addr} {m : Str → Option Value}, s₁.heap.Ns b m → (hidT s₁.heap H).Ns b m := by
    rintro b m ⟨o, es, ep, e, d, r⟩
    exact ⟨o, es, ep, keep b o e (Or.inl (dictNe b o es ep e d)), d, r⟩
  have kinB : K.In (hidT s₁.heap H) := by
    intro b o e
    refine keep b o (kin b o e) ?_
    by_cases c : b = a
    · right
      rw [← c, e]
      simp
    · exact Or.inl c
  obtain ⟨mc, l1, l2⟩ := lim
  have md : Mod K mg (hidT s₁.heap H) := ⟨kinB, nsB n1, ⟨mb, nsB n2, bt⟩, ⟨mc, nsB l1, l2⟩⟩
  have e0 : Env0 P w K mg (hidT s₁.heap H) callerA [] s₁ H :=
    { frames := rfl, mod := md, bs := fun b o e => of_hidT e, bsz := Nat.le_of_eq (hidT_size _ _), funs := trivial,
      frf := fun b hb => absurd (show b ∈ ([] : List Addr) from hb) (by simp), hok := hok, bare := .of_eq gens }
  have run := (F _ kinB (nsB n1) keep).go callerA [] s₁ H ⟨[.ref a], []⟩ [.ref a] [.ref a] _ _ hr rfl e0 (bnd s₁ (.ref a)) (.cons rfl .nil) hsp
  refine codeAny_mono run ?_
  intro r s' h
  cases r with
  | error e => exact (noE e s' h).elim
  | ok fl =>
    cases fl with
    | brk => exact h.elim
    | cont => exact h.elim
    | next => exact h.elim
    | ret u =>
      obtain ⟨v, H', os, bare, un, hok', r', q⟩ := h
      obtain rfl : v = V.bl true := q
      obtain rfl : u = Value.bool true := r'
      refine ⟨rfl, OldK.of_keep ?_, os, bare⟩
      intro b o e
      cases c : H b with
      | none => exact un.keep b o e c (by intro z; exact absurd (show b ∈ ([] : List Addr) from z) (by simp)) (by simp)
      | some u =>
        rcases hH with z | ⟨_, rfl⟩
        · rw [z b] at c; cases c
        · have hb : b = a := by
            by_cases y : b = a
            · exact y
            · rw [entry_ne y] at c; cases c
          subst hb
          obtain ⟨e2, _⟩ := hok' b _ (un.frzs b _ _ entry_at)
          rw [obj] at e
          cases e
          exact e2

/-- a law's end, over a head by facts -/
theorem walkE {l : PySem.W.OpenLaw} {n k : Nat} {q : Program} {loose : List Str} {XP : (Str → Option Value) → Heap → Prop}
    {YP : World → Heap → Prop} {d : DefRec} {CX : CXT} {x : Str}
    (hn : l.most = some n) (hn2 : n ≤ sizeLine) (hdf : d.params.defaults = []) (hr : Room k callerA)
    (F : ∀ (w : World) (mg : Str → Option Value) (fa : Addr) (h : Heap), YP w h → h.Ns mainGlobals mg → mg d.name = some (.ref fa) →
      ∃ (K : PySem.W.Frag) (fd : FuncData) (sp : Sp), K.In h ∧ (∃ o es m, h.get? sysModules = some o ∧ o.data = Data.dict es m) ∧
        (∀ (s : Shared) (u : Value), BindsTo s fd ⟨[u], []⟩ [(x, u)]) ∧
        (∀ (H : Hp) (a : Addr) (ns : List Int), ns.length ≤ n → Lone H → SqL K H a (ns.map V.int) →
          sp [.ref a] H (fun v _ => v = .bl true) fun _ _ _ => False) ∧
        ∀ base : Heap, K.In base → base.Ns mainGlobals mg → (∃ o, base.get? sysModules = some o) →
          FnG l.prog w K mg base CX k fa fd [x] sp)
    (noE : ∀ (H : Hp) (s : Shared) (e : Value) (s' : Shared), CX [] H s (fun _ _ _ => False) e s' → False) :
    PySem.W.WalkO q loose XP YP l.row.toRowW d [] (fun f vs => PySem.call f vs) := by
  apply Att.attach_call hn hdf
  intro w s₀ s₁ mg mb fa o pm cd doc a vs ns G Y ho hd hcd hmg hobj hints hlen hg
  obtain ⟨K, fd, sp, kin, ⟨so, es, sm, hso, hsd⟩, hb, hsp, hF⟩ := F w mg fa _ Y G.T.g hmg
  have rel : Vals (ns.map V.int) vs := vals_ints hints
  have len : (ns.map V.int).length ≤ sizeLine := by
    rw [List.length_map]
    exact Nat.le_trans hlen hn2
  have sysNe : sysModules ≠ a := by
    intro z
    rw [z, hobj] at hso
    cases hso
    have d' : Data.seq vs.toArray _ = Data.dict es sm := hsd
    cases d'
  cases hk : K.lookup a with
  | some o1 =>
    have e := kin a o1 hk
    rw [hobj] at e
    cases e
    refine endLaw (ns := ns) (H := fun _ => none) kin G.T.g G.T.b G.T.builtins G.T.nolimit hg hr ⟨vs, rfl⟩ hobj (Or.inl fun _ => rfl)
      (fun b u z => by have z' : (none : Option HO) = some u := z; cases z')
      (fun base h1 h2 h3 => hF base h1 h2 ⟨_, h3 _ _ hso (Or.inl sysNe)⟩) hb ?_ (fun e s' => noE _ s₁ e s')
    refine hsp _ a ns hlen (Or.inl fun _ => rfl) (Or.inr ⟨_, vs.toArray, _, hk, rfl, rfl, rfl, ?_, by simpa using rel⟩)
    rw [List.size_toArray, hints.length]
    exact Nat.le_trans hlen hn2
  | none =>
    refine endLaw (ns := ns) (H := entry a _ (ns.map V.int)) kin G.T.g G.T.b G.T.builtins G.T.nolimit hg hr ⟨vs, rfl⟩ hobj (Or.inr ⟨hk, rfl⟩)
      ?_ (fun base h1 h2 h3 => hF base h1 h2 ⟨_, h3 _ _ hso (Or.inl sysNe)⟩) hb ?_ (fun e s' => noE _ s₁ e s')
    · intro b u z
      by_cases c : b = a
      · subst c
        rw [entry_at] at z
        cases z
        exact ⟨hobj, len, vs, _, rel, hobj⟩
      · rw [entry_ne c] at z
        cases z
    · exact hsp _ a ns hlen (Or.inr ⟨_, _, _, rfl⟩) (Or.inl (Or.inr ⟨_, entry_at⟩))

/-- what stands around a body -/
structure Rdy (k : Nat) (X : Cx) : Prop where
  room : Room k X.A
  gd : X.A.guards = some []
  sys : NoSys X
theorem Rdy.blk {k : Nat} {X : Cx} (R : Rdy k X) (s : Shared) (H : Hp) (sc : Scope) (env : Env) (fp : List Addr) : Rdy k (X.blk s H sc env fp) := ⟨R.room, R.gd, R.sys⟩
/-! the head's facts, and the table of modules -/
def sysB (g : Addr → Option Obj) : Bool := match g sysModules with
  | some ⟨_, _, .dict _ _, _⟩ => true
  | _ => false
theorem sysB_ok {g : Addr → Option Obj} (h : sysB g = true) : ∃ o es m, g sysModules = some o ∧ o.data = Data.dict es m := by
  unfold sysB at h
  split at h
  · rename_i es m _ e
    exact ⟨_, es, m, e, rfl⟩
  · cases h
def hookS (n : Nat) (fa : List He.Fa) (fn : List He.DefD) : PySem.W.Hook where
  α := He.AlD × Bool
  obs := fun s => ((He.hookD n fa fn).obs s, sysB s.heap.get?)
  val := fun w => ((He.hookD n fa fn).val w, true)
  says := fun w h => (He.hookD n fa fn).says w h ∧ ∃ o es m, h.get? sysModules = some o ∧ o.data = Data.dict es m
  of := fun w s e => ⟨(He.hookD n fa fn).of w s (congrArg Prod.fst e), sysB_ok (congrArg Prod.snd e)⟩
  keeps := fun w h h' z k => ⟨(He.hookD n fa fn).keeps w h h' z.1 k, let ⟨o, es, m, e, d⟩ := z.2; ⟨o, es, m, k _ _ e, d⟩⟩

section
variable {P : Program} {w : World} {K : PySem.W.Frag} {mg : Str → Option Value} {base : Heap} {x qual : Str} {params : Arguments}
  {body : List Stmt} {scope : Scope} {dvs : List V} {kws : List (Str × V)} {f : Addr} {fd : FuncData}
/-- a def of the head's facts, by its body -/
theorem okD {N ps : List Str} {k : Nat} {sp : Sp} (F : FunD K x qual params body scope dvs kws f fd) (S : FnScope N ps scope)
    (hS : ∃ o, base.get? sysModules = some o)
    (size : ∀ vs H Q E, sp vs H Q E → vs.length = ps.length)
    (hb : ∀ (cdv : Value) (A : Around) (outer : List Env) (s : Shared) (H : Hp) (vs : List V) (Q : VK) (E : XK),
      Rdy k (cxOf CX0 P w K mg base N qual scope f cdv A outer s H E).nox → sp vs H Q E →
      ∃ t, PSs (cxOf CX0 P w K mg base N qual scope f cdv A outer s H E).nox body t ∧
        t { nx := fun _ H' => Q .non H', rt := Q } (start N vs) H) : FnG P w K mg base CX0 (k + 1) f fd ps sp := by
  obtain ⟨oc, od, dV, kV, doc, pm, an, cdv, ct, osl, rfl, lk, hcd, _, _⟩ := F.ex
  refine fnG_of lk hcd S size ?_
  intro A outer s H vs Q E hr hg hsp
  obtain ⟨t, h, q⟩ := hb cdv A outer s H vs Q E ⟨hr, hg, hS⟩ hsp
  exact ⟨t, h.nox, q⟩
end

/-! what a caller needs -/
structure Cal (P : Program) (w : World) (K : PySem.W.Frag) (mg : Str → Option Value) (base : Heap) (k : Nat) (x : Str) (ps : List Str) (sp : Sp) : Prop where
  ex : ∃ (f : Addr) (fd : FuncData), FnG P w K mg base CX0 k f fd ps sp ∧ mg x = some (.ref f) ∧ PySem.W.keepIn K (.ref f) = true ∧ Binds K fd ps []
structure CalK (P : Program) (w : World) (K : PySem.W.Frag) (mg : Str → Option Value) (base : Heap) (k : Nat) (x : Str) (ps ks : List Str)
    (g : ∀ {α : Type}, List α → List α) (sp : Sp) : Prop where
  ex : ∃ (f : Addr) (fd : FuncData), FnG P w K mg base CX0 k f fd ps sp ∧ mg x = some (.ref f) ∧ PySem.W.keepIn K (.ref f) = true ∧ KwTo K fd ps ks g
section
variable {X : Cx} {k j : Nat} {x : Str} {ps ks : List Str} {sp : Sp} {p pos : Pos} {e : Expr} {es : List Expr} {t : TA}
  {kws : List Keyword} {tk : TA} {g : ∀ {α : Type}, List α → List α}
theorem cc (c : Cal X.prog X.w X.K X.mg X.base k x ps sp) (R : Rdy j X) (ha : PA X (e :: es) t) (hk : k ≤ j := by omega) (hg : Gl X x := by rfl)
    (hdb : (x == ("__debug__" : Str)) = false := by decide)
    (he : starEach (e :: es) X.env = (false, eval e X.env) :: starEach es X.env := by rfl)
    (hpl : (backTo pos (starEach es X.env)).any (·.1) = false := by rfl) (hx : ∀ E, Passes CX0 X E := by intro _ _ _ _ _ _ _ _ z; exact z.elim) :
    PE X (.Call (.Name x p) (e :: es) [] pos) (tCall sp [] E0 t) := by
  obtain ⟨f, fd, F, hm, hkp, hb⟩ := c.ex
  exact callG F R.gd (R.room.mono hk) hm hkp hb .nil (hx _) ha hg hdb he hpl
theorem cc0 (c : Cal X.prog X.w X.K X.mg X.base k x ps sp) (R : Rdy j X) (hk : k ≤ j := by omega) (hg : Gl X x := by rfl)
    (hdb : (x == ("__debug__" : Str)) = false := by decide) (hx : ∀ E, Passes CX0 X E := by intro _ _ _ _ _ _ _ _ z; exact z.elim) :
    PE X (.Call (.Name x p) [] [] pos) (tCall sp [] E0 tNil) := by
  obtain ⟨f, fd, F, hm, hkp, hb⟩ := c.ex
  exact callG0 F R.gd (R.room.mono hk) hm hkp hb .nil (hx _) hg hdb
theorem ck (c : CalK X.prog X.w X.K X.mg X.base k x ps ks g sp) (R : Rdy j X) (hkw : PK X kws tk) (hk : k ≤ j := by omega) (hg : Gl X x := by rfl)
    (hall : (backToKw pos (keywordEach kws X.env)).all (·.1.isSome) = true := by rfl)
    (hks : (backToKw pos (keywordEach kws X.env)).filterMap (·.1) = ks := by rfl) (hdb : (x == ("__debug__" : Str)) = false := by decide)
    (hpl : ((backTo pos (starEach [] X.env)).any (·.1) || (backToKw pos (keywordEach kws X.env)).any (·.1.isNone)) = false := by rfl)
    (hx : ∀ E, Passes CX0 X E := by intro _ _ _ _ _ _ _ _ z; exact z.elim) :
    PE X (.Call (.Name x p) [] kws pos) (tKw ks.length sp g E0 tk) := by
  obtain ⟨f, fd, F, hm, hkp, hb⟩ := c.ex
  exact callKw F R.gd (R.room.mono hk) hm hkp hb (hx _) hkw hg hall hks hdb hpl
theorem bt_repr : bootBuiltins "repr" = some (.builtin "repr") := by decide +kernel
/-- repr(e) -/
theorem crepr (R : Rdy j X) (hm : X.mg ("repr" : Str) = none) (ha : PA X [e] t) (hg : Gl X "repr" := by rfl)
    (he : starEach [e] X.env = (false, eval e X.env) :: starEach [] X.env := by rfl) (hpl : (backTo pos (starEach [] X.env)).any (·.1) = false := by rfl) :
    PE X (.Call (.Name "repr" p) [e] [] pos) (tCB rRepr t) :=
  pe_callB (call_reprA R.gd R.room R.sys) hg hm bt_repr ha (by decide) (by decide) he hpl
end
section
variable {K : PySem.W.Frag} {x qual : Str} {params : Arguments} {body : List Stmt} {scope : Scope} {f : Addr} {fd : FuncData} {kws : List (Str × V)}
theorem kwTo {ps ks : List Str} {g : ∀ {α : Type}, List α → List α} (F : FunD K x qual params body scope [] kws f fd)
    (h : ∀ (kV doc pm : Value) (an : Option Addr) (cdv ct : Value) (ws : List Value), ws.length = ks.length →
      bindArgs (PySem.W.fnOf x qual params body scope .none kV doc pm an cdv ct) ⟨[], ks.zip ws⟩ = pure (ps.zip (g ws)))
    (rel : ∀ {zs : List V} {ws : List Value}, Vals zs ws → Vals (g zs) (g ws)) : KwTo K fd ps ks g := by
  obtain ⟨oc, od, dV, kV, doc, pm, an, cdv, ct, osl, rfl, lk, hcd, hd, _⟩ := F.ex
  rcases hd with ⟨_, rfl⟩ | ⟨z, _⟩
  · exact ⟨fun s ws _ hl => .of_eq (h kV doc pm an cdv ct ws hl), rel⟩
  · exact absurd rfl z
end
end FA
end

/-! G4 -/
section
namespace FA
open PySem PySem.Spec PyProof.Rows L2

theorem bt_isinstance : bootBuiltins "isinstance" = some (.builtin "isinstance") := by decide +kernel
theorem bt_len : bootBuiltins "len" = some (.builtin "len") := by decide +kernel
theorem bt_all : bootBuiltins "all" = some (.builtin "all") := by decide +kernel
theorem bt_any : bootBuiltins "any" = some (.builtin "any") := by decide +kernel
theorem bt_abs : bootBuiltins "abs" = some (.builtin "abs") := by decide +kernel
theorem bt_min : bootBuiltins "min" = some (.builtin "min") := by decide +kernel
theorem bt_max : bootBuiltins "max" = some (.builtin "max") := by decide +kernel
theorem bt_str : bootBuiltins "str" = some (.type "str") := by decide +kernel
theorem bt_int : bootBuiltins "int" = some (.type "int") := by decide +kernel
theorem bt_bool : bootBuiltins "bool" = some (.type "bool") := by decide +kernel
theorem bt_list : bootBuiltins "list" = some (.type "list") := by decide +kernel
theorem bt_tuple : bootBuiltins "tuple" = some (.type "tuple") := by decide +kernel
theorem bt_dict : bootBuiltins "dict" = some (.type "dict") := by decide +kernel
theorem bt_range : bootBuiltins "range" = some (.type "range") := by decide +kernel
section
variable {X : Cx}
/-! operators for values of any kind that meet -/
theorem opMulStr : OpR X (binaryOp .Mult) (fun x y H Q => ∃ z k, x = .str z ∧ y = .int k ∧ PySem.MulOk z k ∧ Q (.str (Txt.mul z k)) H) := by
  intro pins s σ H x y u v Q I r1 r2 h
  obtain ⟨z, k, rfl, rfl, hz, q⟩ := h
  obtain ⟨t1, rfl⟩ : ∃ t, u = .str z t := r1
  obtain ⟨t2, rfl⟩ : ∃ t, v = .int k t := r2
  exact PySem.SB.mul hz fun t k => ⟨.str _, H, I.tok _, ⟨_, rfl⟩, q⟩
abbrev rAddA : R2 := fun x y H Q => (rI0 (fun i j => .int (i + j)) x y H Q ∨
    (∃ i j, x = .str i ∧ y = .str j ∧ i.length + j.length ≤ sizeLine ∧ Q (.str (i ++ j)) H)) ∨ rCat x y H Q
theorem opAdd : OpR X (binaryOp .Add) rAddA := OpR.or (OpR.or op_add op_add_str) op_cat
abbrev rMulA : R2 := fun x y H Q => (rI CMul (fun i j => .int (i * j)) x y H Q ∨ rRep x y H Q) ∨
    ∃ z k, x = .str z ∧ y = .int k ∧ PySem.MulOk z k ∧ Q (.str (Txt.mul z k)) H
theorem opMul : OpR X (binaryOp .Mult) rMulA := OpR.or (OpR.or op_mul op_rep) opMulStr
abbrev rLtA : R2 := fun x y H Q => rI0 (fun i j => .bl (decide (i < j))) x y H Q ∨
    ∃ i j, x = .str i ∧ y = .str j ∧ Q (.bl (decide (i.cps.toList < j.cps.toList))) H
theorem opLt : OpR X (compareOp .Lt) rLtA := OpR.or op_lt op_lt_str
abbrev rLeA : R2 := fun x y H Q => rI0 (fun i j => .bl (decide (i ≤ j))) x y H Q ∨
    ∃ i j, x = .str i ∧ y = .str j ∧ Q (.bl (!decide (j.cps.toList < i.cps.toList))) H
theorem opLe : OpR X (compareOp .LtE) rLeA := OpR.or op_le op_le_str
abbrev rGeA : R2 := rI0 fun i j => .bl (decide (j ≤ i))
abbrev rGtA : R2 := rI0 fun i j => .bl (decide (j < i))
abbrev rSubA : R2 := rI0 fun i j => .int (i - j)
abbrev rModA : R2 := rI (fun _ j => 0 < j) fun i j => .int (i % j)
abbrev rDivA : R2 := rI CDivW fun i j => .int (i / j)
abbrev rPowA : R2 := rI CPow fun i j => .int (i ^ j.toNat)
abbrev rIsN : R2 := fun x y H Q => y = .non ∧ Q (.bl (decide (x = .non))) H
abbrev rNotN : R2 := fun x y H Q => y = .non ∧ Q (.bl (!decide (x = .non))) H
abbrev rIxA (K : PySem.W.Frag) : R2 := fun x y H Q => rIxL K x y H Q ∨ rIxT K x y H Q ∨ rIxS x y H Q
theorem ixAny : IxR X (rIxA X.K) := ix_seq
abbrev rSlA (K : PySem.W.Frag) : V → Option Int → Option Int → Hp → VK → Prop := fun x lo hi H Q => rSlL K x lo hi H Q ∨ rSlS x lo hi H Q
theorem slAny : SlR X (rSlA X.K) := SlR.or sl_list sl_str
abbrev rLenA (K : PySem.W.Frag) : List V → Hp → VK → Prop := fun xs H Q => (∃ p ys, xs = [.ref p] ∧ (SqL K H p ys ∨ SqT K H p ys) ∧ Q (.int ys.length) H) ∨
    ∃ z, xs = [.str z] ∧ z.length ≤ sizeLine ∧ Q (.int z.length) H
abbrev rListOf (K : PySem.W.Frag) : List V → Hp → VK → Prop := fun xs H Q => ∃ p ys, xs = [.ref p] ∧ (SqL K H p ys ∨ SqT K H p ys) ∧ ∀ l, H l = none → Q (.ref l) (upd H l (.lst ys))
abbrev rAbs : List V → Hp → VK → Prop := fun xs H Q => ∃ i, xs = [.int i] ∧ Q (.int (if i < 0 then -i else i)) H
theorem call_lenA : CallR X (.builtin "len") (rLenA X.K) := CallR.or call_len_seq call_len_str

/-- a comprehension of one name -/
theorem pe_lc1 (i : Nat) {x : Str} {p : Pos} {elt iter : Expr} {ifs : List Expr} {scope : Scope} {pos : Pos} {wi : TI} {tt : TT} {te : TE}
    (hc : X.calm = true) (hN : X.N.Nodup) (hi : PI X (.Name x p) iter wi) (ok : blkC X.N X.env.scope scope [(x, i)] = true)
    (hg : ∀ (s : Shared) (H : Hp) (C : Addr) (cl : List (Str × Addr)) (fp : List Addr), PG (X.blk s H scope (compEnvC scope cl C X.env) fp) (.Name x p) (gName i))
    (ht : ∀ (s : Shared) (H : Hp) (C : Addr) (cl : List (Str × Addr)) (fp : List Addr), PTs (X.blk s H scope (compEnvC scope cl C X.env) fp) ifs tt)
    (he : ∀ (s : Shared) (H : Hp) (C : Addr) (cl : List (Str × Addr)) (fp : List Addr), PE (X.blk s H scope (compEnvC scope cl C X.env) fp) elt te)
    (hs : ∀ z, foldedSetIterable iter X.env z = pure z := by intro _; rfl) :
    PE X (.ListComp elt [⟨.Name x p, iter, ifs, 0⟩] scope pos) (tLc wi (gName i) tt te [i]) :=
  pe_lc (own := [(x, i)]) hc hN hi (blkOk_by ok) hg ht he hs
end
end FA
end

/-! G5 -/
section
namespace FA
open PySem PySem.Spec PyProof.Rows L2
/-! the mathematics -/
def okc (c : Nat) : Bool := decide (97 ≤ c) && decide (c ≤ 122)
theorem lt1 (a b : Nat) : decide (([a] : List Nat) < [b]) = decide (a < b) := by
  by_cases h : a < b
  · rw [decide_eq_true h]
    exact decide_eq_true (List.cons_lt_cons_iff.mpr (Or.inl h))
  · rw [decide_eq_false h]
    refine decide_eq_false fun q => ?_
    rcases List.cons_lt_cons_iff.mp q with q | ⟨_, q⟩
    · exact h q
    · exact List.not_lt_nil _ q
theorem sgn_a : (Str.ofString "a").cps.toList = [97] := by decide
theorem sgn_z : (Str.ofString "z").cps.toList = [122] := by decide
theorem same_new {H : Hp} {p : Addr} (h : H p = none) (o : HO) : Same H (upd H p o) := fun b u q => by rw [upd_ne (ne_of_none q h)]; exact q
theorem same_mut {H H1 : Hp} {p : Addr} {o : HO} (s : Same H H1) (h : H p = none) : Same H (upd H1 p o) := fun b u q => by rw [upd_ne (ne_of_none q h)]; exact s b u q
def lower (z : Str) : Bool := z.cps.toList.all okc
def nameS (z : Str) : Bool := decide (1 ≤ z.length) && decide (z.length ≤ 8) && lower z
def isName : PyData → Bool
  | .str z => nameS z
  | _ => false
def isNum : PyData → Bool
  | .int i => decide (-(10 ^ 12) ≤ i) && decide (i ≤ 10 ^ 12)
  | _ => false
def isVal (d : PyData) : Bool := match d with
  | .none => true
  | d => isNum d || isName d
def isStr : PyData → Bool
  | .str _ => true
  | _ => false


section
variable {K : PySem.W.Frag}
def tyN : PyData → String
  | .none => "NoneType"
  | .bool _ => "bool"
  | .int _ => "int"
  | .str _ => "str"
  | .list _ => "list"
  | .tuple _ => "tuple"
  | .dict _ => "dict"
theorem ty_dat {H : Hp} {d : PyData} {v : V} (h : Dat H d v) : TyX K H v (.type (tyN d)) := by
  cases d with
  | none => simp only [Dat] at h; subst h; exact .base .non
  | bool x => simp only [Dat] at h; subst h; exact .base (.bl x)
  | int i => simp only [Dat] at h; subst h; exact .base (.int i)
  | str x => simp only [Dat] at h; subst h; exact .base (.str x)
  | list ds => simp only [Dat] at h; obtain ⟨a, xs, rfl, e, _⟩ := h; exact .base (.lst e)
  | tuple ds => simp only [Dat] at h; obtain ⟨a, xs, rfl, e, _⟩ := h; exact .base (.tup e)
  | dict kvs => simp only [Dat] at h; obtain ⟨a, xs, rfl, e, _⟩ := h; exact .base (.dK e)
theorem kit_str (d : PyData) : PySem.W.kitOne K (.type (tyN d)) (.type "str") = some (isStr d) := by
  cases d <;> exact kit_ty (by simp only [tyN, isStr]; decide +kernel)
def isInt : PyData → Bool
  | .int _ => true
  | .bool _ => true
  | _ => false
def isBool : PyData → Bool
  | .bool _ => true
  | _ => false
theorem kit_int (d : PyData) : PySem.W.kitOne K (.type (tyN d)) (.type "int") = some (isInt d) := by
  cases d <;> exact kit_ty (by simp only [tyN, isInt]; decide +kernel)
theorem kit_bool (d : PyData) : PySem.W.kitOne K (.type (tyN d)) (.type "bool") = some (isBool d) := by
  cases d <;> exact kit_ty (by simp only [tyN, isBool]; decide +kernel)
theorem dat_non {H : Hp} {d : PyData} {v : V} (h : Dat H d v) : decide (v = .non) = (match d with | .none => true | _ => false) := by
  cases d with
  | none => simp only [Dat] at h; subst h; rfl
  | bool x => simp only [Dat] at h; subst h; rfl
  | int i => simp only [Dat] at h; subst h; rfl
  | str x => simp only [Dat] at h; subst h; rfl
  | list ds => simp only [Dat] at h; obtain ⟨a, xs, rfl, e, _⟩ := h; rfl
  | tuple ds => simp only [Dat] at h; obtain ⟨a, xs, rfl, e, _⟩ := h; rfl
  | dict kvs => simp only [Dat] at h; obtain ⟨a, xs, rfl, e, _⟩ := h; rfl
mutual
theorem dat_same {H H' : Hp} (s : Same H H') : ∀ (d : PyData) (v : V), Dat H d v → Dat H' d v
  | .none, v, h => by simp only [Dat] at h ⊢; exact h
  | .bool _, v, h => by simp only [Dat] at h ⊢; exact h
  | .int _, v, h => by simp only [Dat] at h ⊢; exact h
  | .str _, v, h => by simp only [Dat] at h ⊢; exact h
  | .list ds, v, h => by
    simp only [Dat] at h ⊢
    obtain ⟨a, xs, e, ha, hd⟩ := h
    exact ⟨a, xs, e, s _ _ ha, datAll_same s ds xs hd⟩
  | .tuple ds, v, h => by
    simp only [Dat] at h ⊢
    obtain ⟨a, xs, e, ha, hd⟩ := h
    exact ⟨a, xs, e, s _ _ ha, datAll_same s ds xs hd⟩
  | .dict kvs, v, h => by
    simp only [Dat] at h ⊢
    obtain ⟨a, xs, e, ha, hd⟩ := h
    exact ⟨a, xs, e, s _ _ ha, datKv_same s kvs xs hd⟩
theorem datAll_same {H H' : Hp} (s : Same H H') : ∀ (ds : List PyData) (xs : List V), DatAll H ds xs → DatAll H' ds xs
  | [], xs, h => by simp only [DatAll] at h ⊢; exact h
  | d :: ds, xs, h => by
    simp only [DatAll] at h ⊢
    obtain ⟨y, ys, e, h1, h2⟩ := h
    exact ⟨y, ys, e, dat_same s d y h1, datAll_same s ds ys h2⟩
theorem datKv_same {H H' : Hp} (s : Same H H') : ∀ (ds : List (PyData × PyData)) (xs : List (Key × V)), DatKv H ds xs → DatKv H' ds xs
  | [], xs, h => by simp only [DatKv] at h ⊢; exact h
  | (k, d) :: ds, xs, h => by
    simp only [DatKv] at h ⊢
    obtain ⟨c, y, ys, e, ek, h1, h2⟩ := h
    exact ⟨c, y, ys, e, ek, dat_same s d y h1, datKv_same s ds ys h2⟩
end

end

/-- the built-ins stand as they are -/
structure Blt (mg : Str → Option Value) : Prop where
  isinstance : mg "isinstance" = none
  len : mg "len" = none
  all : mg "all" = none
  abs : mg "abs" = none
  repr : mg "repr" = none
  str : mg "str" = none
  int : mg "int" = none
  bool : mg "bool" = none
  list : mg "list" = none
  tuple : mg "tuple" = none
  range : mg "range" = none

/-! data of no great size -/
structure Okd (D W : Nat) (x : PyData) : Prop where
  sh : x.showable = true
  lv : x.leavesShort 60 = true
  dp : x.depth ≤ D
  wt : x.weight ≤ W
  low : ∀ z, x = .str z → ∀ c ∈ z.cps.toList, c < 128
theorem Okd.len {D W : Nat} {x : PyData} (h : Okd D W x) : x.shown.length ≤ 62 * W + 60 := by
  have q := PyData.shown_le 60 (by decide) x h.lv
  have w := Nat.mul_le_mul_left 62 h.wt
  omega
theorem Okd.fits {D W : Nat} {x : PyData} (h : Okd D W x) (hW : W ≤ 270000) : x.shown.length ≤ sizeLine := by
  have q := h.len
  rw [sizeLine_eq]
  omega
theorem Okd.mono {D W D' W' : Nat} {x : PyData} (h : Okd D W x) (hD : D ≤ D') (hW : W ≤ W') : Okd D' W' x := ⟨h.sh, h.lv, Nat.le_trans h.dp hD, Nat.le_trans h.wt hW, h.low⟩
theorem okd_non {D W : Nat} : Okd D W .none := ⟨rfl, rfl, by simp [PyData.depth], by simp [PyData.weight], fun _ h => nomatch h⟩
theorem okd_bool {D W : Nat} {b : Bool} : Okd D W (.bool b) := ⟨rfl, rfl, by simp [PyData.depth], by simp [PyData.weight], fun _ h => nomatch h⟩
def Low (z : Str) : Prop := ∀ c ∈ z.cps.toList, c < 128
theorem okd_str {D W : Nat} {z : Str} (h : Low z) (hW : z.length ≤ W) : Okd D W (.str z) := by
  refine ⟨rfl, ?_, by simp [PyData.depth], ?_, fun y e => by cases e; exact h⟩
  · simp only [PyData.leavesShort, List.all_eq_true, decide_eq_true_eq]
    intro c hc
    exact Nat.lt_of_lt_of_le (h c hc) (by decide)
  · simp only [PyData.weight]
    exact hW
theorem Okd.strLen {D W : Nat} {z : Str} (h : Okd D W (.str z)) : z.length ≤ W := by
  have q := h.wt
  simp only [PyData.weight] at q
  exact q
end FA
end

/-! G6 -/
section
namespace FA
open PySem PySem.Spec PyProof.Rows L2

theorem okd_int {D W : Nat} {i : Int} (h : i.natAbs < 10 ^ 40) (hW : 140 ≤ W) : Okd D W (.int i) := by
  have hl : i.natAbs.log2 < 133 := by
    by_cases z : i.natAbs = 0
    · rw [z]; decide
    · exact (Nat.log2_lt z).mpr (Nat.lt_of_lt_of_le h (by decide))
  refine ⟨?_, ?_, by simp [PyData.depth], ?_, fun _ h => nomatch h⟩
  · simp only [PyData.showable, decide_eq_true_eq]
    omega
  · simp only [PyData.leavesShort, decide_eq_true_eq]
    have e := int_text_length_le10 (k := 40) (by decide) h
    have e2 : (PyData.shown (.int i)).length = (toString i).length := by
      show (Str.ofString (toString i)).length = _
      rw [PySem.ofString_length]
      try rfl
    rw [e2]
    omega
  · simp only [PyData.weight]
    split <;> omega
/-- lists, tuples of such -/
structure Oks (D W : Nat) (xs : List PyData) : Prop where
  sh : PyData.showableAll xs = true
  lv : PyData.leavesShortAll 60 xs = true
  dp : PyData.depthAll xs ≤ D
  wt : PyData.weightAll xs ≤ W
theorem oks_nil {D W : Nat} : Oks D W [] := ⟨rfl, rfl, by simp [PyData.depthAll], by simp [PyData.weightAll]⟩
theorem oks_cons {D W V : Nat} {x : PyData} {xs : List PyData} (h : Okd D W x) (r : Oks D V xs) : Oks D (W + 1 + V) (x :: xs) := by
  refine ⟨?_, ?_, ?_, ?_⟩
  · simp only [PyData.showableAll, h.sh, r.sh, Bool.and_self]
  · simp only [PyData.leavesShortAll, h.lv, r.lv, Bool.and_self]
  · simp only [PyData.depthAll]
    exact Nat.max_le.mpr ⟨h.dp, r.dp⟩
  · simp only [PyData.weightAll]
    have := h.wt
    have := r.wt
    omega
theorem Oks.mono {D W D' W' : Nat} {x : List PyData} (h : Oks D W x) (hD : D ≤ D') (hW : W ≤ W') : Oks D' W' x := ⟨h.sh, h.lv, Nat.le_trans h.dp hD, Nat.le_trans h.wt hW⟩
theorem oks_all {D W : Nat} : ∀ {xs : List PyData}, (∀ x ∈ xs, Okd D W x) → Oks D ((W + 1) * xs.length) xs
  | [], _ => oks_nil
  | x :: xs, h => by
    have r := oks_all (xs := xs) (fun y hy => h y (List.mem_cons_of_mem _ hy))
    refine (oks_cons (h x List.mem_cons_self) r).mono (Nat.le_refl _) ?_
    rw [List.length_cons, Nat.mul_add, Nat.mul_one]
    omega
theorem okd_list {D W : Nat} {xs : List PyData} (h : Oks D W xs) : Okd (D + 1) W (.list xs) := by
  refine ⟨by simpa [PyData.showable] using h.sh, by simpa [PyData.leavesShort] using h.lv, ?_, ?_, fun _ h => nomatch h⟩
  · simp only [PyData.depth]
    exact Nat.succ_le_succ h.dp
  · simp only [PyData.weight]
    exact h.wt
theorem okd_tuple {D W : Nat} {xs : List PyData} (h : Oks D W xs) : Okd (D + 1) W (.tuple xs) := by
  refine ⟨by simpa [PyData.showable] using h.sh, by simpa [PyData.leavesShort] using h.lv, ?_, ?_, fun _ h => nomatch h⟩
  · simp only [PyData.depth]
    exact Nat.succ_le_succ h.dp
  · simp only [PyData.weight]
    exact h.wt
theorem okd_dict0 {D W : Nat} : Okd (D + 1) W (.dict []) := ⟨rfl, rfl, by simp [PyData.depth, PyData.depthKv], by simp [PyData.weight, PyData.weightKv], fun _ h => nomatch h⟩
theorem okd_dict1 {D W V : Nat} {k x : PyData} (hk : Okd D W k) (h : Okd D V x) : Okd (D + 1) (W + V + 2) (.dict [(k, x)]) := by
  refine ⟨?_, ?_, ?_, ?_, fun _ h => nomatch h⟩
  · simp only [PyData.showable, PyData.showableKv, hk.sh, h.sh, Bool.and_self]
  · simp only [PyData.leavesShort, PyData.leavesShortKv, hk.lv, h.lv, Bool.and_self]
  · simp only [PyData.depth, PyData.depthKv]
    exact Nat.succ_le_succ (Nat.max_le.mpr ⟨Nat.max_le.mpr ⟨hk.dp, h.dp⟩, Nat.zero_le _⟩)
  · simp only [PyData.weight, PyData.weightKv]
    have := h.wt
    have := hk.wt
    omega

/-! the deck and what stands beside it -/
def hid (d c : Addr) (H : Hp) : Hp := fun b => if b = d ∨ b = c then none else H b
theorem hid_ne {d c b : Addr} {H : Hp} (h1 : b ≠ d) (h2 : b ≠ c) : hid d c H b = H b := if_neg (by rintro (z | z); exact h1 z; exact h2 z)
theorem hid_some {d c b : Addr} {H : Hp} {o : HO} (h : hid d c H b = some o) : b ≠ d ∧ b ≠ c ∧ H b = some o := by
  unfold hid at h
  by_cases z : b = d ∨ b = c
  · rw [if_pos z] at h; cases h
  · rw [if_neg z] at h
    exact ⟨fun e => z (Or.inl e), fun e => z (Or.inr e), h⟩
theorem hid_sub {d c : Addr} {H : Hp} : Same (hid d c H) H := fun b o h => (hid_some h).2.2
theorem hid_same {d c : Addr} {H H' : Hp} (s : Same H H') : Same (hid d c H) (hid d c H') := fun b o h => by
  obtain ⟨h1, h2, h3⟩ := hid_some h
  rw [hid_ne h1 h2]
  exact s b o h3
/-- only d or c is written -/
theorem hid_upd {d c a : Addr} {H : Hp} {o : HO} (h : a = d ∨ a = c) : hid d c (upd H a o) = hid d c H := by
  funext b
  unfold hid
  by_cases z : b = d ∨ b = c
  · rw [if_pos z, if_pos z]
  · rw [if_neg z, if_neg z]
    exact upd_ne fun e => z (by rw [e]; exact h)
theorem hid_at {d c p : Addr} {H : Hp} {o : HO} (h1 : p ≠ d) (h2 : p ≠ c) : hid d c (upd H p o) p = some o := by
  rw [hid_ne h1 h2, upd_same]

def deckKvs (c : Addr) (t n : Int) : List (Key × V) := [(.inr "cells", .ref c), (.inr "total", .int t), (.inr "draws", .int n)]
/-- a deck at d, its cells at c, at most n draws so far -/
structure Deck (H : Hp) (d c : Addr) (n : Nat) : Prop where
  is : ∃ (t m : Int) (cs : List Int), H d = some (.dK (deckKvs c t m)) ∧ H c = some (.lst (cs.map V.int)) ∧ cs.length ≤ 63 ∧ 0 ≤ m ∧ m ≤ n
theorem Deck.same {H H' : Hp} {d c : Addr} {n : Nat} (D : Deck H d c n) (s : Same H H') : Deck H' d c n := by
  obtain ⟨t, m, cs, h1, h2, h⟩ := D.is
  exact ⟨t, m, cs, s _ _ h1, s _ _ h2, h⟩
theorem Deck.mono {H : Hp} {d c : Addr} {n k : Nat} (D : Deck H d c n) (h : n ≤ k) : Deck H d c k := by
  obtain ⟨t, m, cs, h1, h2, h3, h4, h5⟩ := D.is
  exact ⟨t, m, cs, h1, h2, h3, h4, by omega⟩
theorem Deck.ne {H : Hp} {d c p : Addr} {n : Nat} (D : Deck H d c n) (h : H p = none) : p ≠ d ∧ p ≠ c := by
  obtain ⟨t, m, cs, h1, h2, _⟩ := D.is
  exact ⟨fun e => (by rw [e, h1] at h; cases h), fun e => (by rw [e, h2] at h; cases h)⟩
theorem Deck.dc {H : Hp} {d c : Addr} {n : Nat} (D : Deck H d c n) : d ≠ c := by
  obtain ⟨t, m, cs, h1, h2, _⟩ := D.is
  exact ne_of h1 h2 (by intro z; cases z)
/-- a draw's promise -/
def spDraw : Sp := fun vs H Q _ => ∃ (d c : Addr) (n : Nat) (m : Int), vs = [.ref d, .int m] ∧ Deck H d c n ∧ n ≤ 1000000 ∧ 0 < m ∧ m.natAbs < 2 ^ 64 ∧
  ∀ r H', 0 ≤ r → r < m → Deck H' d c (n + 1) → Same (hid d c H) (hid d c H') → Q (.int r) H'
/-- a pick's: of a list, of a text -/
def spPick : Sp := fun vs H Q _ => ∃ (d c : Addr) (n : Nat) (u : V), vs = [.ref d, u] ∧ Deck H d c n ∧ n ≤ 1000000 ∧
  ((∃ a xs, u = .ref a ∧ hid d c H a = some (.lst xs) ∧ 0 < xs.length ∧ xs.length ≤ 1000000 ∧
      ∀ (j : Nat) x H', xs[j]? = some x → Deck H' d c (n + 1) → Same (hid d c H) (hid d c H') → Q x H') ∨
   (∃ z, u = .str z ∧ 0 < z.length ∧ z.length ≤ 1000000 ∧
      ∀ k H', k ∈ z.cps.toList → Deck H' d c (n + 1) → Same (hid d c H) (hid d c H') → Q (.str ⟨#[k]⟩) H'))
end FA
namespace FA
open PySem PySem.Spec PyProof.Rows L2
theorem emb (a : Int) {m : Int} (h : 0 < m) (h2 : m < 2 ^ 64) : -(2 ^ 64) < a % m ∧ a % m < 2 ^ 64 := by
  have h0 := Int.emod_nonneg a (Int.ne_of_gt h)
  have h1 := Int.emod_lt_of_pos a h
  omega
theorem dk_cells {c : Addr} {t n : Int} : valV (deckKvs c t n) (Sum.inr "cells") = some (.ref c) := by kernel_rfl
theorem dk_total {c : Addr} {t n : Int} : valV (deckKvs c t n) (Sum.inr "total") = some (.int t) := by kernel_rfl
theorem dk_draws {c : Addr} {t n : Int} : valV (deckKvs c t n) (Sum.inr "draws") = some (.int n) := by kernel_rfl
theorem dk_put {c : Addr} {t n k : Int} : putK (deckKvs c t n) (Sum.inr "draws") (.int k) = deckKvs c t k := by kernel_rfl
theorem dk_merge {c : Addr} {t n : Int} : mergeK [] (deckKvs c t n) = deckKvs c t n := by kernel_rfl
theorem dg_cells {H : Hp} {d c : Addr} {t n : Int} (h : H d = some (.dK (deckKvs c t n))) : DGet H d (.str "cells") (some (.ref c)) := by
  have z := DGet.k (k := Sum.inr "cells") h
  rw [dk_cells] at z
  exact z
theorem dg_total {H : Hp} {d c : Addr} {t n : Int} (h : H d = some (.dK (deckKvs c t n))) : DGet H d (.str "total") (some (.int t)) := by
  have z := DGet.k (k := Sum.inr "total") h
  rw [dk_total] at z
  exact z
theorem dg_draws {H : Hp} {d c : Addr} {t n : Int} (h : H d = some (.dK (deckKvs c t n))) : DGet H d (.str "draws") (some (.int n)) := by
  have z := DGet.k (k := Sum.inr "draws") h
  rw [dk_draws] at z
  exact z
theorem dp_draws {H : Hp} {d c : Addr} {t n k : Int} (h : H d = some (.dK (deckKvs c t n))) : DPut H d (.str "draws") (.int k) (upd H d (.dK (deckKvs c t k))) := by
  have z := DPut.k (k := Sum.inr "draws") (v := .int k) h (by show 3 < sizeLine; decide)
  rw [dk_put] at z
  exact z
theorem ints_canLay : ∀ cs : List Int, PyData.canLayAll0 (cs.map PyData.int) = true
  | [] => rfl
  | c :: r => by
    have := ints_canLay r
    simp only [List.map_cons, PyData.canLayAll0, this, Bool.and_true]
    rfl
theorem ints_depth : ∀ cs : List Int, PyData.depthAll (cs.map PyData.int) = 0
  | [] => rfl
  | c :: r => by
    simp only [List.map_cons, PyData.depthAll, ints_depth r, PyData.depth, Nat.max_self]
theorem ints_shaped (cs : List Int) : SeqAt.shaped (.list (cs.map PyData.int)) = true := by
  unfold SeqAt.shaped
  rw [Bool.and_eq_true]
  refine ⟨?_, decide_eq_true ?_⟩
  · simp only [PyData.canLay0, ints_canLay]
  · simp only [PyData.depth, ints_depth]
    decide
theorem ints_dp {K : PySem.W.Frag} {H : Hp} : ∀ cs : List Int, DpAll K H (cs.map V.int) (cs.map PyData.int)
  | [] => .nil
  | c :: r => .cons (.int c) (ints_dp r)
end FA
end

/-! G7 -/
section
namespace FA
open PySem PySem.Spec PyProof.Rows L2

theorem low_of {z : Str} (h : z.cps.toList.all (fun c => decide (c < 128)) = true) : Low z := fun c hc => of_decide_eq_true (List.all_eq_true.mp h c hc)
theorem low_app {x y : Str} (hx : Low x) (hy : Low y) : Low (x ++ y) := by
  intro c hc
  rw [Str.cps_append, Array.toList_append] at hc
  rcases List.mem_append.mp hc with h | h
  · exact hx c h
  · exact hy c h
theorem low_join {s : Str} (hs : Low s) : ∀ {zs : List Str}, (∀ z ∈ zs, Low z) → Low (Str.join s zs)
  | [], _ => fun c hc => by simp [Str.join, Str.empty] at hc
  | [x], h => h x List.mem_cons_self
  | x :: y :: r, h => low_app (low_app (h x List.mem_cons_self) hs) (low_join hs fun z hz => h z (List.mem_cons_of_mem _ hz))
theorem low_cut {z : Str} (h : Low z) (lo hi : Option Int) : Low (cutS z lo hi) := by
  intro c hc
  unfold cutS at hc
  exact h c (List.mem_of_mem_drop (List.mem_of_mem_take (by simpa using hc)))
theorem low_one {z : Str} {k : Nat} (h : Low z) (hk : k ∈ z.cps.toList) : Low ⟨#[k]⟩ := by
  intro c hc
  have : c = k := by simpa using hc
  subst this
  exact h c hk
theorem cut_le (z : Str) (lo hi : Option Int) : (cutS z lo hi).length ≤ z.length := by
  unfold cutS
  show (List.toArray _).size ≤ z.cps.size
  rw [List.size_toArray, List.length_take, List.length_drop, Array.length_toList]
  omega
theorem cut_8 (z : Str) : (cutS z none (some 8)).length ≤ 8 := by
  unfold cutS
  show (List.toArray _).size ≤ 8
  rw [List.size_toArray, List.length_take]
  have e : HT.sIx z.length z.length (some 8) = min 8 z.length := HT.sIx_nat z.length z.length 8
  rw [e]
  omega
theorem hid_mut {d c p : Addr} {H H1 : Hp} {o : HO} (s : Same (hid d c H) (hid d c H1)) (h : H p = none) (h1 : p ≠ d) (h2 : p ≠ c) : Same (hid d c H) (hid d c (upd H1 p o)) := by
  intro b u hb
  obtain ⟨a1, a2, a3⟩ := hid_some hb
  have bp : b ≠ p := ne_of_none a3 h
  rw [hid_ne a1 a2, upd_ne bp, ← hid_ne a1 a2 (H := H1)]
  exact s b u hb
theorem Deck.upd {H : Hp} {d c p : Addr} {n : Nat} {o : HO} (D : Deck H d c n) (h1 : p ≠ d) (h2 : p ≠ c) : Deck (L2.upd H p o) d c n := by
  obtain ⟨t, m, cs, e1, e2, h⟩ := D.is
  exact ⟨t, m, cs, by rw [upd_ne h1.symm]; exact e1, by rw [upd_ne h2.symm]; exact e2, h⟩
end FA
namespace FA
open PySem PySem.Spec PyProof.Rows L2
theorem mem_rep {a : Array Nat} {c : Nat} : ∀ (k : Nat) (acc : Array Nat), c ∈ (((List.replicate k a).foldl (· ++ ·) acc).toList) → c ∈ acc.toList ∨ c ∈ a.toList
  | 0, acc, h => Or.inl h
  | k + 1, acc, h => by
    rw [List.replicate_succ, List.foldl_cons] at h
    rcases mem_rep k (acc ++ a) h with h | h
    · rw [Array.toList_append] at h
      exact (List.mem_append.mp h)
    · exact Or.inr h
theorem low_mul {z : Str} (h : Low z) (n : Int) : Low (Txt.mul z n) := by
  intro c hc
  unfold Txt.mul at hc
  split at hc
  · simp [Str.empty] at hc
  · split at hc
    · exact h c hc
    · rcases mem_rep _ _ hc with q | q
      · simp at q
      · exact h c q
theorem mul_ok {z : Str} {n : Int} (hz : z.length ≤ 100) (h0 : 0 < n) (h1 : n ≤ 10000) : PySem.MulOk z n := by
  refine ⟨?_, fun _ _ => ?_, fun _ _ => ?_⟩
  · rw [decide_eq_false (by omega), decide_eq_false (by omega)]
    rfl
  · have : 100 ≤ (2 ^ 63 - 1) / n := by
      refine Int.le_ediv_of_mul_le h0 ?_
      omega
    omega
  · have h2 : n.toNat ≤ 10000 := by omega
    have : z.length * n.toNat ≤ 100 * 10000 := Nat.mul_le_mul hz h2
    have e : Builtin.Str.tooLong (z.length * n.toNat) = false := by
      unfold Builtin.Str.tooLong
      exact decide_eq_false (by rw [sizeLine_eq]; omega)
    exact e
/-- what has come since H -/
def frs (H H' : Hp) : Hp := fun b => match H b with
  | none => H' b
  | some _ => none
theorem frs_new {H H' : Hp} {b : Addr} (h : H b = none) : frs H H' b = H' b := by
  unfold frs
  rw [h]
theorem frs_some {H H' : Hp} {b : Addr} {o : HO} (h : frs H H' b = some o) : H b = none ∧ H' b = some o := by
  unfold frs at h
  cases e : H b with
  | none => rw [e] at h; exact ⟨rfl, h⟩
  | some u => rw [e] at h; cases h
/-- all that was tracked still is -/
def Dm (H H' : Hp) : Prop := ∀ b, H' b = none → H b = none
theorem dm_same {H H' : Hp} (s : Same H H') : Dm H H' := fun b h => s.free h
theorem dm_of {H H' : Hp} {d c : Addr} {n : Nat} (D : Deck H' d c n) (s : Same (hid d c H) (hid d c H')) : Dm H H' := fun b h => by
  obtain ⟨h1, h2⟩ := D.ne h
  have q := s.free (l := b) (by rw [hid_ne h1 h2]; exact h)
  rw [hid_ne h1 h2] at q
  exact q
theorem Dm.trans {H H1 H2 : Hp} (a : Dm H H1) (b : Dm H1 H2) : Dm H H2 := fun x h => a x (b x h)
theorem frs_sub {H H' : Hp} : Same (frs H H') H' := fun b o h => (frs_some h).2
theorem frs_back {H0 H H' : Hp} (m : Dm H0 H) : Same (frs H H') (frs H0 H') := fun b o h => by
  obtain ⟨h1, h2⟩ := frs_some h
  rw [frs_new (m b h1)]
  exact h2
theorem frs_on {H H1 H2 : Hp} {d c : Addr} {n : Nat} (D : Deck H d c n) (s : Same (hid d c H1) (hid d c H2)) : Same (frs H H1) (frs H H2) := fun b o h => by
  obtain ⟨h1, h2⟩ := frs_some h
  obtain ⟨a1, a2⟩ := D.ne h1
  rw [frs_new h1, ← hid_ne a1 a2 (H := H2)]
  exact s b o (by rw [hid_ne a1 a2]; exact h2)
theorem frs_hid {H H' : Hp} {d c : Addr} {n : Nat} (D : Deck H d c n) : Same (frs H H') (hid d c H') := fun b o h => by
  obtain ⟨h1, h2⟩ := frs_some h
  obtain ⟨a1, a2⟩ := D.ne h1
  rw [hid_ne a1 a2]
  exact h2
/-- a write to what was there is not seen -/
theorem frs_old {H H' : Hp} {p : Addr} {o u : HO} (h : H p = some u) : frs H (upd H' p o) = frs H H' := by
  funext b
  unfold frs
  cases e : H b with
  | some _ => rfl
  | none => exact upd_ne fun z => by rw [z, h] at e; cases e
theorem frs_up {H H' : Hp} {p : Addr} {o : HO} (h : H' p = none) : Same (frs H H') (frs H (upd H' p o)) := fun b u q => by
  obtain ⟨h1, h2⟩ := frs_some q
  rw [frs_new h1, upd_ne (ne_of_none h2 h)]
  exact h2
theorem datAll_snoc {H : Hp} : ∀ {ds : List PyData} {xs : List V} {d : PyData} {y : V}, DatAll H ds xs → Dat H d y → DatAll H (ds ++ [d]) (xs ++ [y])
  | [], xs, d, y, h, q => by
    simp only [DatAll] at h
    subst h
    simp only [List.nil_append, DatAll]
    exact ⟨y, [], rfl, q, rfl⟩
  | e :: ds, xs, d, y, h, q => by
    simp only [DatAll] at h
    obtain ⟨z, zs, rfl, h1, h2⟩ := h
    simp only [List.cons_append, DatAll]
    exact ⟨z, zs ++ [y], rfl, h1, datAll_snoc h2 q⟩
end FA
end

/-! G8 -/
section
namespace FA
open PySem PySem.Spec PyProof.Rows L2
section
variable {X : Cx}
/-- the order of data of one shape -/
def rLtD : R2 := fun x y H Q => ∃ d e, Dat H d x ∧ Dat H e y ∧ PySem.W.alike d e = true ∧ d ≠ .none ∧ d.depth ≤ 60 ∧ Q (.bl (PySem.W.dataLt d e)) H
theorem opLtD {k : Nat} (hr : Room k X.A) : OpR X (compareOp .Lt) rLtD := by
  intro pins s σ H x y v u Q I rx ry h
  obtain ⟨d, e, hd, he, ha, hn, hdp, q⟩ := h
  obtain ⟨as, r1, _⟩ := reads_of I.hok d _ _ hd rx
  obtain ⟨bs, r2, _⟩ := reads_of I.hok e _ _ he ry
  have hu := hr.units
  have hm : min d.depth e.depth ≤ d.depth := Nat.min_le_left _ _
  exact PySem.W.rcLt_alike d e X.A s _ _ as bs r1 r2 ha hn (by omega) _ _ _ _ ⟨.bl _, H, I, rfl, q⟩
end
/-- what repr asks -/
structure Rp (d : PyData) : Prop where
  sh : d.showable = true
  dp : d.depth ≤ 60
  ln : d.shown.length ≤ sizeLine
theorem Okd.rp {D W : Nat} {d : PyData} (h : Okd D W d) (hD : D ≤ 60) (hW : W ≤ 270000) : Rp d := ⟨h.sh, Nat.le_trans h.dp hD, h.fits hW⟩
theorem rp_bools (a b c e : Bool) : Rp (.list [.bool a, .bool b, .bool c, .bool e]) :=
  Okd.rp (okd_list (oks_cons (W := 0) okd_bool (oks_cons (W := 0) okd_bool (oks_cons (W := 0) okd_bool (oks_cons (W := 0) okd_bool (oks_nil (D := 0) (W := 0))))))) (by decide) (by decide)
theorem rp_bools3 (a b c : Bool) : Rp (.list [.bool a, .bool b, .bool c]) :=
  Okd.rp (okd_list (oks_cons (W := 0) okd_bool (oks_cons (W := 0) okd_bool (oks_cons (W := 0) okd_bool (oks_nil (D := 0) (W := 0)))))) (by decide) (by decide)
theorem rp_strs2 {a b : Str} (ha : Low a) (hb : Low b) (la : a.length ≤ 100) (lb : b.length ≤ 100) : Rp (.list [.str a, .str b]) :=
  Okd.rp (okd_list (oks_cons (okd_str ha la) (oks_cons (okd_str hb lb) (oks_nil (D := 0) (W := 0))))) (by decide) (by decide)
theorem strEq {x y : Str} (h : x = y) : (!decide (V.str x = V.str y)) = false := by rw [h, decide_eq_true rfl]; rfl
end FA
end

/-! M6 -/
section
namespace FA
open PySem PySem.Spec PyProof.Rows L2
/-! the deck whose second key is "mixed" -/
def mKvs (c : Addr) (t n : Int) : List (Key × V) := [(.inr "cells", .ref c), (.inr "mixed", .int t), (.inr "draws", .int n)]
/-- a deck at d, its cells at c, at most n draws so far -/
structure MDeck (H : Hp) (d c : Addr) (n : Nat) : Prop where
  is : ∃ (t m : Int) (cs : List Int), H d = some (.dK (mKvs c t m)) ∧ H c = some (.lst (cs.map V.int)) ∧ cs.length ≤ 63 ∧ 0 ≤ m ∧ m ≤ n
theorem MDeck.same {H H' : Hp} {d c : Addr} {n : Nat} (D : MDeck H d c n) (s : Same H H') : MDeck H' d c n := by
  obtain ⟨t, m, cs, h1, h2, h⟩ := D.is
  exact ⟨t, m, cs, s _ _ h1, s _ _ h2, h⟩
theorem MDeck.mono {H : Hp} {d c : Addr} {n k : Nat} (D : MDeck H d c n) (h : n ≤ k) : MDeck H d c k := by
  obtain ⟨t, m, cs, h1, h2, h3, h4, h5⟩ := D.is
  exact ⟨t, m, cs, h1, h2, h3, h4, by omega⟩
theorem MDeck.ne {H : Hp} {d c p : Addr} {n : Nat} (D : MDeck H d c n) (h : H p = none) : p ≠ d ∧ p ≠ c := by
  obtain ⟨t, m, cs, h1, h2, _⟩ := D.is
  exact ⟨fun e => (by rw [e, h1] at h; cases h), fun e => (by rw [e, h2] at h; cases h)⟩
theorem MDeck.dc {H : Hp} {d c : Addr} {n : Nat} (D : MDeck H d c n) : d ≠ c := by
  obtain ⟨t, m, cs, h1, h2, _⟩ := D.is
  exact ne_of h1 h2 (by intro z; cases z)
/-- a draw's promise -/
def spDrawM : Sp := fun vs H Q _ => ∃ (d c : Addr) (n : Nat) (m : Int), vs = [.ref d, .int m] ∧ MDeck H d c n ∧ n ≤ 1000000 ∧ 0 < m ∧ m.natAbs < 2 ^ 64 ∧
  ∀ r H', 0 ≤ r → r < m → MDeck H' d c (n + 1) → Same (hid d c H) (hid d c H') → Q (.int r) H'
/-- a pick's: of a list, of a text -/
def spPickM : Sp := fun vs H Q _ => ∃ (d c : Addr) (n : Nat) (u : V), vs = [.ref d, u] ∧ MDeck H d c n ∧ n ≤ 1000000 ∧
  ((∃ a xs, u = .ref a ∧ hid d c H a = some (.lst xs) ∧ 0 < xs.length ∧ xs.length ≤ 1000000 ∧
      ∀ (j : Nat) x H', xs[j]? = some x → MDeck H' d c (n + 1) → Same (hid d c H) (hid d c H') → Q x H') ∨
   (∃ z, u = .str z ∧ 0 < z.length ∧ z.length ≤ 1000000 ∧
      ∀ k H', k ∈ z.cps.toList → MDeck H' d c (n + 1) → Same (hid d c H) (hid d c H') → Q (.str ⟨#[k]⟩) H'))
theorem mk_cells {c : Addr} {t n : Int} : valV (mKvs c t n) (Sum.inr "cells") = some (.ref c) := by kernel_rfl
theorem mk_mixed {c : Addr} {t n : Int} : valV (mKvs c t n) (Sum.inr "mixed") = some (.int t) := by kernel_rfl
theorem mk_draws {c : Addr} {t n : Int} : valV (mKvs c t n) (Sum.inr "draws") = some (.int n) := by kernel_rfl
theorem mk_put {c : Addr} {t n k : Int} : putK (mKvs c t n) (Sum.inr "draws") (.int k) = mKvs c t k := by kernel_rfl
theorem mk_merge {c : Addr} {t n : Int} : mergeK [] (mKvs c t n) = mKvs c t n := by kernel_rfl
theorem mg_cells {H : Hp} {d c : Addr} {t n : Int} (h : H d = some (.dK (mKvs c t n))) : DGet H d (.str "cells") (some (.ref c)) := by
  have z := DGet.k (k := Sum.inr "cells") h
  rw [mk_cells] at z
  exact z
theorem mg_mixed {H : Hp} {d c : Addr} {t n : Int} (h : H d = some (.dK (mKvs c t n))) : DGet H d (.str "mixed") (some (.int t)) := by
  have z := DGet.k (k := Sum.inr "mixed") h
  rw [mk_mixed] at z
  exact z
theorem mg_draws {H : Hp} {d c : Addr} {t n : Int} (h : H d = some (.dK (mKvs c t n))) : DGet H d (.str "draws") (some (.int n)) := by
  have z := DGet.k (k := Sum.inr "draws") h
  rw [mk_draws] at z
  exact z
theorem mp_draws {H : Hp} {d c : Addr} {t n k : Int} (h : H d = some (.dK (mKvs c t n))) : DPut H d (.str "draws") (.int k) (upd H d (.dK (mKvs c t k))) := by
  have z := DPut.k (k := Sum.inr "draws") (v := .int k) h (by show 3 < sizeLine; decide)
  rw [mk_put] at z
  exact z
theorem MDeck.upd {H : Hp} {d c p : Addr} {n : Nat} {o : HO} (D : MDeck H d c n) (h1 : p ≠ d) (h2 : p ≠ c) : MDeck (L2.upd H p o) d c n := by
  obtain ⟨t, m, cs, e1, e2, h⟩ := D.is
  exact ⟨t, m, cs, by rw [upd_ne h1.symm]; exact e1, by rw [upd_ne h2.symm]; exact e2, h⟩
theorem dmM_of {H H' : Hp} {d c : Addr} {n : Nat} (D : MDeck H' d c n) (s : Same (hid d c H) (hid d c H')) : Dm H H' := fun b h => by
  obtain ⟨h1, h2⟩ := D.ne h
  have q := s.free (l := b) (by rw [hid_ne h1 h2]; exact h)
  rw [hid_ne h1 h2] at q
  exact q
theorem frsM_on {H H1 H2 : Hp} {d c : Addr} {n : Nat} (D : MDeck H d c n) (s : Same (hid d c H1) (hid d c H2)) : Same (frs H H1) (frs H H2) := fun b o h => by
  obtain ⟨h1, h2⟩ := frs_some h
  obtain ⟨a1, a2⟩ := D.ne h1
  rw [frs_new h1, ← hid_ne a1 a2 (H := H2)]
  exact s b o (by rw [hid_ne a1 a2]; exact h2)
theorem frsM_hid {H H' : Hp} {d c : Addr} {n : Nat} (D : MDeck H d c n) : Same (frs H H') (hid d c H') := fun b o h => by
  obtain ⟨h1, h2⟩ := frs_some h
  obtain ⟨a1, a2⟩ := D.ne h1
  rw [hid_ne a1 a2]
  exact h2
end FA
end

/-! F1 -/
section
namespace FA
open PySem PySem.Spec PyProof.Rows L2
/-! x + y by an own __add__, both of one own class -/
section
variable {prog : Program} {w : World} {A : Around} {E : Value → Shared → Prop} {K : PySem.W.Frag} {h : Heap} {g : Array GenState} {d : Drawn} {t : Nat} {os : OsState}
  {a b C f : Addr} {oa ob : Obj} {da db : Option Obj}
theorem dd_add : dunder "add" = ("__add__" : Str) := by decide +kernel
theorem fills_add {cd : ClassData} {rest : List Value} (kin : K.In h) (hc : PySem.W.clsIn K C = some cd) (hm : cd.mro = .ref C :: rest)
    (hf : PySem.W.findIn K (.ref C) "__add__" = some (some (.ref f))) {Q : Bool → Shared → Prop}
    (k : Q true { heap := h, gens := g, drawn := d, toks := t, os := os }) :
    wpAny (model prog w) A (fillsNumberSlot (.ref C) "add") Q E { heap := h, gens := g, drawn := d, toks := t, os := os } := by
  unfold fillsNumberSlot
  refine wpAny_bind (wpAny_bind ((PySem.W.looks_clsIn kin hc).at (wpAny_pure ?_)))
  rw [hm, dd_add]
  refine wpAny_bind ?_
  refine wpAny_bind ?_
  refine wpAny_bind ((PySem.W.looks_findIn kin hf).at ?_)
  exact wpAny_ite_true (by rfl) (wpAny_pure (wpAny_pure (wpAny_pure k)))
theorem bin_add {cd : ClassData} {rest : List Value} {Q : Value → Shared → Prop} (kin : K.In h) (hc : PySem.W.clsIn K C = some cd) (hm : cd.mro = .ref C :: rest)
    (hf : PySem.W.findIn K (.ref C) "__add__" = some (some (.ref f))) (ht : PySem.W.typeIn K (.ref f) = some (.type "function"))
    (ia : PySem.W.InstAt h a oa C da) (ib : PySem.W.InstAt h b ob C db)
    (k : codeAny (model prog w) A (.call (.ref f) ⟨[.ref a, .ref b], []⟩) (fun r s' => match r with
        | .ok (.ret v) => v ≠ .notImplemented ∧ Q v s'
        | .ok _ => False
        | .error e => E e s') { heap := h, gens := g, drawn := d, toks := t, os := os }) :
    wpAny (model prog w) A (binaryOp .Add (.ref a) (.ref b)) Q E { heap := h, gens := g, drawn := d, toks := t, os := os } := by
  unfold binaryOp
  refine wpAny_holding (wpAny_bind ?_)
  show wpAny _ _ (binaryOp1 "add" (.ref a) (.ref b)) _ _ _
  unfold binaryOp1
  refine wpAny_bind (ia.type.at ?_)
  refine wpAny_bind (ib.type.at ?_)
  refine wpAny_bind (fills_add kin hc hm hf ?_)
  refine wpAny_ite_true (by simp) (wpAny_bind (wpAny_pure ?_))
  refine wpAny_ite_false (by rfl) ?_
  refine wpAny_ite_false (by rfl) ?_
  refine wpAny_ite_false (by rfl) (wpAny_bind (wpAny_pure ?_))
  refine wpAny_ite_false (by rfl) ?_
  refine wpAny_ite_true (by rfl) ?_
  refine wpAny_bind ?_
  unfold tryMethod
  refine wpAny_bind ?_
  unfold callSpecial? specialOf
  rw [dd_add]
  refine wpAny_bind (wpAny_bind (ia.type.at ?_))
  refine (PySem.W.looks_findIn kin hf).at ?_
  refine wpAny_holding (wpAny_bind ((PySem.W.bind_fn kin (.ref a) ht).at ?_))
  refine wpAny_bind (wpAny_call (codeAny_mono k fun r s' z => ?_))
  cases r with
  | error e => exact z
  | ok fl =>
    cases fl with
    | brk => exact z
    | cont => exact z
    | next => exact z
    | ret v =>
      obtain ⟨ne, z⟩ := z
      refine wpAny_pure ?_
      cases v with
      | notImplemented => exact absurd rfl ne
      | _ => exact wpAny_pure (wpAny_pure (wpAny_pure z))
end
theorem inst_at {P : Program} {w : World} {H : Hp} {h : Heap} {a C dx : Addr} {fs : List (Str × V)} (hok : HOk P w H h) (ha : H a = some (.ins C dx fs)) : ∃ oa da, PySem.W.InstAt h a oa C da := by
  obtain ⟨_, _, _, e, mA, n1, _⟩ := hok a _ ha
  obtain ⟨od, es, ep, eod, _⟩ := id n1
  exact ⟨_, some od, e, rfl, rfl, eod⟩
/-- a class with an own operator method -/
structure Ocl (K : PySem.W.Frag) (C : Addr) (m : Str) (f : Addr) : Prop where
  cl : ∃ cd rest, PySem.W.clsIn K C = some cd ∧ cd.mro = .ref C :: rest
  at_ : PySem.W.findIn K (.ref C) m = some (some (.ref f))
  fn : PySem.W.typeIn K (.ref f) = some (.type "function")
def rAddO (C : Addr) (sp : Sp) (x y : V) (H : Hp) (Q : VK) : Prop := ∃ (a b dxa dxb : Addr) (fa fb : List (Str × V)), x = .ref a ∧ y = .ref b ∧ H a = some (.ins C dxa fa) ∧ H b = some (.ins C dxb fb) ∧ sp [.ref a, .ref b] H Q E0
theorem op_addO {X : Cx} {k : Nat} {f C : Addr} {fd : FuncData} {ps : List Str} {sp : Sp} (O : Ocl X.K C "__add__" f) (F : FnG X.prog X.w X.K X.mg X.base CX0 k f fd ps sp) (hgd : X.A.guards = some []) (hr : Room k X.A)
    (hb : Binds X.K fd ps []) : OpR X (binaryOp .Add) (rAddO C sp) := by
  rintro pins s σ H x y u v Q I r1 r2 ⟨a, b, dxa, dxb, fa, fb, rfl, rfl, ha, hb2, h⟩
  obtain rfl : u = .ref a := r1
  obtain rfl : v = .ref b := r2
  obtain ⟨oa, da, ia⟩ := inst_at I.hok ha
  obtain ⟨ob, db, ib⟩ := inst_at I.hok hb2
  obtain ⟨cd, rest, hc, hm⟩ := O.cl
  have rv : Vals [V.ref a, V.ref b] [Value.ref a, Value.ref b] := .cons rfl (.cons rfl .nil)
  have hl : ([Value.ref a, Value.ref b] ++ []).length = ps.length := rv.length.symm.trans (F.size _ _ _ _ h)
  have bd := hb s [.ref a, .ref b] I.kIn hl
  rw [List.append_nil] at bd
  have z := F.go X.A X.stack s H ⟨[.ref a, .ref b], []⟩ _ _ Q E0 hr hgd I.env0 bd rv h
  refine bin_add I.kIn hc hm O.at_ O.fn ia ib (codeAny_mono z fun r s' q => ?_)
  cases r with
  | error e => exact q.elim
  | ok fl =>
    cases fl with
    | brk => exact q.elim
    | cont => exact q.elim
    | next => exact q.elim
    | ret u =>
      have e := I.after q
      refine ⟨?_, e⟩
      obtain ⟨v, H', I2, rv, _⟩ := e
      rintro rfl
      cases v with
      | int i => obtain ⟨t, z⟩ := rv; cases z
      | str i => obtain ⟨t, z⟩ := rv; cases z
      | byt i => obtain ⟨t, z⟩ := rv; cases z
      | flt i => obtain ⟨t, z⟩ := rv; cases z
      | _ => cases rv
end FA
end

/-! F2 -/
section
namespace FA
open PySem PySem.Spec PyProof.Rows L2
/-! v in x by an own __contains__ that hands back a bool -/
section
variable {prog : Program} {w : World} {A : Around} {E : Value → Shared → Prop} {K : PySem.W.Frag} {h : Heap} {g : Array GenState} {d : Drawn} {t : Nat} {os : OsState}
  {a C f : Addr} {oa : Obj} {da : Option Obj} {v : Value}
theorem has_own {Q : Bool → Shared → Prop} (kin : K.In h) (hf : PySem.W.findIn K (.ref C) "__contains__" = some (some (.ref f))) (ht : PySem.W.typeIn K (.ref f) = some (.type "function"))
    (ia : PySem.W.InstAt h a oa C da)
    (k : codeAny (model prog w) A (.call (.ref f) ⟨[.ref a, v], []⟩) (fun r s' => match r with
        | .ok (.ret u) => ∃ b, u = .bool b ∧ Q b s'
        | .ok _ => False
        | .error e => E e s') { heap := h, gens := g, drawn := d, toks := t, os := os }) :
    wpAny (model prog w) A (contains (.ref a) v) Q E { heap := h, gens := g, drawn := d, toks := t, os := os } := by
  unfold contains
  refine wpAny_holding ?_
  unfold specialOf
  refine wpAny_bind (wpAny_bind (ia.type.at ?_))
  refine (PySem.W.looks_findIn kin hf).at ?_
  refine wpAny_ite_false (by rfl) ?_
  refine wpAny_bind ?_
  unfold callSpecialUnlessNone? specialOf
  refine wpAny_bind (wpAny_bind (ia.type.at ?_))
  refine (PySem.W.looks_findIn kin hf).at ?_
  refine wpAny_holding (wpAny_bind ((PySem.W.bind_fn kin (.ref a) ht).at ?_))
  refine wpAny_ite_false (by rfl) ?_
  refine wpAny_bind (wpAny_call (codeAny_mono k fun r s' z => ?_))
  cases r with
  | error e => exact z
  | ok fl =>
    cases fl with
    | brk => exact z
    | cont => exact z
    | next => exact z
    | ret u =>
      obtain ⟨b, rfl, z⟩ := z
      exact wpAny_pure (wpAny_pure z)
end
/-- v in x, v not in x -/
def rHasO (C : Addr) (sp : Sp) (neg : Bool) (x y : V) (H : Hp) (Q : VK) : Prop := ∃ (a dx : Addr) (fs : List (Str × V)), y = .ref a ∧ H a = some (.ins C dx fs) ∧ sp [.ref a, x] H (fun v H' => ∃ b, v = .bl b ∧ Q (.bl (if neg = true then !b else b)) H') E0
section
variable {X : Cx} {k : Nat} {f C : Addr} {fd : FuncData} {ps : List Str} {sp : Sp}
theorem has_run {pins : List (Addr × Obj)} {s : Shared} {σ : L2.St} {H : Hp} {x : V} {u : Value} {a dx : Addr} {fs : List (Str × V)} {Q : Bool → Hp → Prop} {R : Bool → Shared → Prop} (O : Ocl X.K C "__contains__" f)
    (F : FnG X.prog X.w X.K X.mg X.base CX0 k f fd ps sp) (hgd : X.A.guards = some []) (hr : Room k X.A) (hb : Binds X.K fd ps []) (I : Inv X pins σ H s) (r : RelV x u) (ha : H a = some (.ins C dx fs))
    (h : sp [.ref a, x] H (fun v H' => ∃ b, v = .bl b ∧ Q b H') E0) (k2 : ∀ b H' s', Inv X pins σ H' s' → Q b H' → R b s') :
    wpAny (model X.prog X.w) X.A (contains (.ref a) u) R X.xe s := by
  obtain ⟨oa, da, ia⟩ := inst_at I.hok ha
  have rv : Vals [V.ref a, x] [Value.ref a, u] := .cons rfl (.cons r .nil)
  have hl : ([Value.ref a, u] ++ []).length = ps.length := rv.length.symm.trans (F.size _ _ _ _ h)
  have bd := hb s [.ref a, u] I.kIn hl
  rw [List.append_nil] at bd
  have z := F.go X.A X.stack s H ⟨[.ref a, u], []⟩ _ _ _ E0 hr hgd I.env0 bd rv h
  refine has_own I.kIn O.at_ O.fn ia (codeAny_mono z fun r s' q => ?_)
  cases r with
  | error e => exact q.elim
  | ok fl =>
    cases fl with
    | brk => exact q.elim
    | cont => exact q.elim
    | next => exact q.elim
    | ret u =>
      obtain ⟨v, H', I2, rv, b, rfl, q2⟩ := I.after q
      obtain rfl : u = .bool b := rv
      exact ⟨b, rfl, k2 b H' s' I2 q2⟩
theorem op_inO (O : Ocl X.K C "__contains__" f) (F : FnG X.prog X.w X.K X.mg X.base CX0 k f fd ps sp) (hgd : X.A.guards = some []) (hr : Room k X.A) (hb : Binds X.K fd ps []) :
    OpR X (compareOp .In) (rHasO C sp false) := by
  rintro pins s σ H x y u v Q I r1 r2 ⟨a, dx, fs, rfl, ha, h⟩
  obtain rfl : v = .ref a := r2
  refine wpAny_bind (has_run (Q := fun b H' => Q (.bl b) H') O F hgd hr hb I r1 ha h fun b H' s' I2 q => ?_)
  exact wpAny_pure ⟨.bl b, H', I2, rfl, q⟩
theorem op_notInO (O : Ocl X.K C "__contains__" f) (F : FnG X.prog X.w X.K X.mg X.base CX0 k f fd ps sp) (hgd : X.A.guards = some []) (hr : Room k X.A) (hb : Binds X.K fd ps []) :
    OpR X (compareOp .NotIn) (rHasO C sp true) := by
  rintro pins s σ H x y u v Q I r1 r2 ⟨a, dx, fs, rfl, ha, h⟩
  obtain rfl : v = .ref a := r2
  refine wpAny_bind (has_run (Q := fun b H' => Q (.bl (!b)) H') O F hgd hr hb I r1 ha h fun b H' s' I2 q => ?_)
  exact wpAny_pure ⟨.bl (!b), H', I2, rfl, q⟩
end
end FA
end

/-! F3 -/
section
namespace FA
open PySem PySem.Spec PyProof.Rows L2
/-! x == y by an own __eq__, both of one own class -/
section
variable {prog : Program} {w : World} {A : Around} {E : Value → Shared → Prop} {K : PySem.W.Frag} {h : Heap} {g : Array GenState} {d : Drawn} {t : Nat} {os : OsState}
  {a b C f : Addr} {oa ob : Obj} {da db : Option Obj}
theorem eq_own {Q : Value → Shared → Prop} (hu : A.units + 1 < cLine) (kin : K.In h) (hf : PySem.W.findIn K (.ref C) "__eq__" = some (some (.ref f))) (ht : PySem.W.typeIn K (.ref f) = some (.type "function"))
    (ia : PySem.W.InstAt h a oa C da) (ib : PySem.W.InstAt h b ob C db)
    (k : codeAny (model prog w) A (.call (.ref f) ⟨[.ref a, .ref b], []⟩) (fun r s' => match r with
        | .ok (.ret u) => u ≠ .notImplemented ∧ Q u s'
        | .ok _ => False
        | .error e => E e s') { heap := h, gens := g, drawn := d, toks := t, os := os }) :
    wpAny (model prog w) A (compareOp .Eq (.ref a) (.ref b)) Q E { heap := h, gens := g, drawn := d, toks := t, os := os } := by
  show wpAny _ _ (richCompare .Eq (.ref a) (.ref b)) _ _ _
  unfold richCompare
  refine wpAny_holding (wpAny_bind (wpAny_cRoomFor ?_ ?_))
  · omega
  refine wpAny_bind (ia.type.at ?_)
  refine wpAny_bind (ib.type.at ?_)
  refine wpAny_ite_false (by simp) (wpAny_bind (wpAny_pure ?_))
  refine wpAny_ite_false (by rfl) ?_
  refine wpAny_bind ?_
  unfold tryCompare
  refine wpAny_bind ?_
  unfold callSpecialIfBound?
  refine wpAny_holding (wpAny_bind ?_)
  unfold bindSpecialIfBound? specialOf
  refine wpAny_bind (wpAny_bind (ia.type.at ?_))
  refine (PySem.W.looks_findIn kin hf).at ?_
  refine wpAny_bind (wpAny_askSetting ?_)
  have run : ∀ {E' : Value → Shared → Prop} {R : Option (Value × List Value) → Shared → Prop}, R (some (.ref f, [.ref a])) { heap := h, gens := g, drawn := d, toks := t, os := os } →
      wpAny (model prog w) A (do let x ← bindSpecial (.ref f) (.ref a); pure (some x)) R E' { heap := h, gens := g, drawn := d, toks := t, os := os } := fun q =>
    wpAny_bind ((PySem.W.bind_fn kin (.ref a) ht).at (wpAny_pure q))
  have go : ∀ R : Option Value → Shared → Prop, (∀ u s', u ≠ Value.notImplemented → Q u s' → R (some u) s') →
      wpAny (model prog w) A (do let u ← call (.ref f) ([.ref a] ++ [.ref b]); pure (some u)) R E { heap := h, gens := g, drawn := d, toks := t, os := os } := fun R hR => by
    refine wpAny_bind (wpAny_call (codeAny_mono k fun r s' z => ?_))
    cases r with
    | error e => exact z
    | ok fl =>
      cases fl with
      | brk => exact z
      | cont => exact z
      | next => exact z
      | ret u => exact wpAny_pure (hR u s' z.1 z.2)
  have fin : ∀ u s', u ≠ Value.notImplemented → Q u s' → wpAny (model prog w) A (match some u with
      | some Value.notImplemented => pure none
      | none => pure none
      | some v => pure (some v)) (fun r s' => ∃ v, r = some v ∧ Q v s') E s' := fun u s' ne q => by
    cases u with
    | notImplemented => exact absurd rfl ne
    | _ => exact wpAny_pure ⟨_, rfl, q⟩
  by_cases cnd : (({ program := (model prog w).prog, params := (model prog w).w.params } : Setting).params.followText "special-get-raises") = true
  · refine wpAny_ite_true (decide_eq_true cnd) (run ?_)
    refine go _ fun u s' ne q => wpAny_mono (fin u s' ne q) (fun r s2 ⟨v, e, q2⟩ => ?_) fun _ _ z => z
    subst e
    exact wpAny_pure q2
  · refine wpAny_ite_false (decide_eq_false cnd) (wpAny_tryCatch (run ?_))
    refine go _ fun u s' ne q => wpAny_mono (fin u s' ne q) (fun r s2 ⟨v, e, q2⟩ => ?_) fun _ _ z => z
    subst e
    exact wpAny_pure q2
end
/-- x == y -/
theorem op_eqO {X : Cx} {k : Nat} {f C : Addr} {fd : FuncData} {ps : List Str} {sp : Sp} (O : Ocl X.K C "__eq__" f) (F : FnG X.prog X.w X.K X.mg X.base CX0 k f fd ps sp) (hgd : X.A.guards = some []) (hr : Room k X.A)
    (hb : Binds X.K fd ps []) : OpR X (compareOp .Eq) (rAddO C sp) := by
  rintro pins s σ H x y u v Q I r1 r2 ⟨a, b, dxa, dxb, fa, fb, rfl, rfl, ha, hb2, h⟩
  obtain rfl : u = .ref a := r1
  obtain rfl : v = .ref b := r2
  obtain ⟨oa, da, ia⟩ := inst_at I.hok ha
  obtain ⟨ob, db, ib⟩ := inst_at I.hok hb2
  have rv : Vals [V.ref a, V.ref b] [Value.ref a, Value.ref b] := .cons rfl (.cons rfl .nil)
  have hl : ([Value.ref a, Value.ref b] ++ []).length = ps.length := rv.length.symm.trans (F.size _ _ _ _ h)
  have bd := hb s [.ref a, .ref b] I.kIn hl
  rw [List.append_nil] at bd
  have z := F.go X.A X.stack s H ⟨[.ref a, .ref b], []⟩ _ _ Q E0 hr hgd I.env0 bd rv h
  have hu : X.A.units + 1 < cLine := Nat.lt_of_le_of_lt (by omega) hr.un
  refine eq_own hu I.kIn O.at_ O.fn ia ib (codeAny_mono z fun r s' q => ?_)
  cases r with
  | error e => exact q.elim
  | ok fl =>
    cases fl with
    | brk => exact q.elim
    | cont => exact q.elim
    | next => exact q.elim
    | ret u =>
      have e := I.after q
      refine ⟨?_, e⟩
      obtain ⟨v, H', I2, rv, _⟩ := e
      rintro rfl
      cases v with
      | int i => obtain ⟨t, z⟩ := rv; cases z
      | str i => obtain ⟨t, z⟩ := rv; cases z
      | byt i => obtain ⟨t, z⟩ := rv; cases z
      | flt i => obtain ⟨t, z⟩ := rv; cases z
      | _ => cases rv
end FA
end

/-! F4 -/
section
namespace FA
open PySem PySem.Spec PyProof.Rows L2
/-! min, max with a default -/
section
variable {prog : Program} {w : World} {A : Around} {E : Value → Shared → Prop} {s : Shared}
theorem call_treeK {id : String} {b : Builtin} {args : List Value} {kw : List (Str × Value)} {Q : Value → Shared → Prop} (hk : builtinKind id = none) (hp : plainId id = true)
    (hb : entryFor table id = some b) (ha : argsOk id ⟨args, kw⟩)
    (hc : wpAny (model prog w) A.in1 (b ⟨args, kw⟩) (fun fin s' => match fin with
      | .done f => (match (Except.ok f : Result) with | .ok (.ret v) => Q v s' | .ok _ => False | .error e => E e s')
      | .again c' => c'.quiet = true ∧ codeAny (model prog w) A c' (fun r s' => match r with | .ok (.ret v) => Q v s' | .ok _ => False | .error e => E e s') s') E s) :
    wpAny (model prog w) A (call (.builtin id) args kw) Q E s := by
  refine wpAny_call (codeAny_call_builtin hp hb ?_)
  simp only [checkBuiltinCall, hk]
  cases hsig : Manifest.signature? id with
  | none => exact wpAny_pure hc
  | some sig =>
    simp only [argsOk, hsig] at ha
    have h2 : Bind.checkArgs id sig ⟨args, kw⟩ = pure () := ha
    show wpAny _ A.in1 (Bind.checkArgs id sig ⟨args, kw⟩) _ _ s
    rw [h2]; exact wpAny_pure hc
end

section
variable {prog : Program} {w : World} {A : Around} {R : Result → Shared → Prop} {I : Addr} {fp wr : List Addr} {n : Nat} {P : Nat → Value → Prop} {St : Nat → Heap → Prop} {dv : Value}
theorem min_loopD (W : Walks prog w A.in1 I fp wr n P St) (bt : Nat → Nat → Bool) (hcmp : CmpOf prog w A.in1 .Lt P bt) (S : Addr) (hSf : S ∉ fp) :
    ∀ (k j : Nat) (s : Shared) (vb : Value) (c : Nat), n - (j + 1) = k → j + 1 ≤ n → St (j + 1) s.heap → P (argBest bt j) vb →
    s.heap.get? S = some { cls := .type "list", dict := none, data := .seq #[vb, vb] c, slots := #[] } →
    (∀ v h' tk, P (argBest bt (n - 1)) v → (∀ b o, b ∉ wr → b ≠ S → s.heap.get? b = some o → h'.get? b = some o) → R (.ok (.ret v)) { s with heap := h', toks := tk }) →
    codeAny (model prog w) A (.builtin "min.loop" ⟨[.ref I, .none, .ref S], [("default", dv)]⟩) R s := by
  have hSw : S ∉ wr := fun h => hSf (W.sub _ h)
  have hname : (toString "min" ++ toString ".loop" : String) = "min.loop" := by decide
  intro k
  induction k with
  | zero =>
    intro j s vb c hk hj hst hPb hS hR
    have hin : j + 1 = n := by omega
    refine codeAny_builtin F.entry_min_loop ?_
    rw [Around.under_plainId F.plain_min_loop _]
    show wpAny _ A.in1 (seqItems? (.ref S) >>= _) _ _ s
    refine wpAny_bind (wpAny_seqItems hS rfl ?_)
    show wpAny _ A.in1 (tryCatch (pyNext (.ref I)) _ >>= _) _ _ s
    refine wpAny_bind (wpAny_tryCatch (W.done s _ _ (hin ▸ hst) fun h' tk hk' => ?_))
    have hS' := hk' S _ hSw hS
    show wpAny _ A.in1 (updateSeq S (fun _ => #[]) >>= _) _ _ _
    refine wpAny_bind ?_
    refine wpAny_updateSeq hS' rfl (wpAny_bind (wpAny_letGo (wpAny_pure ?_)))
    refine hR vb _ tk (by rw [← hin]; exact hPb) fun b o hbw hbS e => (Heap.get?_update_other _ _ (Ne.symm hbS)).trans (hk' b o hbw e)
  | succ k ih =>
    intro j s vb c hk hj hst hPb hS hR
    have hlt : j + 1 < n := by omega
    refine codeAny_builtin F.entry_min_loop ?_
    rw [Around.under_plainId F.plain_min_loop _]
    show wpAny _ A.in1 (seqItems? (.ref S) >>= _) _ _ s
    refine wpAny_bind (wpAny_seqItems hS rfl ?_)
    show wpAny _ A.in1 (tryCatch (pyNext (.ref I)) _ >>= _) _ _ s
    refine wpAny_bind (wpAny_tryCatch (W.item (j + 1) s _ _ hlt hst fun v h' tk hP hst' hk' => ?_))
    have hS' := hk' S _ hSw hS
    show wpAny _ A.in1 (tryCatch (holding [v, v] (richCompare .Lt v vb >>= _)) _ >>= _) _ _ _
    refine wpAny_bind (wpAny_tryCatch (wpAny_holding (wpAny_bind (hcmp (j + 1) (argBest bt j) v vb _ _ _ hP hPb ?_))))
    refine wpAny_bind (wpAny_holding (wpAny_truthy_bool ?_))
    refine wpAny_bind (wpAny_letGo (wpAny_pure ?_))
    cases hb : bt (j + 1) (argBest bt j) with
    | true =>
      simp only [if_true]
      refine wpAny_bind ?_
      refine wpAny_updateSeq hS' rfl (wpAny_bind (wpAny_letGo ?_))
      rw [hname]
      refine wpAny_pure ⟨plainId_quiet F.plain_min_loop _, ih (j + 1) _ v _ (by omega) hlt (W.frame _ _ _ hst' fun b hbf o e => ?_) (by simp only [argBest, hb, if_true]; exact hP) (Heap.get?_update_self _ hS' rfl)
        fun v' h'' tk'' hP' hk'' => ?_⟩
      · exact (Heap.get?_update_other _ _ (fun h : S = b => hSf (by rw [h]; exact hbf))).trans e
      · exact hR v' h'' tk'' hP' fun b o hbw hbS e => hk'' b o hbw hbS ((Heap.get?_update_other _ _ (Ne.symm hbS)).trans (hk' b o hbw e))
    | false =>
      simp only [Bool.false_eq_true, if_false]
      refine wpAny_bind (wpAny_letGo ?_)
      rw [hname]
      refine wpAny_pure ⟨plainId_quiet F.plain_min_loop _, ih (j + 1) _ vb c (by omega) hlt hst' (by simp only [argBest, hb, Bool.false_eq_true, if_false]; exact hPb) hS' fun v' h'' tk'' hP' hk'' => ?_⟩
      exact hR v' h'' tk'' hP' fun b o hbw hbS e => hk'' b o hbw hbS (hk' b o hbw e)
theorem min_loop_firstD (W : Walks prog w A.in1 I fp wr n P St) (bt : Nat → Nat → Bool) (hcmp : CmpOf prog w A.in1 .Lt P bt) (S : Addr) (hSf : S ∉ fp) {s : Shared} {c : Nat} (hst : St 0 s.heap)
    (hS : s.heap.get? S = some { cls := .type "list", dict := none, data := .seq #[] c, slots := #[] })
    (hR : ∀ v h' tk, (n = 0 ∧ v = dv ∨ 0 < n ∧ P (argBest bt (n - 1)) v) → (∀ b o, b ∉ wr → b ≠ S → s.heap.get? b = some o → h'.get? b = some o) → R (.ok (.ret v)) { s with heap := h', toks := tk }) :
    codeAny (model prog w) A (.builtin "min.loop" ⟨[.ref I, .none, .ref S], [("default", dv)]⟩) R s := by
  have hSw : S ∉ wr := fun h => hSf (W.sub _ h)
  have hname : (toString "min" ++ toString ".loop" : String) = "min.loop" := by decide
  refine codeAny_builtin F.entry_min_loop ?_
  rw [Around.under_plainId F.plain_min_loop _]
  show wpAny _ A.in1 (seqItems? (.ref S) >>= _) _ _ s
  refine wpAny_bind (wpAny_seqItems hS rfl ?_)
  show wpAny _ A.in1 (tryCatch (pyNext (.ref I)) _ >>= _) _ _ s
  by_cases hn : n = 0
  · refine wpAny_bind (wpAny_tryCatch (W.done s _ _ (hn ▸ hst) fun h' tk hk' => ?_))
    show wpAny _ A.in1 (rule "min.default" >>= fun _ => ret dv) _ _ _
    exact wpAny_bind (wpAny_rule (wpAny_pure (hR dv h' tk (.inl ⟨hn, rfl⟩) fun b o hb _ e => hk' b o hb e)))
  have hn : 0 < n := by omega
  refine wpAny_bind (wpAny_tryCatch (W.item 0 s _ _ hn hst fun v h' tk hP hst' hk' => ?_))
  have hS' := hk' S _ hSw hS
  show wpAny _ A.in1 (updateSeq S (fun _ => #[v, v]) >>= _) _ _ _
  refine wpAny_bind ?_
  refine wpAny_updateSeq hS' rfl ?_
  rw [hname]
  refine wpAny_pure ⟨plainId_quiet F.plain_min_loop _, min_loopD W bt hcmp S hSf _ 0 _ v _ rfl hn (W.frame _ _ _ hst' fun b hbf o e => ?_) hP (Heap.get?_update_self _ hS' rfl) fun v' h'' tk'' hP' hk'' => ?_⟩
  · exact (Heap.get?_update_other _ _ (fun h : S = b => hSf (by rw [h]; exact hbf))).trans e
  · exact hR v' h'' tk'' (.inr ⟨hn, hP'⟩) fun b o hbw hbS e => hk'' b o hbw hbS ((Heap.get?_update_other _ _ (Ne.symm hbS)).trans (hk' b o hbw e))
end
section
variable {prog : Program} {w : World} {A : Around} {E : Value → Shared → Prop} {s : Shared} {dv : Value}
theorem args_minD (a d : Value) : argsOk "min" ⟨[a], [("default", d)]⟩ := by unfold argsOk; kernel_rfl
theorem call_min_walkD {x : Value} {Q : Value → Shared → Prop}
    (h : wpAny (model prog w) A.in1 (pyIter x) (fun it s₂ => ∃ I fp wr n P St bt, it = .ref I ∧ Walks prog w A.in1 I fp wr n P St ∧ St 0 s₂.heap ∧ (∀ b ∈ fp, b < s₂.heap.objs.size) ∧ CmpOf prog w A.in1 .Lt P bt ∧
      ∀ v h' tk, (n = 0 ∧ v = dv ∨ 0 < n ∧ P (argBest bt (n - 1)) v) → (∀ b o, b ∉ wr → s₂.heap.get? b = some o → h'.get? b = some o) → Q v { s₂ with heap := h', toks := tk }) E s) :
    wpAny (model prog w) A (call (.builtin "min") [x] [("default", dv)]) Q E s := by
  have hname : (toString "min" ++ toString ".loop" : String) = "min.loop" := by decide
  refine call_treeK F.kind_min F.plain_min F.entry_min (args_minD _ _) ?_
  show wpAny _ A.in1 (Builtin.Builtins.bindParams "min" ["key", "default"] 0 ⟨[], [("default", dv)]⟩ >>= _) _ _ s
  refine wpAny_bind (wpAny_of_eq (show Builtin.Builtins.bindParams "min" ["key", "default"] 0 ⟨[], [("default", dv)]⟩ = pure [none, some dv] from rfl) ?_)
  refine wpAny_bind (wpAny_pure ?_)
  refine wpAny_bind (wpAny_mono h (fun it s₂ h₂ => ?_) fun _ _ e => e)
  obtain ⟨I, fp, wr, n, P, St, bt, rfl, W, hst, hfp, hcmp, hQ⟩ := h₂
  refine wpAny_bind (wpAny_newObj_type ?_)
  have hSf : s₂.heap.objs.size ∉ fp := fun hm => Nat.lt_irrefl _ (hfp _ hm)
  rw [hname]
  refine wpAny_pure ⟨plainId_quiet F.plain_min_loop _, min_loop_firstD W bt hcmp s₂.heap.objs.size hSf (W.frame _ _ _ hst fun b _ o e => Heap.get?_push_of_some _ e) (Heap.get?_push_size _ rfl) fun v h' tk hP hk => ?_⟩
  exact hQ v h' tk hP fun b o hbw e => hk b o hbw (Nat.ne_of_lt (Heap.lt_size e)) (Heap.get?_push_of_some _ e)
theorem min_rawD {l : Addr} {its : List Value} {ns : List Int} {Q : Value → Shared → Prop} (hh : A.handled = none) (hl : s.heap.IsList l its.toArray) (hi : IntsAre its ns)
    (h : ∀ h' tk u, (∀ b o, s.heap.get? b = some o → h'.get? b = some o) → (ns = [] ∧ u = dv ∨ ∃ M t, u = .int M t ∧ M ∈ ns ∧ ∀ a, a ∈ ns → M ≤ a) → Q u { s with heap := h', toks := tk }) :
    wpAny (model prog w) A (call (.builtin "min") [.ref l] [("default", dv)]) Q E s := by
  obtain ⟨xs, e⟩ := hi.allInts.items
  have hn : numsOf (intItems xs).toList = ns := by rw [← e]; exact hi.numsOf
  rw [nums_intItems] at hn
  subst hn
  rw [e] at hl
  refine call_min_walkD (iter_intList hl fun s₂ e st hfp hlI => ?_)
  subst e
  refine ⟨_, _, _, _, _, _, _, rfl, Walks.list (A := A.in1) hh _ l hlI (intItems xs), st, hfp, CmpOf.ints_lt (numAt xs) (fun _ _ => intItems_at), fun v h' tk hP hk => ?_⟩
  refine h h' tk v (old_kept hk) ?_
  have sz : (intItems xs).size = xs.size := by simp [intItems]
  rcases hP with ⟨h0, rfl⟩ | ⟨h0, hP⟩
  · rw [sz] at h0
    refine .inl ⟨?_, rfl⟩
    apply List.eq_nil_of_length_eq_zero
    rw [List.length_map, Array.length_toList]
    exact h0
  · rw [sz] at hP h0
    obtain ⟨t, rfl⟩ := intItems_at hP
    obtain ⟨h1, h2⟩ := argBest_lt (numAt xs) (xs.size - 1)
    refine .inr ⟨_, t, rfl, ?_, fun a ha => ?_⟩
    · rw [numAt_eq]; exact PySem.getD_mem (by rw [List.length_map, Array.length_toList]; omega)
    · obtain ⟨j, hj, rfl⟩ := mem_getD ha
      rw [List.length_map, Array.length_toList] at hj
      rw [← numAt_eq]; exact h2 j (by omega)
end
section
variable {X : Cx}
/-- min(xs, default=d) of a list of ints -/
def rMinD (K : PySem.W.Frag) : List V → List V → Hp → VK → Prop := fun vs zs H Q => ∃ (a : Addr) (ns : List Int) (d : V), vs = [V.ref a] ∧ zs = [d] ∧ SqL K H a (ns.map V.int) ∧ (ns = [] → Q d H) ∧ ∀ m, m ∈ ns → (∀ y, y ∈ ns → m ≤ y) → Q (.int m) H
theorem cr_minD (hc : X.calm = true) : CallRK X (.builtin "min") ["default"] (rMinD X.K) := by
  intro pins s σ H vs zs us ws Q I r r2 h
  obtain ⟨a, ns, d, rfl, rfl, hs, q0, q⟩ := h
  obtain ⟨its, rv, hl, _⟩ := I.list hs
  rw [Vals.ref1 r]
  obtain ⟨u, rfl, ru⟩ := vals1 r2
  refine min_rawD (I.ok.hd hc) hl.isList rv.ints fun h' tk m hk hm => ?_
  rcases hm with ⟨e, rfl⟩ | ⟨M, t, rfl, h1, h2⟩
  · exact ⟨d, H, I.kept hk, ru, q0 e⟩
  · exact ⟨.int M, H, I.kept hk, ⟨_, rfl⟩, q M h1 h2⟩
end

section
variable {prog : Program} {w : World} {A : Around} {R : Result → Shared → Prop} {I : Addr} {fp wr : List Addr} {n : Nat} {P : Nat → Value → Prop} {St : Nat → Heap → Prop} {dv : Value}
theorem max_loopD (W : Walks prog w A.in1 I fp wr n P St) (bt : Nat → Nat → Bool) (hcmp : CmpOf prog w A.in1 .Gt P bt) (S : Addr) (hSf : S ∉ fp) :
    ∀ (k j : Nat) (s : Shared) (vb : Value) (c : Nat), n - (j + 1) = k → j + 1 ≤ n → St (j + 1) s.heap → P (argBest bt j) vb →
    s.heap.get? S = some { cls := .type "list", dict := none, data := .seq #[vb, vb] c, slots := #[] } →
    (∀ v h' tk, P (argBest bt (n - 1)) v → (∀ b o, b ∉ wr → b ≠ S → s.heap.get? b = some o → h'.get? b = some o) → R (.ok (.ret v)) { s with heap := h', toks := tk }) →
    codeAny (model prog w) A (.builtin "max.loop" ⟨[.ref I, .none, .ref S], [("default", dv)]⟩) R s := by
  have hSw : S ∉ wr := fun h => hSf (W.sub _ h)
  have hname : (toString "max" ++ toString ".loop" : String) = "max.loop" := by decide
  intro k
  induction k with
  | zero =>
    intro j s vb c hk hj hst hPb hS hR
    have hin : j + 1 = n := by omega
    refine codeAny_builtin F.entry_max_loop ?_
    rw [Around.under_plainId F.plain_max_loop _]
    show wpAny _ A.in1 (seqItems? (.ref S) >>= _) _ _ s
    refine wpAny_bind (wpAny_seqItems hS rfl ?_)
    show wpAny _ A.in1 (tryCatch (pyNext (.ref I)) _ >>= _) _ _ s
    refine wpAny_bind (wpAny_tryCatch (W.done s _ _ (hin ▸ hst) fun h' tk hk' => ?_))
    have hS' := hk' S _ hSw hS
    show wpAny _ A.in1 (updateSeq S (fun _ => #[]) >>= _) _ _ _
    refine wpAny_bind ?_
    refine wpAny_updateSeq hS' rfl (wpAny_bind (wpAny_letGo (wpAny_pure ?_)))
    refine hR vb _ tk (by rw [← hin]; exact hPb) fun b o hbw hbS e => (Heap.get?_update_other _ _ (Ne.symm hbS)).trans (hk' b o hbw e)
  | succ k ih =>
    intro j s vb c hk hj hst hPb hS hR
    have hlt : j + 1 < n := by omega
    refine codeAny_builtin F.entry_max_loop ?_
    rw [Around.under_plainId F.plain_max_loop _]
    show wpAny _ A.in1 (seqItems? (.ref S) >>= _) _ _ s
    refine wpAny_bind (wpAny_seqItems hS rfl ?_)
    show wpAny _ A.in1 (tryCatch (pyNext (.ref I)) _ >>= _) _ _ s
    refine wpAny_bind (wpAny_tryCatch (W.item (j + 1) s _ _ hlt hst fun v h' tk hP hst' hk' => ?_))
    have hS' := hk' S _ hSw hS
    show wpAny _ A.in1 (tryCatch (holding [v, v] (richCompare .Gt v vb >>= _)) _ >>= _) _ _ _
    refine wpAny_bind (wpAny_tryCatch (wpAny_holding (wpAny_bind (hcmp (j + 1) (argBest bt j) v vb _ _ _ hP hPb ?_))))
    refine wpAny_bind (wpAny_holding (wpAny_truthy_bool ?_))
    refine wpAny_bind (wpAny_letGo (wpAny_pure ?_))
    cases hb : bt (j + 1) (argBest bt j) with
    | true =>
      simp only [if_true]
      refine wpAny_bind ?_
      refine wpAny_updateSeq hS' rfl (wpAny_bind (wpAny_letGo ?_))
      rw [hname]
      refine wpAny_pure ⟨plainId_quiet F.plain_max_loop _, ih (j + 1) _ v _ (by omega) hlt (W.frame _ _ _ hst' fun b hbf o e => ?_) (by simp only [argBest, hb, if_true]; exact hP) (Heap.get?_update_self _ hS' rfl)
        fun v' h'' tk'' hP' hk'' => ?_⟩
      · exact (Heap.get?_update_other _ _ (fun h : S = b => hSf (by rw [h]; exact hbf))).trans e
      · exact hR v' h'' tk'' hP' fun b o hbw hbS e => hk'' b o hbw hbS ((Heap.get?_update_other _ _ (Ne.symm hbS)).trans (hk' b o hbw e))
    | false =>
      simp only [Bool.false_eq_true, if_false]
      refine wpAny_bind (wpAny_letGo ?_)
      rw [hname]
      refine wpAny_pure ⟨plainId_quiet F.plain_max_loop _, ih (j + 1) _ vb c (by omega) hlt hst' (by simp only [argBest, hb, Bool.false_eq_true, if_false]; exact hPb) hS' fun v' h'' tk'' hP' hk'' => ?_⟩
      exact hR v' h'' tk'' hP' fun b o hbw hbS e => hk'' b o hbw hbS (hk' b o hbw e)
theorem max_loop_firstD (W : Walks prog w A.in1 I fp wr n P St) (bt : Nat → Nat → Bool) (hcmp : CmpOf prog w A.in1 .Gt P bt) (S : Addr) (hSf : S ∉ fp) {s : Shared} {c : Nat} (hst : St 0 s.heap)
    (hS : s.heap.get? S = some { cls := .type "list", dict := none, data := .seq #[] c, slots := #[] })
    (hR : ∀ v h' tk, (n = 0 ∧ v = dv ∨ 0 < n ∧ P (argBest bt (n - 1)) v) → (∀ b o, b ∉ wr → b ≠ S → s.heap.get? b = some o → h'.get? b = some o) → R (.ok (.ret v)) { s with heap := h', toks := tk }) :
    codeAny (model prog w) A (.builtin "max.loop" ⟨[.ref I, .none, .ref S], [("default", dv)]⟩) R s := by
  have hSw : S ∉ wr := fun h => hSf (W.sub _ h)
  have hname : (toString "max" ++ toString ".loop" : String) = "max.loop" := by decide
  refine codeAny_builtin F.entry_max_loop ?_
  rw [Around.under_plainId F.plain_max_loop _]
  show wpAny _ A.in1 (seqItems? (.ref S) >>= _) _ _ s
  refine wpAny_bind (wpAny_seqItems hS rfl ?_)
  show wpAny _ A.in1 (tryCatch (pyNext (.ref I)) _ >>= _) _ _ s
  by_cases hn : n = 0
  · refine wpAny_bind (wpAny_tryCatch (W.done s _ _ (hn ▸ hst) fun h' tk hk' => ?_))
    show wpAny _ A.in1 (rule "max.default" >>= fun _ => ret dv) _ _ _
    exact wpAny_bind (wpAny_rule (wpAny_pure (hR dv h' tk (.inl ⟨hn, rfl⟩) fun b o hb _ e => hk' b o hb e)))
  have hn : 0 < n := by omega
  refine wpAny_bind (wpAny_tryCatch (W.item 0 s _ _ hn hst fun v h' tk hP hst' hk' => ?_))
  have hS' := hk' S _ hSw hS
  show wpAny _ A.in1 (updateSeq S (fun _ => #[v, v]) >>= _) _ _ _
  refine wpAny_bind ?_
  refine wpAny_updateSeq hS' rfl ?_
  rw [hname]
  refine wpAny_pure ⟨plainId_quiet F.plain_max_loop _, max_loopD W bt hcmp S hSf _ 0 _ v _ rfl hn (W.frame _ _ _ hst' fun b hbf o e => ?_) hP (Heap.get?_update_self _ hS' rfl) fun v' h'' tk'' hP' hk'' => ?_⟩
  · exact (Heap.get?_update_other _ _ (fun h : S = b => hSf (by rw [h]; exact hbf))).trans e
  · exact hR v' h'' tk'' (.inr ⟨hn, hP'⟩) fun b o hbw hbS e => hk'' b o hbw hbS ((Heap.get?_update_other _ _ (Ne.symm hbS)).trans (hk' b o hbw e))
end
section
variable {prog : Program} {w : World} {A : Around} {E : Value → Shared → Prop} {s : Shared} {dv : Value}
theorem args_maxD (a d : Value) : argsOk "max" ⟨[a], [("default", d)]⟩ := by unfold argsOk; kernel_rfl
theorem call_max_walkD {x : Value} {Q : Value → Shared → Prop}
    (h : wpAny (model prog w) A.in1 (pyIter x) (fun it s₂ => ∃ I fp wr n P St bt, it = .ref I ∧ Walks prog w A.in1 I fp wr n P St ∧ St 0 s₂.heap ∧ (∀ b ∈ fp, b < s₂.heap.objs.size) ∧ CmpOf prog w A.in1 .Gt P bt ∧
      ∀ v h' tk, (n = 0 ∧ v = dv ∨ 0 < n ∧ P (argBest bt (n - 1)) v) → (∀ b o, b ∉ wr → s₂.heap.get? b = some o → h'.get? b = some o) → Q v { s₂ with heap := h', toks := tk }) E s) :
    wpAny (model prog w) A (call (.builtin "max") [x] [("default", dv)]) Q E s := by
  have hname : (toString "max" ++ toString ".loop" : String) = "max.loop" := by decide
  refine call_treeK F.kind_max F.plain_max F.entry_max (args_maxD _ _) ?_
  show wpAny _ A.in1 (Builtin.Builtins.bindParams "max" ["key", "default"] 0 ⟨[], [("default", dv)]⟩ >>= _) _ _ s
  refine wpAny_bind (wpAny_of_eq (show Builtin.Builtins.bindParams "max" ["key", "default"] 0 ⟨[], [("default", dv)]⟩ = pure [none, some dv] from rfl) ?_)
  refine wpAny_bind (wpAny_pure ?_)
  refine wpAny_bind (wpAny_mono h (fun it s₂ h₂ => ?_) fun _ _ e => e)
  obtain ⟨I, fp, wr, n, P, St, bt, rfl, W, hst, hfp, hcmp, hQ⟩ := h₂
  refine wpAny_bind (wpAny_newObj_type ?_)
  have hSf : s₂.heap.objs.size ∉ fp := fun hm => Nat.lt_irrefl _ (hfp _ hm)
  rw [hname]
  refine wpAny_pure ⟨plainId_quiet F.plain_max_loop _, max_loop_firstD W bt hcmp s₂.heap.objs.size hSf (W.frame _ _ _ hst fun b _ o e => Heap.get?_push_of_some _ e) (Heap.get?_push_size _ rfl) fun v h' tk hP hk => ?_⟩
  exact hQ v h' tk hP fun b o hbw e => hk b o hbw (Nat.ne_of_lt (Heap.lt_size e)) (Heap.get?_push_of_some _ e)
theorem max_rawD {l : Addr} {its : List Value} {ns : List Int} {Q : Value → Shared → Prop} (hh : A.handled = none) (hl : s.heap.IsList l its.toArray) (hi : IntsAre its ns)
    (h : ∀ h' tk u, (∀ b o, s.heap.get? b = some o → h'.get? b = some o) → (ns = [] ∧ u = dv ∨ ∃ M t, u = .int M t ∧ M ∈ ns ∧ ∀ a, a ∈ ns → a ≤ M) → Q u { s with heap := h', toks := tk }) :
    wpAny (model prog w) A (call (.builtin "max") [.ref l] [("default", dv)]) Q E s := by
  obtain ⟨xs, e⟩ := hi.allInts.items
  have hn : numsOf (intItems xs).toList = ns := by rw [← e]; exact hi.numsOf
  rw [nums_intItems] at hn
  subst hn
  rw [e] at hl
  refine call_max_walkD (iter_intList hl fun s₂ e st hfp hlI => ?_)
  subst e
  refine ⟨_, _, _, _, _, _, _, rfl, Walks.list (A := A.in1) hh _ l hlI (intItems xs), st, hfp, CmpOf.ints_gt (numAt xs) (fun _ _ => intItems_at), fun v h' tk hP hk => ?_⟩
  refine h h' tk v (old_kept hk) ?_
  have sz : (intItems xs).size = xs.size := by simp [intItems]
  rcases hP with ⟨h0, rfl⟩ | ⟨h0, hP⟩
  · rw [sz] at h0
    refine .inl ⟨?_, rfl⟩
    apply List.eq_nil_of_length_eq_zero
    rw [List.length_map, Array.length_toList]
    exact h0
  · rw [sz] at hP h0
    obtain ⟨t, rfl⟩ := intItems_at hP
    obtain ⟨h1, h2⟩ := argBest_gt (numAt xs) (xs.size - 1)
    refine .inr ⟨_, t, rfl, ?_, fun a ha => ?_⟩
    · rw [numAt_eq]; exact PySem.getD_mem (by rw [List.length_map, Array.length_toList]; omega)
    · obtain ⟨j, hj, rfl⟩ := mem_getD ha
      rw [List.length_map, Array.length_toList] at hj
      rw [← numAt_eq]; exact h2 j (by omega)
end
section
variable {X : Cx}
/-- max(xs, default=d) of a list of ints -/
def rMaxD (K : PySem.W.Frag) : List V → List V → Hp → VK → Prop := fun vs zs H Q => ∃ (a : Addr) (ns : List Int) (d : V), vs = [V.ref a] ∧ zs = [d] ∧ SqL K H a (ns.map V.int) ∧ (ns = [] → Q d H) ∧ ∀ m, m ∈ ns → (∀ y, y ∈ ns → y ≤ m) → Q (.int m) H
theorem cr_maxD (hc : X.calm = true) : CallRK X (.builtin "max") ["default"] (rMaxD X.K) := by
  intro pins s σ H vs zs us ws Q I r r2 h
  obtain ⟨a, ns, d, rfl, rfl, hs, q0, q⟩ := h
  obtain ⟨its, rv, hl, _⟩ := I.list hs
  rw [Vals.ref1 r]
  obtain ⟨u, rfl, ru⟩ := vals1 r2
  refine max_rawD (I.ok.hd hc) hl.isList rv.ints fun h' tk m hk hm => ?_
  rcases hm with ⟨e, rfl⟩ | ⟨M, t, rfl, h1, h2⟩
  · exact ⟨d, H, I.kept hk, ru, q0 e⟩
  · exact ⟨.int M, H, I.kept hk, ⟨_, rfl⟩, q M h1 h2⟩
end
end FA
end

/-! F6 -/
section
namespace FA
open PySem PySem.Spec PyProof.Rows L2
/-! an own class whose __init__ takes *values; made with any number of values -/
def FnRG (P : Program) (w : World) (K : PySem.W.Frag) (mg : Str → Option Value) (base : Heap) (CX : CXT) (k : Nat) (f : Addr) (sp : Sp) : Prop :=
  ∀ (A : Around) (outer : List Env) (s : Shared) (H : Hp) (us : List Value) (vs : List V) (Q : VK) (E : XK), Room k A → A.guards = some [] → Env0 P w K mg base A outer s H → Vals vs us → sp vs H Q E →
    codeAny (model P w) A (.call (.ref f) ⟨us, []⟩) (CR CX outer P w H s Q E) s
section
variable {P : Program} {w : World} {K : PySem.W.Frag} {mg : Str → Option Value} {base : Heap} {x qual : Str} {params : Arguments}
  {body : List Stmt} {scope : Scope} {kws : List (Str × V)} {f : Addr} {fd : FuncData}
/-- def f(a, *v) -/
theorem okStar {N : List Str} {p1 pv : Str} {k : Nat} {sp : Sp} (F : FunD K x qual params body scope [] kws f fd) (S : FnScope N [p1, pv] scope)
    (hS : ∃ o, base.get? sysModules = some o)
    (h0 : ∀ (kV doc pm : Value) (an : Option Addr) (cdv ct : Value) (a : Value), bindArgs (PySem.W.fnOf x qual params body scope .none kV doc pm an cdv ct) ⟨[a], []⟩ = (newTuple [] >>= fun t => pure [(p1, a), (pv, t)]))
    (h1 : ∀ (kV doc pm : Value) (an : Option Addr) (cdv ct : Value) (a r : Value) (rs : List Value), bindArgs (PySem.W.fnOf x qual params body scope .none kV doc pm an cdv ct) ⟨a :: r :: rs, []⟩ = (newTuple (r :: rs) >>= fun t => pure [(p1, a), (pv, t)]))
    (hb : ∀ (cdv : Value) (A : Around) (outer : List Env) (s : Shared) (H : Hp) (vs : List V) (Q : VK) (E : XK),
      Rdy k (cxOf CX0 P w K mg base N qual scope f cdv A outer s H E).nox → sp vs H Q E →
      ∃ t, PSs (cxOf CX0 P w K mg base N qual scope f cdv A outer s H E).nox body t ∧
        t { nx := fun _ H' => Q .non H', rt := Q } (start N vs) H) :
    FnRG P w K mg base CX0 (k + 1) f (fun vs H Q E => ∃ y rest, vs = y :: rest ∧ rest.length ≤ sizeLine ∧ ∀ p, H p = none → sp [y, V.ref p] (upd H p (.tup rest)) Q E) := by
  intro A outer s H us vs Q E hr hgd e0 r hsp
  obtain ⟨y, rest, rfl, hz, hq⟩ := hsp
  obtain ⟨oc, od, dV, kV, doc, pm, an, cdv, ct, osl, rfl, lk, hcd, hd, _⟩ := F.ex
  have ed : dV = .none := by
    rcases hd with ⟨_, z⟩ | ⟨z, _⟩
    · exact z
    · exact absurd rfl z
  subst ed
  cases r with
  | @cons _ u _ u2 r1 r2 =>
    have hn : H s.heap.objs.size = none := e0.hok.fresh (Nat.le_refl _)
    have hl2 : u2.length ≤ sizeLine := by rw [← r2.length]; exact hz
    have hbind : bindArgs (PySem.W.fnOf x qual params body scope .none kV doc pm an cdv ct) ⟨u :: u2, []⟩ = (newTuple u2 >>= fun t => pure [(p1, u), (pv, t)]) := by
      cases u2 with
      | nil => exact h0 kV doc pm an cdv ct u
      | cons r rs => exact h1 kV doc pm an cdv ct u r rs
    refine StX.run_bnd (G := fun xs H2 => ∃ p, H p = none ∧ xs = [y, V.ref p] ∧ H2 = upd H p (.tup rest)) lk hcd S hr e0 (fun A' Ex Q' h => ?_) fun s2 H2 xs ⟨p, hp, ex, eH⟩ hr' => ?_
    · rw [hbind]
      refine wpAny_bind (wpAny_newTuple (wpAny_pure ?_) hl2)
      have new : ObjOk P w (upd H s.heap.objs.size (.tup rest)) (s.heap.push ({ cls := .type "tuple", data := .seq u2.toArray } : Obj)) s.heap.objs.size (.tup rest) := ⟨hz, u2, r2, ⟨_, Heap.get?_push_size _ rfl, rfl, _, rfl⟩⟩
      have un := StX.un_laid (fs := L2.frs outer) (s := s) (o := ({ cls := .type "tuple", data := .seq u2.toArray } : Obj)) (u := .tup rest) hn
      exact h _ _ [y, V.ref s.heap.objs.size] [u, Value.ref s.heap.objs.size] (StX.env0_laid e0 new) un rfl (fun e s' z => z.elim) (.cons r1 (.cons rfl .nil)) rfl ⟨_, hn, rfl, rfl⟩
    · subst ex eH
      obtain ⟨t, h, q⟩ := hb cdv A outer s2 _ _ Q E ⟨hr', hgd, hS⟩ (hq p hp)
      exact ⟨t, h.nox, q⟩
end
section
variable {X : Cx} {k : Nat} {f C : Addr} {sp : Sp} {x : Str} {e : Expr} {es : List Expr} {t : TA} {p pos : Pos}
theorem guards_make {A : Around} {C : Addr} {us : List Value} {kw : List (Str × Value)} : (A.under (.builtin "type.__call__" ⟨.ref C :: us, kw⟩)).guards = A.guards := rfl
theorem run_makeG {pins : List (Addr × Obj)} {σ : L2.St} {H : Hp} {s : Shared} {Q : VK} {us : List Value} {vs : List V} (M : Mk X.K C f) (F : FnRG X.prog X.w X.K X.mg X.base CX0 k f sp) (R : Rdy (k + 1) X) (I : Inv X pins σ H s) (r : Vals vs us)
    (h : ∀ x dx, H x = none → H dx = none → dx ≠ x → sp (V.ref x :: vs) (upd (upd H dx (.own x)) x (.ins C dx [])) (fun v H2 => v = .non ∧ Q (.ref x) H2) E0) :
    wpAny (model X.prog X.w) X.A (call (.ref C) us) (EP X pins σ Q) X.xe s := by
  have hq := h (s.heap.objs.size + 1) s.heap.objs.size (I.hok.fresh (Nat.le_succ _)) (I.hok.fresh (Nat.le_refl _)) (Nat.ne_of_lt (Nat.lt_succ_self _))
  have I2 := Inv.made (C := C) I
  have r2 : Vals (V.ref (s.heap.objs.size + 1) :: vs) (Value.ref (s.heap.objs.size + 1) :: us) := .cons rfl r
  refine wpAny_call (make_map (f := f) I.kIn M.makes M.init (beq_iff_eq.mp M.fn) (codeAny_mono (F _ X.stack _ _ (Value.ref (s.heap.objs.size + 1) :: us) _ _ E0 (R.room.make C us []) (guards_make.trans R.gd) (I2.env0.make C us []) r2 hq) fun r s' hq' => ?_))
  cases r with
  | error e => exact hq'.elim
  | ok fl =>
    cases fl with
    | ret u =>
      obtain ⟨v, H', I3, rv, ev, q3⟩ := I2.after hq'
      subst ev
      exact ⟨rv, ⟨V.ref (s.heap.objs.size + 1), H', I3, rfl, q3⟩⟩
    | next => exact False.elim hq'
    | brk => exact False.elim hq'
    | cont => exact False.elim hq'
/-- an own class of the module, made by its __init__ -/
structure MkG (P : Program) (w : World) (K : PySem.W.Frag) (mg : Str → Option Value) (base : Heap) (k : Nat) (x : Str) (C : Addr) (sp : Sp) : Prop where
  ex : ∃ f, Mk K C f ∧ FnRG P w K mg base CX0 k f sp
  at_ : mg x = some (.ref C)
theorem cm (c : MkG X.prog X.w X.K X.mg X.base k x C sp) {j : Nat} (R : Rdy j X) (ha : PA X (e :: es) t) (hk : k + 1 ≤ j := by omega) (hg : Gl X x := by rfl) (hdb : (x == ("__debug__" : Str)) = false := by decide)
    (he : starEach (e :: es) X.env = (false, eval e X.env) :: starEach es X.env := by rfl) (hpl : (backTo pos (starEach es X.env)).any (·.1) = false := by rfl) : PE X (.Call (.Name x p) (e :: es) [] pos) (StX.tMakeR C sp E0 t) := by
  obtain ⟨f, M, F⟩ := c.ex
  refine ⟨fun pins s σ H Q I h => ?_⟩
  refine wpAny_Call_Name_kw (ld_glob I hg c.at_ ?_ hdb)
  refine PySem.W.callWith_K (h₀ := X.base) I.ok.mod.kin M.kp (thn (ha.run pos pins s σ H _ I h) fun us s1 ⟨vs, H1, I1, r, q⟩ => ⟨I1.kIn, ?_⟩) he hpl
  exact run_makeG M F ⟨R.room.mono hk, R.gd, R.sys⟩ I1 r q
theorem cm0 (c : MkG X.prog X.w X.K X.mg X.base k x C sp) {j : Nat} (R : Rdy j X) (hk : k + 1 ≤ j := by omega) (hg : Gl X x := by rfl) (hdb : (x == ("__debug__" : Str)) = false := by decide) :
    PE X (.Call (.Name x p) [] [] pos) (StX.tMakeR C sp E0 tNil) := by
  obtain ⟨f, M, F⟩ := c.ex
  refine ⟨fun pins s σ H Q I h => ?_⟩
  refine wpAny_Call_Name_kw (ld_glob I hg c.at_ ?_ hdb)
  exact PySem.W.callWith_K0 I.kIn M.kp (run_makeG (us := []) M F ⟨R.room.mono hk, R.gd, R.sys⟩ I .nil h)
end
/-- y = [.. for x in ..], its name set by the comprehension's end -/
theorem ps_setLc1 {X : Cx} (i m : Nat) {y x : Str} {py p : Pos} {elt iter : Expr} {ifs : List Expr} {scope : Scope} {pos spos : Pos} {wi : TI} {tt : TT} {te : TE}
    (hc : X.calm = true) (hN : X.N.Nodup) (hy : X.N[i]? = some y) (hyl : X.env.scope.names.lookup y = some .local)
    (hsw : swapsWith (.ListComp elt [⟨.Name x p, iter, ifs, 0⟩] scope pos) (some (.Name y py)) spos.line X.env = pure true) (hi : PI X (.Name x p) iter wi)
    (ok : blkC X.N X.env.scope scope [(x, m)] = true)
    (hg : ∀ (s : Shared) (H : Hp) (C : Addr) (cl : List (Str × Addr)) (fp : List Addr), PG (X.blk s H scope (compEnvC scope cl C X.env) fp) (.Name x p) (gName m))
    (ht : ∀ (s : Shared) (H : Hp) (C : Addr) (cl : List (Str × Addr)) (fp : List Addr), PTs (X.blk s H scope (compEnvC scope cl C X.env) fp) ifs tt)
    (he : ∀ (s : Shared) (H : Hp) (C : Addr) (cl : List (Str × Addr)) (fp : List Addr), PE (X.blk s H scope (compEnvC scope cl C X.env) fp) elt te)
    (hs : ∀ z, foldedSetIterable iter X.env z = pure z := by intro _; rfl) :
    PS X (.Assign [.Name y py] (.ListComp elt [⟨.Name x p, iter, ifs, 0⟩] scope pos) spos) (tAsg (tLc wi (gName m) tt te [m]) (gName i)) :=
  ps_setLc (own := [(x, m)]) hc hN hy hyl hsw hi (blkOk_by ok) hg ht he hs
theorem fld_t {K : PySem.W.Frag} {H : Hp} {σ : L2.St} {i : Nat} {x C dx : Addr} {fs : List (Str × V)} {g : Str} {v : V} {Q : VK} (hi : σ[i]? = some (some (.ref x))) (hx : H x = some (.ins C dx fs)) (cl : Cls K C) (no : NoAttr K C g)
    (hl : fs.lookup g = some v) (q : Q v H) : tFld K (tVar i) g σ H Q := ⟨_, hi, x, C, dx, fs, v, rfl, hx, cl, no, hl, q⟩
theorem calK {X : Cx} {f : Value} {r : PySem.W.Frag → List V → Hp → VK → Prop} (K : PySem.W.Frag) (h : X.K = K) (c : CallR X f (r X.K)) : CallR X f (r K) := by subst h; exact c
theorem oprK {X : Cx} {f : Value → Value → Sem Value} {r : PySem.W.Frag → R2} (K : PySem.W.Frag) (h : X.K = K) (c : OpR X f (r X.K)) : OpR X f (r K) := by subst h; exact c
theorem slAnyK {X : Cx} (K : PySem.W.Frag) (h : X.K = K) : SlR X (rSlA K) := by subst h; exact slAny
theorem ixAnyK {X : Cx} (K : PySem.W.Frag) (h : X.K = K) : IxR X (rIxA K) := by subst h; exact ixAny
/-- the head's facts, the table of modules, and one test more -/
def hookB (n : Nat) (fa : List He.Fa) (fn : List He.DefD) (B : PySem.W.Frag → Bool) : PySem.W.Hook where
  α := He.AlD × Bool × Bool
  obs := fun s => (He.obsDG n fa fn s.heap.get?, sysB s.heap.get?, B (He.frG s.heap.get? (He.asD s.heap.get? n)))
  val := fun _ => (He.valD fn, true, true)
  says := fun _ h => (∃ K, K.In h ∧ He.SaysD fa fn K ∧ B K = true) ∧ ∃ o es m, h.get? sysModules = some o ∧ o.data = Data.dict es m
  of := fun _ s e => ⟨⟨_, He.frG_in, congrArg Prod.fst e, congrArg (fun p => p.2.2) e⟩, sysB_ok (congrArg (fun p => p.2.1) e)⟩
  keeps := fun _ h h' z k => ⟨let ⟨K, i, s, b⟩ := z.1; ⟨K, i.keeps k, s, b⟩, let ⟨o, es, m, e, d⟩ := z.2; ⟨o, es, m, k _ _ e, d⟩⟩
/-- what isinstance asks of an instance's class -/
structure Icl (K : PySem.W.Frag) (C : Addr) : Prop where
  cls : Cls K C
  ha : PySem.W.findIn K (.ref C) "__class__" = some (some (.builtin "object.__class__"))
  hn : PySem.W.specialIn K (.builtin "object.__class__") "__get__" = some (some (.builtin "getset_descriptor.__get__"))
  htk : PySem.W.takesIn K (.builtin "object.__class__") = some true
  hm : PySem.W.mroIn K C (.type "object") = some true
theorem Icl.ty {K : PySem.W.Frag} {C a dx : Addr} {H : Hp} {fs : List (Str × V)} (c : Icl K C) (e : H a = some (.ins C dx fs)) : TyX K H (.ref a) (.ref C) := .base (.ins e c.cls c.ha c.hn c.htk c.hm)
def iclB (K : PySem.W.Frag) (C : Addr) : Bool := He.eqO (PySem.W.findIn K (.ref C) "__class__") (some (some (.builtin "object.__class__"))) && (He.eqO (PySem.W.specialIn K (.builtin "object.__class__") "__get__") (some (some (.builtin "getset_descriptor.__get__"))) &&
  (decide (PySem.W.takesIn K (.builtin "object.__class__") = some true) && decide (PySem.W.mroIn K C (.type "object") = some true)))
theorem iclB_ok {K : PySem.W.Frag} {C : Addr} (h : iclB K C = true) (c : Cls K C) : Icl K C := by
  simp only [iclB, Bool.and_eq_true, decide_eq_true_eq] at h
  exact ⟨c, He.eqO_ok h.1, He.eqO_ok h.2.1, h.2.2.1, h.2.2.2⟩
/-- an own operator method, told by the head -/
def oclB (K : PySem.W.Frag) (C : Addr) (m : Str) : Bool := (match PySem.W.clsIn K C with
    | some cd => (match cd.mro with
      | .ref b :: _ => decide (b = C)
      | _ => false)
    | _ => false) && (He.eqO (PySem.W.findIn K (.ref C) m) (some (some (.ref (He.ma K C m)))) && decide (PySem.W.typeIn K (.ref (He.ma K C m)) = some (.type "function")))
theorem oclB_ok {K : PySem.W.Frag} {C : Addr} {m : Str} (h : oclB K C m = true) : Ocl K C m (He.ma K C m) := by
  unfold oclB at h
  rw [Bool.and_eq_true, Bool.and_eq_true] at h
  obtain ⟨h1, h2, h3⟩ := h
  refine ⟨?_, He.eqO_ok h2, of_decide_eq_true h3⟩
  cases e : PySem.W.clsIn K C with
  | none => rw [e] at h1; cases h1
  | some cd =>
    rw [e] at h1
    dsimp only at h1
    cases em : cd.mro with
    | nil => rw [em] at h1; cases h1
    | cons y ys =>
      rw [em] at h1
      cases y with
      | ref b => exact ⟨cd, ys, rfl, by rw [em, of_decide_eq_true h1]⟩
      | _ => cases h1
end FA
end

/-! F7 -/
section
namespace FA
open PySem PySem.Spec PyProof.Rows L2
abbrev rStrI : List V → Hp → VK → Prop := fun xs H Q => ∃ i : Int, xs = [.int i] ∧ i.natAbs.log2 < 1920 ∧ Q (.str (toString i)) H
/-! an own operator method, as a caller has it -/
structure OpC (P : Program) (w : World) (K : PySem.W.Frag) (mg : Str → Option Value) (base : Heap) (k : Nat) (C : Addr) (m : Str) (sp : Sp) : Prop where
  ex : ∃ (f : Addr) (fd : FuncData) (ps : List Str), Ocl K C m f ∧ FnG P w K mg base CX0 k f fd ps sp ∧ Binds K fd ps []
section
variable {X : Cx} {k j : Nat} {C : Addr} {sp : Sp}
theorem oAdd (c : OpC X.prog X.w X.K X.mg X.base k C "__add__" sp) (R : Rdy j X) (hk : k ≤ j := by omega) : OpR X (binaryOp .Add) (rAddO C sp) := by
  obtain ⟨f, fd, ps, O, F, b⟩ := c.ex
  exact op_addO O F R.gd (R.room.mono hk) b
theorem oEq (c : OpC X.prog X.w X.K X.mg X.base k C "__eq__" sp) (R : Rdy j X) (hk : k ≤ j := by omega) : OpR X (compareOp .Eq) (rAddO C sp) := by
  obtain ⟨f, fd, ps, O, F, b⟩ := c.ex
  exact op_eqO O F R.gd (R.room.mono hk) b
theorem oIn (c : OpC X.prog X.w X.K X.mg X.base k C "__contains__" sp) (R : Rdy j X) (hk : k ≤ j := by omega) : OpR X (compareOp .In) (rHasO C sp false) := by
  obtain ⟨f, fd, ps, O, F, b⟩ := c.ex
  exact op_inO O F R.gd (R.room.mono hk) b
theorem oNotIn (c : OpC X.prog X.w X.K X.mg X.base k C "__contains__" sp) (R : Rdy j X) (hk : k ≤ j := by omega) : OpR X (compareOp .NotIn) (rHasO C sp true) := by
  obtain ⟨f, fd, ps, O, F, b⟩ := c.ex
  exact op_notInO O F R.gd (R.room.mono hk) b
end
end FA
end

/-! F8 -/
section
namespace FA
open PySem PySem.Spec PyProof.Rows L2
/-! == of two lists (of two tuples) of alike data, whatever signs their texts have -/
theorem eq_lists {A : Around} {s : Shared} {a b : Value} {ds es : List PyData} {as bs : List Addr} (r1 : Reads s.heap a (.list ds) as) (r2 : Reads s.heap b (.list es) bs) (ha : PySem.W.alikeAll ds es = true)
    (hu : A.units + min ((PyData.list ds).depth) ((PyData.list es).depth) < cLine) : PySem.SeqAt.RcAt A s a b (PyData.eqvAll ds es) := by
  cases r1 with
  | @list l o vs n _ as₁ h1 h2 h3 h4 =>
    cases r2 with
    | @list l' o' vs' n' _ bs₁ k1 k2 k3 k4 =>
      have hl : s.heap.IsList l vs := ⟨_, h1, h2, _, h3⟩
      have hl' : s.heap.IsList l' vs' := ⟨_, k1, k2, _, k3⟩
      have n1 : vs.size = ds.length := by simpa using PySem.SeqAt.ReadsAll.length _ _ _ h4
      have n2 : vs'.size = es.length := by simpa using PySem.SeqAt.ReadsAll.length _ _ _ k4
      by_cases hsz : vs.size = vs'.size
      · rw [← PySem.SeqAt.eqvAll_same_length (by omega : ds.length = es.length), ← n1]
        refine PySem.SeqAt.RcAt.lists hl hl' hsz (PySem.SeqAt.room_here hu) fun j j1 j2 => ?_
        have := PySem.W.eqAt_alikeAll ds es A.in1 s vs.toList vs'.toList _ _ h4 k4 ha (PySem.SeqAt.room_in hu) j (by simpa using j1) (by simpa using j2)
        simpa using this
      · rw [PySem.SeqAt.eqvAll_other_length (by omega : ds.length ≠ es.length)]
        exact PySem.SeqAt.RcAt.lists_lengths hl hl' (by simpa using hsz) (PySem.SeqAt.room_here hu)
def rEqL : R2 := fun x y H Q => ∃ ds es, Dat H (.list ds) x ∧ Dat H (.list es) y ∧ PySem.W.alikeAll ds es = true ∧ (PyData.list ds).depth ≤ 60 ∧ Q (.bl (PyData.eqvAll ds es)) H
section
variable {X : Cx} {k : Nat}
theorem op_eqL (hr : Room k X.A) : OpR X (compareOp .Eq) rEqL := by
  intro pins s σ H x y v u Q I rx ry h
  obtain ⟨ds, es, hd, he, ha, hdp, q⟩ := h
  obtain ⟨as, r1, _⟩ := reads_of I.hok _ _ _ hd rx
  obtain ⟨bs, r2, _⟩ := reads_of I.hok _ _ _ he ry
  have hu := hr.units
  have hm : min ((PyData.list ds).depth) ((PyData.list es).depth) ≤ (PyData.list ds).depth := Nat.min_le_left _ _
  exact eq_lists r1 r2 ha (by omega) _ _ _ _ ⟨.bl _, H, I, rfl, q⟩
end
theorem alike_strs : ∀ xs ys : List Str, PySem.W.alikeAll (xs.map PyData.str) (ys.map PyData.str) = true
  | [], [] => rfl
  | [], _ :: _ => rfl
  | _ :: _, [] => rfl
  | x :: xs, y :: ys => by
    have := alike_strs xs ys
    simp only [List.map_cons, PySem.W.alikeAll, PySem.W.alike, this, Bool.and_self]
theorem depth_strs : ∀ xs : List Str, PyData.depthAll (xs.map PyData.str) = 0
  | [] => rfl
  | x :: xs => by
    have := depth_strs xs
    simp only [List.map_cons, PyData.depthAll, this, PyData.depth, Nat.max_self]
theorem dat_strs {H : Hp} : ∀ xs : List Str, DatAll H (xs.map PyData.str) (xs.map V.str)
  | [] => by simp only [List.map_nil, DatAll]
  | x :: xs => by
    have := dat_strs (H := H) xs
    simp only [List.map_cons, DatAll]
    exact ⟨_, _, rfl, by simp only [Dat], this⟩
theorem dat_strL {H : Hp} {p : Addr} {xs : List Str} (h : H p = some (.lst (xs.map V.str))) : Dat H (.list (xs.map PyData.str)) (.ref p) := by
  simp only [Dat]
  exact ⟨p, _, rfl, h, dat_strs xs⟩
theorem eqv_strs (xs : List Str) : PyData.eqvAll (xs.map PyData.str) (xs.map PyData.str) = true := PySem.W.eqvAll_refl_alike _ (alike_strs xs xs)
end FA
end

/-! K11a -/
section
open PySem PySem.Spec PyProof.Rows L2 FA
namespace K11
def top (i : Nat) : Stmt := PySem.Challenge.pw_failsalike_k11_facts_added_and_asked.main.body.getD i (.Pass ⟨0, 0, 0, 0⟩)
abbrev FnP (K : PySem.W.Frag) (x : Str) (i : Nat) (f : Addr) (fd : FuncData) : Prop := FunD K x x (defArgs (top i)) (defBody (top i)) (defScope (top i)) [] [] f fd
abbrev FnC (K : PySem.W.Frag) (m q : Str) (j : Nat) (f : Addr) (fd : FuncData) : Prop := FunD K m q (defArgs (inClass (top 3) j)) (defBody (inClass (top 3) j)) (defScope (inClass (top 3) j)) [] [] f fd
/-! values, their counts -/
def Vv (v : V) : Prop := v = .non ∨ (∃ i : Int, v = .int i ∧ i.natAbs ≤ 10 ^ 12) ∨ ∃ z, v = .str z
def kindV : V → Str
  | .non => "nothing"
  | .str _ => "word"
  | _ => "number"
def intsOf : List V → List Int
  | [] => []
  | .int i :: r => i :: intsOf r
  | _ :: r => intsOf r
def nonsOf : List V → Nat
  | [] => 0
  | .non :: r => nonsOf r + 1
  | _ :: r => nonsOf r
def strsOf : List V → Nat
  | [] => 0
  | .str _ :: r => strsOf r + 1
  | _ :: r => strsOf r
theorem counts : ∀ {xs : List V}, (∀ v ∈ xs, Vv v) → nonsOf xs + (intsOf xs).length + strsOf xs = xs.length
  | [], _ => rfl
  | v :: r, h => by
    have ih := counts (xs := r) fun u hu => h u (List.mem_cons_of_mem _ hu)
    rcases h v List.mem_cons_self with rfl | ⟨i, rfl, _⟩ | ⟨z, rfl⟩ <;> simp only [nonsOf, intsOf, strsOf, List.length_cons] <;> omega
theorem ints_small : ∀ {xs : List V}, (∀ v ∈ xs, Vv v) → ∀ i ∈ intsOf xs, i.natAbs ≤ 10 ^ 12
  | [], _, i, hi => nomatch hi
  | v :: r, h, i, hi => by
    have ih := ints_small (xs := r) fun u hu => h u (List.mem_cons_of_mem _ hu)
    rcases h v List.mem_cons_self with rfl | ⟨j, rfl, hj⟩ | ⟨z, rfl⟩
    · exact ih i hi
    · rcases List.mem_cons.mp hi with rfl | hi
      · exact hj
      · exact ih i hi
    · exact ih i hi
theorem intsOf_app : ∀ xs ys : List V, intsOf (xs ++ ys) = intsOf xs ++ intsOf ys
  | [], _ => rfl
  | v :: r, ys => by cases v <;> simp only [List.cons_append, intsOf, intsOf_app r ys]
theorem nonsOf_app : ∀ xs ys : List V, nonsOf (xs ++ ys) = nonsOf xs + nonsOf ys
  | [], _ => by simp [nonsOf]
  | v :: r, ys => by cases v <;> simp only [List.cons_append, nonsOf, nonsOf_app r ys] <;> omega
theorem strsOf_app : ∀ xs ys : List V, strsOf (xs ++ ys) = strsOf xs + strsOf ys
  | [], _ => by simp [strsOf]
  | v :: r, ys => by cases v <;> simp only [List.cons_append, strsOf, strsOf_app r ys] <;> omega
/-! the least and the greatest -/
def optV : Option Int → V
  | some m => .int m
  | none => .non
def loV (ns : List Int) : V := optV ns.min?
def hiV (ns : List Int) : V := optV ns.max?
theorem lo_is {ns : List Int} {m : Int} (h : m ∈ ns) (h2 : ∀ y ∈ ns, m ≤ y) : loV ns = .int m := by
  unfold loV
  rw [List.min?_eq_some_iff.mpr ⟨h, h2⟩]
  rfl
theorem hi_is {ns : List Int} {m : Int} (h : m ∈ ns) (h2 : ∀ y ∈ ns, y ≤ m) : hiV ns = .int m := by
  unfold hiV
  rw [List.max?_eq_some_iff.mpr ⟨h, h2⟩]
  rfl
theorem lo_cases (ns : List Int) : ns = [] ∧ loV ns = .non ∧ hiV ns = .non ∨ ∃ l h, loV ns = .int l ∧ hiV ns = .int h ∧ l ∈ ns ∧ h ∈ ns ∧ (∀ y ∈ ns, l ≤ y) ∧ ∀ y ∈ ns, y ≤ h := by
  cases e : ns.min? with
  | none =>
    have := List.min?_eq_none_iff.mp e
    subst this
    exact .inl ⟨rfl, rfl, rfl⟩
  | some l =>
    cases e2 : ns.max? with
    | none =>
      have := List.max?_eq_none_iff.mp e2
      subst this
      cases e
    | some h =>
      obtain ⟨a, b⟩ := List.min?_eq_some_iff.mp e
      obtain ⟨c, d⟩ := List.max?_eq_some_iff.mp e2
      exact .inr ⟨l, h, lo_is a b, hi_is c d, a, c, b, d⟩
/-- the least depends on what is there alone -/
theorem lo_ext {ns ms : List Int} (h : ∀ y, y ∈ ns ↔ y ∈ ms) : loV ns = loV ms := by
  rcases lo_cases ns with ⟨rfl, e, _⟩ | ⟨l, _, e, _, a, _, b, _⟩
  · have : ms = [] := List.eq_nil_iff_forall_not_mem.mpr fun y hy => by simpa using (h y).mpr hy
    rw [this]
  · rw [e, lo_is ((h l).mp a) fun y hy => b y ((h y).mpr hy)]
theorem hi_ext {ns ms : List Int} (h : ∀ y, y ∈ ns ↔ y ∈ ms) : hiV ns = hiV ms := by
  rcases lo_cases ns with ⟨rfl, _, e⟩ | ⟨_, l, _, e, _, a, _, b⟩
  · have : ms = [] := List.eq_nil_iff_forall_not_mem.mpr fun y hy => by simpa using (h y).mpr hy
    rw [this]
  · rw [e, hi_is ((h l).mp a) fun y hy => b y ((h y).mpr hy)]
/-- the ends of two lots, those that are there -/
def ends (ns ms : List Int) : List Int := ns.min?.toList ++ ns.max?.toList ++ ms.min?.toList ++ ms.max?.toList
theorem end_mem {ns : List Int} {y : Int} (h : y ∈ ns.min?.toList ++ ns.max?.toList) : y ∈ ns := by
  rcases List.mem_append.mp h with h | h
  · rw [Option.mem_toList] at h
    exact (List.min?_eq_some_iff.mp h).1
  · rw [Option.mem_toList] at h
    exact (List.max?_eq_some_iff.mp h).1
theorem end_le {ns : List Int} {y : Int} (h : y ∈ ns) : ∃ m ∈ ns.min?.toList ++ ns.max?.toList, m ≤ y := by
  cases e : ns.min? with
  | none =>
    have := List.min?_eq_none_iff.mp e
    subst this
    cases h
  | some m => exact ⟨m, by simp, (List.min?_eq_some_iff.mp e).2 y h⟩
theorem end_ge {ns : List Int} {y : Int} (h : y ∈ ns) : ∃ m ∈ ns.min?.toList ++ ns.max?.toList, y ≤ m := by
  cases e : ns.max? with
  | none =>
    have := List.max?_eq_none_iff.mp e
    subst this
    cases h
  | some m => exact ⟨m, by simp, (List.max?_eq_some_iff.mp e).2 y h⟩
theorem ends_mem {ns ms : List Int} {y : Int} (h : y ∈ ends ns ms) : y ∈ ns ++ ms := by
  unfold ends at h
  rw [List.append_assoc] at h
  rcases List.mem_append.mp h with h | h
  · exact List.mem_append_left _ (end_mem h)
  · exact List.mem_append_right _ (end_mem h)
theorem ends_le {ns ms : List Int} {y : Int} (h : y ∈ ns ++ ms) : ∃ m ∈ ends ns ms, m ≤ y := by
  unfold ends
  rw [List.append_assoc]
  rcases List.mem_append.mp h with h | h
  · obtain ⟨m, a, b⟩ := end_le h
    exact ⟨m, List.mem_append_left _ a, b⟩
  · obtain ⟨m, a, b⟩ := end_le h
    exact ⟨m, List.mem_append_right _ a, b⟩
theorem ends_ge {ns ms : List Int} {y : Int} (h : y ∈ ns ++ ms) : ∃ m ∈ ends ns ms, y ≤ m := by
  unfold ends
  rw [List.append_assoc]
  rcases List.mem_append.mp h with h | h
  · obtain ⟨m, a, b⟩ := end_ge h
    exact ⟨m, List.mem_append_left _ a, b⟩
  · obtain ⟨m, a, b⟩ := end_ge h
    exact ⟨m, List.mem_append_right _ a, b⟩
theorem ends_lo (ns ms : List Int) : loV (ends ns ms) = loV (ns ++ ms) := by
  rcases lo_cases (ends ns ms) with ⟨e0, e, _⟩ | ⟨l, _, e, _, a, _, b, _⟩
  · have : ns ++ ms = [] := List.eq_nil_iff_forall_not_mem.mpr fun y hy => by
      obtain ⟨m, q, _⟩ := ends_le hy
      rw [e0] at q
      cases q
    rw [e, this]
    rfl
  · rw [e, lo_is (ends_mem a) fun y hy => by
      obtain ⟨m, q, z⟩ := ends_le hy
      exact Int.le_trans (b m q) z]
theorem ends_hi (ns ms : List Int) : hiV (ends ns ms) = hiV (ns ++ ms) := by
  rcases lo_cases (ends ns ms) with ⟨e0, _, e⟩ | ⟨_, l, _, e, _, a, _, b⟩
  · have : ns ++ ms = [] := List.eq_nil_iff_forall_not_mem.mpr fun y hy => by
      obtain ⟨m, q, _⟩ := ends_le hy
      rw [e0] at q
      cases q
    rw [e, this]
    rfl
  · rw [e, hi_is (ends_mem a) fun y hy => by
      obtain ⟨m, q, z⟩ := ends_ge hy
      exact Int.le_trans z (b m q)]
/-! facts -/
structure Fc where
  a : Nat
  ns : List Int
  w : Nat
def fcOf (xs : List V) : Fc := ⟨nonsOf xs, intsOf xs, strsOf xs⟩
def Fc.add (F G : Fc) : Fc := ⟨F.a + G.a, F.ns ++ G.ns, F.w + G.w⟩
theorem fcOf_app (xs ys : List V) : fcOf (xs ++ ys) = (fcOf xs).add (fcOf ys) := by simp only [fcOf, Fc.add, intsOf_app, nonsOf_app, strsOf_app]
def iS (i : Int) : Str := Str.ofString (toString i)
def spanS : V → V → Str
  | .int l, .int h => Str.empty ++ " from " ++ iS l ++ " to " ++ iS h
  | _, _ => ""
def txt (a n w : Int) (lo hi : V) : Str := Str.empty ++ iS a ++ " nothing, " ++ iS n ++ " numbers" ++ spanS lo hi ++ ", " ++ iS w ++ " words"
def flds (F : Fc) : List (Str × V) := [("nothings", .int F.a), ("numbers", .int F.ns.length), ("words", .int F.w), ("least", loV F.ns), ("greatest", hiV F.ns), ("text", .str (txt F.a F.ns.length F.w (loV F.ns) (hiV F.ns)))]
/-- not too many, not too great -/
structure Fok (N : Nat) (F : Fc) : Prop where
  a : F.a ≤ N
  n : F.ns.length ≤ N
  w : F.w ≤ N
  i : ∀ y ∈ F.ns, y.natAbs ≤ 10 ^ 12
theorem Fok.add {N M : Nat} {F G : Fc} (h : Fok N F) (g : Fok M G) : Fok (N + M) (F.add G) := by
  refine ⟨Nat.add_le_add h.a g.a, ?_, Nat.add_le_add h.w g.w, fun y hy => ?_⟩
  · show (F.ns ++ G.ns).length ≤ _
    rw [List.length_append]
    exact Nat.add_le_add h.n g.n
  · rcases List.mem_append.mp hy with hy | hy
    · exact h.i y hy
    · exact g.i y hy
theorem fok_of {xs : List V} {N : Nat} (h : ∀ v ∈ xs, Vv v) (hl : xs.length ≤ N) : Fok N (fcOf xs) := by
  have c := counts h
  refine ⟨?_, ?_, ?_, ints_small h⟩
  · show nonsOf xs ≤ N
    omega
  · show (intsOf xs).length ≤ N
    omega
  · show strsOf xs ≤ N
    omega
/-- a facts object at x -/
def Fx (C : Addr) (H : Hp) (x : Addr) (F : Fc) : Prop := ∃ dx, H x = some (.ins C dx (flds F))
theorem Fx.same {C x : Addr} {H H' : Hp} {F : Fc} (h : Fx C H x F) (s : Same H H') : Fx C H' x F := by
  obtain ⟨dx, e⟩ := h
  exact ⟨dx, s _ _ e⟩
theorem fx_hid {C x d c : Addr} {H H' : Hp} {F : Fc} (h : Fx C (hid d c H) x F) : Fx C H x F := by
  obtain ⟨dx, e⟩ := h
  exact ⟨dx, hid_sub _ _ e⟩
theorem log_small {i : Int} (h : i.natAbs ≤ 10 ^ 12) : i.natAbs.log2 < 1920 := by
  by_cases z : i.natAbs = 0
  · rw [z]; decide
  · refine (Nat.log2_lt z).mpr (Nat.lt_of_le_of_lt h ?_)
    decide +kernel
theorem iS_len {i : Int} (h : i.natAbs ≤ 10 ^ 12) : (iS i).length ≤ 14 := by
  have e := int_text_length_le10 (k := 13) (by decide) (Nat.lt_of_le_of_lt h (by decide))
  have e2 : (iS i).length = (toString i).length := by
    unfold iS
    rw [PySem.ofString_length]
    try rfl
  rw [e2]
  omega
end K11
end

/-! K11b -/
section
open PySem PySem.Spec PyProof.Rows L2 FA
namespace K11
section
variable {P : Program} {w : World} {K : PySem.W.Frag} {mg : Str → Option Value} {base : Heap} {f : Addr} {fd : FuncData} {C : Addr}
/-- what is known of the class -/
structure Kf (K : PySem.W.Frag) (C : Addr) : Prop where
  icl : Icl K C
  no : ∀ x, x ∈ (["nothings", "numbers", "words", "least", "greatest", "text"] : List Str) → NoAttr K C x
  kit : PySem.W.kitOne K (.ref C) (.ref C) = some true
def isStrV : V → Bool
  | .str _ => true
  | _ => false
def isIntV : V → Bool
  | .int _ => true
  | _ => false
theorem vv_ty {H : Hp} {v : V} (h : Vv v) : ∃ t, TyX K H v (.type t) ∧ PySem.W.kitOne K (.type t) (.type "str") = some (isStrV v) ∧ PySem.W.kitOne K (.type t) (.type "int") = some (isIntV v) := by
  rcases h with rfl | ⟨i, rfl, _⟩ | ⟨z, rfl⟩
  · exact ⟨"NoneType", .base .non, kit_ty (by simp only [isStrV]; decide +kernel), kit_ty (by simp only [isIntV]; decide +kernel)⟩
  · exact ⟨"int", .base (.int _), kit_ty (by simp only [isStrV]; decide +kernel), kit_ty (by simp only [isIntV]; decide +kernel)⟩
  · exact ⟨"str", .base (.str _), kit_ty (by simp only [isStrV]; decide +kernel), kit_ty (by simp only [isIntV]; decide +kernel)⟩
def spKind : Sp := fun vs H Q _ => ∃ v, vs = [v] ∧ Vv v ∧ Q (.str (kindV v)) H
theorem sc_kind_of : FnScope ["value"] ["value"] (defScope (top 1)) := ⟨rfl, rfl, rfl, by decide +kernel, rfl, by decide +kernel, by decide +kernel⟩
theorem ok_kind_of (F : FnP K "kind_of" 1 f fd) (hS : ∃ o, base.get? sysModules = some o) (m_isinstance : mg "isinstance" = none) (m_str : mg "str" = none) :
    FnG P w K mg base CX0 1 f fd ["value"] spKind := by
  refine okD F sc_kind_of hS (fun vs H Q E h => ?_) (fun cdv A outer s H vs Q E R h => ?_)
  · obtain ⟨v, rfl, _⟩ := h
    rfl
  obtain ⟨v, rfl, hv, q⟩ := h
  have nd := sc_kind_of.nd
  refine ⟨_, (pss_cons (ps_if (pt_cmpR op_isN (pv 0) pe_non (nomark _)) (pss_one (ps_ret pe_str)) pss_nil) (pss_cons (ps_if (pt_val (pe_callB call_isi rfl m_isinstance bt_isinstance (pa_cons (pv 0) (pa_cons (pe_bltn (v := .ty "str") (u := .type "str") rfl m_str bt_str rfl) pa_nil)))) (pss_one (ps_ret pe_str)) pss_nil) (pss_one (ps_ret pe_str)))), ?r⟩
  case r =>
    obtain ⟨t, ht, hk, _⟩ := vv_ty (K := K) (H := H) hv
    refine ⟨_, rfl, rfl, _, rfl, ?_⟩
    rcases hv with rfl | ⟨i, rfl, _⟩ | ⟨z, rfl⟩
    · exact q
    · exact iteF ⟨_, rfl, _, _, _, _, _, rfl, .ty _, ht, hk, _, rfl, q⟩
    · exact iteF ⟨_, rfl, _, _, _, _, _, rfl, .ty _, ht, hk, _, rfl, q⟩
def spTxt : Sp := fun vs H Q _ => ∃ (a n w : Int) (lo hi : V), vs = [.int a, .int n, .int w, lo, hi] ∧ a.natAbs ≤ 10 ^ 12 ∧ n.natAbs ≤ 10 ^ 12 ∧ w.natAbs ≤ 10 ^ 12 ∧
  (lo = .non ∨ ∃ l h : Int, lo = .int l ∧ hi = .int h ∧ l.natAbs ≤ 10 ^ 12 ∧ h.natAbs ≤ 10 ^ 12) ∧ Q (.str (txt a n w lo hi)) H
theorem fit_app {x y : Str} {n m : Nat} (hx : x.length ≤ n) (hy : y.length ≤ m) : (x ++ y).length ≤ n + m := by
  rw [Str.length_append]
  exact Nat.add_le_add hx hy
theorem fit_line {x : Str} {n : Nat} (hx : x.length ≤ n) (h : n ≤ 1000 := by decide) : x.length ≤ sizeLine := by
  rw [sizeLine_eq]; omega
theorem span_len {lo hi : V} (h : lo = .non ∨ ∃ l h : Int, lo = .int l ∧ hi = .int h ∧ l.natAbs ≤ 10 ^ 12 ∧ h.natAbs ≤ 10 ^ 12) : (spanS lo hi).length ≤ 40 := by
  rcases h with rfl | ⟨l, h, rfl, rfl, l1, h1⟩
  · show (Str.ofString "").length ≤ 40
    decide
  · show (Str.empty ++ " from " ++ iS l ++ " to " ++ iS h).length ≤ 40
    have e := fit_app (fit_app (fit_app (fit_app (show Str.empty.length ≤ 0 by decide) (show (Str.ofString " from ").length ≤ 6 by decide)) (iS_len l1)) (show (Str.ofString " to ").length ≤ 4 by decide)) (iS_len h1)
    exact Nat.le_trans e (by decide)
theorem sc_text_of : FnScope ["nothings", "numbers", "words", "least", "greatest", "span"] ["nothings", "numbers", "words", "least", "greatest"] (defScope (top 4)) := ⟨rfl, rfl, rfl, by decide +kernel, rfl, by decide +kernel, by decide +kernel⟩
theorem ok_text_of (F : FnP K "text_of" 4 f fd) (hS : ∃ o, base.get? sysModules = some o) :
    FnG P w K mg base CX0 1 f fd ["nothings", "numbers", "words", "least", "greatest"] spTxt := by
  refine okD F sc_text_of hS (fun vs H Q E h => ?_) (fun cdv A outer s H vs Q E R h => ?_)
  · obtain ⟨a, n, w, lo, hi, rfl, _⟩ := h
    rfl
  obtain ⟨a, n, w, lo, hi, rfl, ha, hn, hw, hl, q⟩ := h
  have nd := sc_text_of.nd
  refine ⟨_, (pss_cons (ps_set (i := 5) nd rfl (Or.inl rfl) (pe_ifExp (pt_cmpR op_isN (pv 3) pe_non (nomark _)) pe_str (pe_joined (.cons pe_str (.cons (pe_fmt (pv 3)) (.cons pe_str (.cons (pe_fmt (pv 4)) .nil))))))) (pss_one (ps_ret (pe_joined (.cons (pe_fmt (pv 0)) (.cons pe_str (.cons (pe_fmt (pv 1)) (.cons pe_str (.cons (pe_fmt (pv 5)) (.cons pe_str (.cons (pe_fmt (pv 2)) (.cons pe_str .nil)))))))))))), ?r⟩
  case r =>
    have sl := span_len hl
    have e0 : Str.empty.length ≤ 0 := by decide
    have e1 := fit_app e0 (iS_len ha)
    have e2 := fit_app e1 (show (Str.ofString " nothing, ").length ≤ 10 by decide)
    have e3 := fit_app e2 (iS_len hn)
    have e4 := fit_app e3 (show (Str.ofString " numbers").length ≤ 8 by decide)
    have e5 := fit_app e4 sl
    have e6 := fit_app e5 (show (Str.ofString ", ").length ≤ 2 by decide)
    have e7 := fit_app e6 (iS_len hw)
    have e8 := fit_app e7 (show (Str.ofString " words").length ≤ 6 by decide)
    have fin : ∀ (s : Str), s = spanS lo hi → (tRet (fun σ H Q => tJs [(tFmt (tVar 0)), (tC (V.str " nothing, ")), (tFmt (tVar 1)), (tC (V.str " numbers")), (tFmt (tVar 5)), (tC (V.str ", ")), (tFmt (tVar 2)), (tC (V.str " words"))] Str.empty σ H fun out H1 => Q (V.str out) H1)) { nx := fun _ H' => Q .non H', rt := Q } [some (.int a), some (.int n), some (.int w), some lo, some hi, some (.str s)] H := by
      rintro s rfl
      refine ⟨_, rfl, .inr ⟨a, rfl, log_small ha, _, rfl, fit_line e1, _, rfl, fit_line e2, _, rfl, .inr ⟨n, rfl, log_small hn, _, rfl, fit_line e3, _, rfl, fit_line e4, _, rfl, .inl ⟨_, rfl, fit_line sl, _, rfl, fit_line e5, _, rfl, fit_line e6, _, rfl, .inr ⟨w, rfl, log_small hw, _, rfl, fit_line e7, _, rfl, fit_line e8, q⟩⟩⟩⟩⟩
    rcases hl with rfl | ⟨l, h, rfl, rfl, l1, h1⟩
    · exact ⟨_, rfl, rfl, _, rfl, iteT (fin _ rfl)⟩
    · have d1 := fit_app e0 (show (Str.ofString " from ").length ≤ 6 by decide)
      have d2 := fit_app d1 (iS_len l1)
      have d3 := fit_app d2 (show (Str.ofString " to ").length ≤ 4 by decide)
      have d4 := fit_app d3 (iS_len h1)
      exact ⟨_, rfl, rfl, _, rfl, iteF ⟨_, rfl, fit_line d1, _, rfl, .inr ⟨l, rfl, log_small l1, _, rfl, fit_line d2, _, rfl, fit_line d3, _, rfl, .inr ⟨h, rfl, log_small h1, _, rfl, fit_line d4, fin _ rfl⟩⟩⟩⟩
def kN (F : Fc) (k : Str) : Nat := if k = "nothing" then F.a else if k = "number" then F.ns.length else F.w
def spMany (C : Addr) : Sp := fun vs H Q _ => ∃ (x : Addr) (F : Fc) (k : Str), vs = [.ref x, .str k] ∧ Fx C H x F ∧ Q (.int (kN F k)) H
theorem sc_many_of : FnScope ["facts", "kind"] ["facts", "kind"] (defScope (top 5)) := ⟨rfl, rfl, rfl, by decide +kernel, rfl, by decide +kernel, by decide +kernel⟩
theorem ok_many_of (F : FnP K "many_of" 5 f fd) (hS : ∃ o, base.get? sysModules = some o) (T : Kf K C) :
    FnG P w K mg base CX0 1 f fd ["facts", "kind"] (spMany C) := by
  refine okD F sc_many_of hS (fun vs H Q E h => ?_) (fun cdv A outer s H vs Q E R h => ?_)
  · obtain ⟨x, F, k, rfl, _⟩ := h
    rfl
  obtain ⟨x, F, k, rfl, ⟨dx, hx⟩, q⟩ := h
  have nd := sc_many_of.nd
  refine ⟨_, (pss_cons (ps_if (pt_cmpR op_eq (pv 1) pe_str (nomark _)) (pss_one (ps_ret (pe_fld (pv 0) rfl))) pss_nil) (pss_cons (ps_if (pt_cmpR op_eq (pv 1) pe_str (nomark _)) (pss_one (ps_ret (pe_fld (pv 0) rfl))) pss_nil) (pss_one (ps_ret (pe_fld (pv 0) rfl))))), ?r⟩
  case r =>
    unfold kN at q
    refine ⟨_, rfl, rfl, _, rfl, ite2 (fun c1 => ?_) (fun c1 => ?_)⟩
    · rw [if_pos (V.str.inj (of_decide_eq_true c1))] at q
      exact ⟨_, rfl, x, C, dx, _, _, rfl, hx, T.icl.cls, T.no _ (by decide), rfl, q⟩
    · rw [if_neg (fun z => c1 (decide_eq_true (congrArg V.str z)))] at q
      refine ⟨_, rfl, rfl, _, rfl, ite2 (fun c2 => ?_) (fun c2 => ?_)⟩
      · rw [if_pos (V.str.inj (of_decide_eq_true c2))] at q
        exact ⟨_, rfl, x, C, dx, _, _, rfl, hx, T.icl.cls, T.no _ (by decide), rfl, q⟩
      · rw [if_neg (fun z => c2 (decide_eq_true (congrArg V.str z)))] at q
        exact ⟨_, rfl, x, C, dx, _, _, rfl, hx, T.icl.cls, T.no _ (by decide), rfl, q⟩
end
end K11
end

/-! K11c -/
section
open PySem PySem.Spec PyProof.Rows L2 FA
namespace K11
section
variable {P : Program} {w : World} {K : PySem.W.Frag} {mg : Str → Option Value} {base : Heap} {f : Addr} {fd : FuncData} {C : Addr}
/-- all but x stands as it was -/
def Oth (x : Addr) (H H' : Hp) : Prop := ∀ b o, b ≠ x → H b = some o → H' b = some o
theorem oth_upd {x : Addr} {H : Hp} {o : HO} : Oth x H (upd H x o) := fun b u n h => (upd_ne n).trans h
theorem oth_same {x : Addr} {H H' : Hp} (s : Same H H') : Oth x H H' := fun b o _ h => s b o h
theorem Oth.trans {x : Addr} {H H1 H2 : Hp} (a : Oth x H H1) (b : Oth x H1 H2) : Oth x H H2 := fun y o n h => b y o n (a y o n h)
def spInit (C : Addr) : Sp := fun vs H Q _ => ∃ (x p dx : Addr) (rest : List V), vs = [.ref x, .ref p] ∧ H x = some (.ins C dx []) ∧ H p = some (.tup rest) ∧ rest.length ≤ 100 ∧ (∀ v ∈ rest, Vv v) ∧
  ∀ H', H' x = some (.ins C dx (flds (fcOf rest))) → Oth x H H' → Q .non H'
theorem take_snoc {xs : List V} {i : Nat} {v : V} (h : xs[i]? = some v) : xs.take (i + 1) = xs.take i ++ [v] := by
  rw [List.take_succ, h]
  rfl
theorem take_all (xs : List V) : xs.take xs.length = xs := List.take_length
theorem kind_num {v : V} (h : Vv v) : (kindV v = "number") ↔ ∃ i, v = .int i := by
  rcases h with rfl | ⟨i, rfl, _⟩ | ⟨z, rfl⟩
  · exact ⟨fun h => absurd h (by simp only [kindV]; decide), by rintro ⟨i, h⟩; cases h⟩
  · exact ⟨fun _ => ⟨i, rfl⟩, fun _ => rfl⟩
  · exact ⟨fun h => absurd h (by simp only [kindV]; decide), by rintro ⟨i, h⟩; cases h⟩
theorem intsOf_other {v : V} (h : Vv v) (n : ¬ ∃ i, v = .int i) : intsOf [v] = [] := by
  rcases h with rfl | ⟨i, rfl, _⟩ | ⟨z, rfl⟩
  · rfl
  · exact absurd ⟨i, rfl⟩ n
  · rfl
theorem nonsOf_other {v : V} (h : Vv v) (n : ¬ v = .non) : nonsOf [v] = 0 := by
  rcases h with rfl | ⟨i, rfl, _⟩ | ⟨z, rfl⟩
  · exact absurd rfl n
  · rfl
  · rfl
theorem nonsOf_le : ∀ xs : List V, nonsOf xs ≤ xs.length
  | [] => Nat.le_refl _
  | v :: r => by
    have := nonsOf_le r
    cases v <;> simp only [nonsOf, List.length_cons] <;> omega
theorem lo_ok {ns : List Int} (h : ∀ y ∈ ns, y.natAbs ≤ 10 ^ 12) : loV ns = .non ∨ ∃ l u : Int, loV ns = .int l ∧ hiV ns = .int u ∧ l.natAbs ≤ 10 ^ 12 ∧ u.natAbs ≤ 10 ^ 12 := by
  rcases lo_cases ns with ⟨_, e, _⟩ | ⟨l, u, e1, e2, m1, m2, _⟩
  · exact .inl e
  · exact .inr ⟨l, u, e1, e2, h l m1, h u m2⟩
theorem nat_small {n : Nat} (h : n ≤ 1000) : (n : Int).natAbs ≤ 10 ^ 12 := by
  rw [Int.natAbs_natCast]
  exact Nat.le_trans h (by decide)
theorem minD_t {H : Hp} {D : Addr} {ns : List Int} {Q : VK} {σ : L2.St} {i : Nat} (hi : σ[i]? = some (some (.ref D))) (h : SqL K H D (ns.map V.int)) (q : Q (loV ns) H) : tCKw (rMinD K) (tCons (tVar i) tNil) (tCons (tC .non) tNil) σ H Q :=
  ⟨_, hi, D, ns, .non, rfl, rfl, h, fun e => by subst e; exact q, fun m h1 h2 => by rw [lo_is h1 h2] at q; exact q⟩
theorem maxD_t {H : Hp} {D : Addr} {ns : List Int} {Q : VK} {σ : L2.St} {i : Nat} (hi : σ[i]? = some (some (.ref D))) (h : SqL K H D (ns.map V.int)) (q : Q (hiV ns) H) : tCKw (rMaxD K) (tCons (tVar i) tNil) (tCons (tC .non) tNil) σ H Q :=
  ⟨_, hi, D, ns, .non, rfl, rfl, h, fun e => by subst e; exact q, fun m h1 h2 => by rw [hi_is h1 h2] at q; exact q⟩
theorem sub_ans {Q : VK} {H : Hp} {i j k : Int} (e : i - j = k) (q : Q (.int k) H) : rI0 (fun i j => V.int (i - j)) (.int i) (.int j) H Q := by
  subst e
  exact ⟨i, j, rfl, rfl, q⟩
theorem sc_Facts_init : FnScope ["self", "values", "numbers", "value"] ["self", "values"] (defScope (inClass (top 3) 0)) := ⟨rfl, rfl, rfl, by decide +kernel, rfl, by decide +kernel, by decide +kernel⟩
theorem ok_Facts_init (F : FnC K "__init__" "Facts.__init__" 0 f fd) (hS : ∃ o, base.get? sysModules = some o) (T : Kf K C) (m_len : mg "len" = none) (m_min : mg "min" = none) (m_max : mg "max" = none)
    (c_kind_of : Cal P w K mg base 1 "kind_of" ["value"] spKind)
    (c_text_of : Cal P w K mg base 1 "text_of" ["nothings", "numbers", "words", "least", "greatest"] spTxt) :
    FnRG P w K mg base CX0 2 f (fun vs H Q E => ∃ y rest, vs = y :: rest ∧ rest.length ≤ sizeLine ∧ ∀ p, H p = none → spInit C [y, V.ref p] (upd H p (.tup rest)) Q E) := by
  refine okStar F sc_Facts_init hS (fun _ _ _ _ _ _ _ => rfl) (fun _ _ _ _ _ _ _ _ _ => rfl) fun cdv A outer s H vs Q E R h => ?_
  obtain ⟨x, p, dx, rest, rfl, hx, hp, hl, hv, q⟩ := h
  have nd := sc_Facts_init.nd
  refine ⟨_, (pss_cons (ps_setLc1 2 3 rfl nd rfl rfl (by rfl) (pi_tup (pv 1)) (by kernel_rfl) (fun _ _ _ _ _ => pg_name (i := 3) nd rfl (Or.inl rfl)) (fun _ _ _ _ _ => (pts_one (pt_cmpR op_eq (cc c_kind_of (R.blk _ _ _ _ _) (pa_cons (pv 3) pa_nil)) pe_str (nomark _)))) (fun _ _ _ _ _ => (pv 3))) (pss_cons (ps_fld (pv 0) (pe_callB call_lenA rfl m_len bt_len (pa_cons (pe_lc1 3 rfl nd (pi_tup (pv 1)) (by kernel_rfl) (fun _ _ _ _ _ => pg_name (i := 3) nd rfl (Or.inl rfl)) (fun _ _ _ _ _ => (pts_one (pt_cmpR op_isN (pv 3) pe_non (nomark _)))) (fun _ _ _ _ _ => (pv 3))) pa_nil)) rfl) (pss_cons (ps_fld (pv 0) (pe_callB call_lenA rfl m_len bt_len (pa_cons (pv 2) pa_nil)) rfl) (pss_cons (ps_fld (pv 0) (pe_op op_sub (pe_op op_sub (pe_callB call_lenA rfl m_len bt_len (pa_cons (pv 1) pa_nil)) (pe_fld (pv 0) rfl)) (pe_fld (pv 0) rfl)) rfl) (pss_cons (ps_fld (pv 0) (pe_callBK (cr_minD rfl) rfl m_min bt_min (pa_cons (pv 2) pa_nil) (pk_cons pe_non pk_nil)) rfl) (pss_cons (ps_fld (pv 0) (pe_callBK (cr_maxD rfl) rfl m_max bt_max (pa_cons (pv 2) pa_nil) (pk_cons pe_non pk_nil)) rfl) (pss_one (ps_fld (pv 0) (cc c_text_of R (pa_cons (pe_fld (pv 0) rfl) (pa_cons (pe_fld (pv 0) rfl) (pa_cons (pe_fld (pv 0) rfl) (pa_cons (pe_fld (pv 0) rfl) (pa_cons (pe_fld (pv 0) rfl) pa_nil)))))) rfl)))))))), ?r⟩
  case r =>
    have T0 := T.icl.cls
    have nox : ∀ {D : Addr} {H0 : Hp}, H0 D = none → H0 x ≠ none → D ≠ x := fun a b e => b (e ▸ a)
    -- numbers
    refine ⟨_, rfl, p, rfl, ⟨_, SqT.of hp⟩, fun D hD => ?_⟩
    refine lc_tup (K := K) (a := p) (xs := rest) (fun i H' => Same H H' ∧ H' D = some (.lst ((intsOf (rest.take i)).map V.int))) ⟨same_new hD _, upd_same⟩ (fun i H' _ ⟨z, _⟩ => SqT.of (z _ _ hp)) ?_ ?_
    · rintro i v H1 hi ⟨s1, e1⟩
      have vv := hv v (List.mem_of_getElem? hi)
      have hi2 : i < rest.length := (List.getElem?_eq_some_iff.mp hi).1
      have ts := take_snoc hi
      refine ⟨rfl, _, rfl, v, rfl, vv, rfl, _, rfl, ite2 (fun c => ?_) (fun c => ?_)⟩
      · obtain ⟨j, rfl⟩ := (kind_num vv).mp (V.str.inj (of_decide_eq_true c))
        refine ⟨_, rfl, _, e1, ?_, ?_⟩
        · rw [List.length_map]
          have := counts (xs := rest.take i) fun u hu => hv u (List.mem_of_mem_take hu)
          have l2 : (rest.take i).length ≤ 100 := Nat.le_trans (List.length_take_le' _ _) hl
          rw [sizeLine_eq]
          omega
        · refine ⟨same_mut s1 hD, ?_⟩
          rw [upd_same, ts, intsOf_app, List.map_append]
          rfl
      · refine ⟨s1, ?_⟩
        rw [ts, intsOf_app, intsOf_other vv (fun h => c (decide_eq_true (congrArg V.str ((kind_num vv).mpr h)))), List.append_nil]
        exact e1
    rintro H1 ⟨s1, e1⟩
    rw [take_all] at e1
    have hx1 := s1 _ _ hx
    have hp1 := s1 _ _ hp
    -- nothings
    refine ⟨_, rfl, p, rfl, ⟨_, SqT.of hp1⟩, fun D2 hD2 => ?_⟩
    refine lc_tup (K := K) (a := p) (xs := rest) (fun i H' => Same H1 H' ∧ ∃ acc, H' D2 = some (.lst acc) ∧ acc.length = nonsOf (rest.take i)) ⟨same_new hD2 _, [], upd_same, rfl⟩ (fun i H' _ ⟨z, _⟩ => SqT.of (z _ _ hp1)) ?_ ?_
    · rintro i v H2 hi ⟨s2, acc, e2, l2⟩
      have vv := hv v (List.mem_of_getElem? hi)
      have ts := take_snoc hi
      refine ⟨rfl, _, rfl, rfl, _, rfl, ite2 (fun c => ?_) (fun c => ?_)⟩
      · have := of_decide_eq_true c
        subst this
        refine ⟨_, rfl, _, e2, ?_, same_mut s2 hD2, _, upd_same, ?_⟩
        · rw [l2]
          have := nonsOf_le (rest.take i)
          have l3 : (rest.take i).length ≤ 100 := Nat.le_trans (List.length_take_le' _ _) hl
          rw [sizeLine_eq]
          omega
        · rw [ts, nonsOf_app, List.length_append, l2]
          rfl
      · refine ⟨s2, acc, e2, ?_⟩
        rw [ts, nonsOf_app, nonsOf_other vv (fun h => c (decide_eq_true h)), l2]
        rfl
    rintro H2 ⟨s2, acc, e2, l2⟩
    rw [take_all] at l2
    have hx2 := s2 _ _ hx1
    have hp2 := s2 _ _ hp1
    have hD1 := s2 _ _ e1
    refine .inl ⟨D2, _, rfl, .inl (SqL.of e2), ?_⟩
    rw [l2]
    refine ⟨_, rfl, x, C, dx, _, rfl, hx2, T0, T.no _ (by decide), by simp, ?_⟩
    have px : p ≠ x := ne_of hp hx (by intro z; cases z)
    have Dx : D ≠ x := ne_of hD1 hx2 (by intro z; cases z)
    have o3 : Oth x H2 (upd H2 x (.ins C dx (putF "nothings" (.int (nonsOf rest)) []))) := oth_upd
    have hx3 : upd H2 x (.ins C dx (putF "nothings" (.int (nonsOf rest)) [])) x = some (.ins C dx [("nothings", .int (nonsOf rest))]) := upd_same
    generalize upd H2 x (.ins C dx (putF "nothings" (.int (nonsOf rest)) [])) = H3 at o3 hx3
    have hD3 := o3 _ _ Dx hD1
    -- numbers
    refine ⟨_, rfl, .inl ⟨D, _, rfl, .inl (SqL.of hD3), ?_⟩⟩
    rw [List.length_map]
    refine ⟨_, rfl, x, C, dx, _, rfl, hx3, T0, T.no _ (by decide), by simp, ?_⟩
    have o4 : Oth x H3 (upd H3 x (.ins C dx (putF "numbers" (.int (intsOf rest).length) [("nothings", .int (nonsOf rest))]))) := oth_upd
    have hx4 : upd H3 x (.ins C dx (putF "numbers" (.int (intsOf rest).length) [("nothings", .int (nonsOf rest))])) x = some (.ins C dx [("nothings", .int (nonsOf rest)), ("numbers", .int (intsOf rest).length)]) := upd_same
    generalize upd H3 x (.ins C dx (putF "numbers" (.int (intsOf rest).length) [("nothings", .int (nonsOf rest))])) = H4 at o4 hx4
    have hD4 := o4 _ _ Dx hD3
    have hp4 := o4 _ _ px (o3 _ _ px hp2)
    -- words
    refine ⟨_, rfl, .inl ⟨p, _, rfl, .inr (SqT.of hp4), ?_⟩⟩
    have ew : (rest.length : Int) - (nonsOf rest : Nat) - ((intsOf rest).length : Nat) = (strsOf rest : Nat) := by
      have := counts hv
      omega
    refine ⟨_, rfl, x, C, dx, _, _, rfl, hx4, T0, T.no _ (by decide), rfl, _, _, rfl, rfl, ?_⟩
    refine ⟨_, rfl, x, C, dx, _, _, rfl, hx4, T0, T.no _ (by decide), rfl, sub_ans ew ?_⟩
    refine ⟨_, rfl, x, C, dx, _, rfl, hx4, T0, T.no _ (by decide), by simp, ?_⟩
    have o5 : Oth x H4 (upd H4 x (.ins C dx (putF "words" (.int (strsOf rest)) [("nothings", .int (nonsOf rest)), ("numbers", .int (intsOf rest).length)]))) := oth_upd
    have hx5 : upd H4 x (.ins C dx (putF "words" (.int (strsOf rest)) [("nothings", .int (nonsOf rest)), ("numbers", .int (intsOf rest).length)])) x = some (.ins C dx [("nothings", .int (nonsOf rest)), ("numbers", .int (intsOf rest).length), ("words", .int (strsOf rest))]) := upd_same
    generalize upd H4 x (.ins C dx (putF "words" (.int (strsOf rest)) [("nothings", .int (nonsOf rest)), ("numbers", .int (intsOf rest).length)])) = H5 at o5 hx5
    have hD5 := o5 _ _ Dx hD4
    -- least, greatest
    refine minD_t rfl (SqL.of hD5) ⟨_, rfl, x, C, dx, _, rfl, hx5, T0, T.no _ (by decide), by simp, ?_⟩
    have o6 : Oth x H5 (upd H5 x (.ins C dx (putF "least" (loV (intsOf rest)) [("nothings", .int (nonsOf rest)), ("numbers", .int (intsOf rest).length), ("words", .int (strsOf rest))]))) := oth_upd
    have hx6 : upd H5 x (.ins C dx (putF "least" (loV (intsOf rest)) [("nothings", .int (nonsOf rest)), ("numbers", .int (intsOf rest).length), ("words", .int (strsOf rest))])) x =
      some (.ins C dx [("nothings", .int (nonsOf rest)), ("numbers", .int (intsOf rest).length), ("words", .int (strsOf rest)), ("least", loV (intsOf rest))]) := upd_same
    generalize upd H5 x (.ins C dx (putF "least" (loV (intsOf rest)) [("nothings", .int (nonsOf rest)), ("numbers", .int (intsOf rest).length), ("words", .int (strsOf rest))])) = H6 at o6 hx6
    have hD6 := o6 _ _ Dx hD5
    refine maxD_t rfl (SqL.of hD6) ⟨_, rfl, x, C, dx, _, rfl, hx6, T0, T.no _ (by decide), by simp, ?_⟩
    have o7 : Oth x H6 (upd H6 x (.ins C dx (putF "greatest" (hiV (intsOf rest)) [("nothings", .int (nonsOf rest)), ("numbers", .int (intsOf rest).length), ("words", .int (strsOf rest)), ("least", loV (intsOf rest))]))) := oth_upd
    have hx7 : upd H6 x (.ins C dx (putF "greatest" (hiV (intsOf rest)) [("nothings", .int (nonsOf rest)), ("numbers", .int (intsOf rest).length), ("words", .int (strsOf rest)), ("least", loV (intsOf rest))])) x =
      some (.ins C dx [("nothings", .int (nonsOf rest)), ("numbers", .int (intsOf rest).length), ("words", .int (strsOf rest)), ("least", loV (intsOf rest)), ("greatest", hiV (intsOf rest))]) := upd_same
    generalize upd H6 x (.ins C dx (putF "greatest" (hiV (intsOf rest)) [("nothings", .int (nonsOf rest)), ("numbers", .int (intsOf rest).length), ("words", .int (strsOf rest)), ("least", loV (intsOf rest))])) = H7 at o7 hx7
    -- the text
    have cs := counts hv
    refine ⟨_, rfl, x, C, dx, _, _, rfl, hx7, T0, T.no _ (by decide), rfl, ?_⟩
    refine ⟨_, rfl, x, C, dx, _, _, rfl, hx7, T0, T.no _ (by decide), rfl, ?_⟩
    refine ⟨_, rfl, x, C, dx, _, _, rfl, hx7, T0, T.no _ (by decide), rfl, ?_⟩
    refine ⟨_, rfl, x, C, dx, _, _, rfl, hx7, T0, T.no _ (by decide), rfl, ?_⟩
    refine ⟨_, rfl, x, C, dx, _, _, rfl, hx7, T0, T.no _ (by decide), rfl, ?_⟩
    refine ⟨_, _, _, _, _, rfl, nat_small (by omega), nat_small (by omega), nat_small (by omega), lo_ok (ints_small hv), ?_⟩
    refine ⟨_, rfl, x, C, dx, _, rfl, hx7, T0, T.no _ (by decide), by simp, ?_⟩
    refine q _ upd_same ?_
    exact ((((((oth_same (s1.trans s2)).trans o3).trans o4).trans o5).trans o6).trans o7).trans oth_upd
end
end K11
end

/-! K11d -/
section
open PySem PySem.Spec PyProof.Rows L2 FA
namespace K11
section
variable {P : Program} {w : World} {K : PySem.W.Frag} {mg : Str → Option Value} {base : Heap} {f : Addr} {fd : FuncData} {C : Addr}
/-- the promise of Facts(..) -/
def spMk (C : Addr) : Sp := fun vs H Q E => ∃ y rest, vs = y :: rest ∧ rest.length ≤ sizeLine ∧ ∀ p, H p = none → spInit C [y, V.ref p] (upd H p (.tup rest)) Q E
theorem mk_ans {vs : List V} {H1 : Hp} {R : VK} {x dx : Addr} (hx : H1 x = none) (hdx : H1 dx = none) (ne : dx ≠ x) (hl : vs.length ≤ 100) (hv : ∀ v ∈ vs, Vv v)
    (q : ∀ H', Same H1 H' → H' x = some (.ins C dx (flds (fcOf vs))) → R .non H') : spMk C (V.ref x :: vs) (upd (upd H1 dx (.own x)) x (.ins C dx [])) R E0 := by
  refine ⟨_, vs, rfl, ?_, fun p hp => ?_⟩
  · rw [sizeLine_eq]; omega
  have px : p ≠ x := fun e => by rw [e, upd_same] at hp; cases hp
  rw [upd_ne px] at hp
  have pdx : p ≠ dx := fun e => by rw [e, upd_same] at hp; cases hp
  rw [upd_ne pdx] at hp
  refine ⟨x, p, dx, vs, rfl, ?_, upd_same, hl, hv, fun H' e o => q H' (fun b u h => ?_) e⟩
  · rw [upd_ne px.symm, upd_same]
  · have bx : b ≠ x := ne_of_none h hx
    have bdx : b ≠ dx := ne_of_none h hdx
    have bp : b ≠ p := ne_of_none h hp
    refine o b u bx ?_
    rw [upd_ne bp, upd_ne bx, upd_ne bdx]
    exact h
def spAdd (C : Addr) : Sp := fun vs H Q _ => ∃ (x y : Addr) (F G : Fc), vs = [.ref x, .ref y] ∧ Fx C H x F ∧ Fx C H y G ∧ Fok 500 F ∧ Fok 500 G ∧
  ∀ z H', Same H H' → H z = none → Fx C H' z (F.add G) → Q (.ref z) H'
def notNon : V → Bool
  | .non => false
  | _ => true
theorem four (ns ms : List Int) : ([loV ns, hiV ns, loV ms, hiV ms] : List V).filter notNon = (ends ns ms).map V.int := by
  have h : ∀ (o : Option Int) (r : List V), (optV o :: r).filter notNon = o.toList.map V.int ++ r.filter notNon := by
    intro o r
    cases o <;> rfl
  unfold loV hiV ends
  rw [h, h, h, h]
  simp
theorem opt_cases (ns : List Int) (v : V) (h : v = loV ns ∨ v = hiV ns) : v = .non ∨ ∃ i, v = .int i := by
  rcases lo_cases ns with ⟨_, e1, e2⟩ | ⟨l, u, e1, e2, _⟩
  · rw [e1, e2] at h
    exact .inl (h.elim id id)
  · rw [e1, e2] at h
    exact .inr (h.elim (fun e => ⟨_, e⟩) fun e => ⟨_, e⟩)
theorem filter_len (xs : List V) : (xs.filter notNon).length ≤ xs.length := List.length_filter_le _ _
def fl6 (a n w lo hi tx : V) : List (Str × V) := [("nothings", a), ("numbers", n), ("words", w), ("least", lo), ("greatest", hi), ("text", tx)]
section
variable {a n w lo hi tx v : V}
theorem pf0 : putF "nothings" v (fl6 a n w lo hi tx) = fl6 v n w lo hi tx := rfl
theorem pf1 : putF "numbers" v (fl6 a n w lo hi tx) = fl6 a v w lo hi tx := rfl
theorem pf2 : putF "words" v (fl6 a n w lo hi tx) = fl6 a n v lo hi tx := rfl
theorem pf3 : putF "least" v (fl6 a n w lo hi tx) = fl6 a n w v hi tx := rfl
theorem pf4 : putF "greatest" v (fl6 a n w lo hi tx) = fl6 a n w lo v tx := rfl
theorem pf5 : putF "text" v (fl6 a n w lo hi tx) = fl6 a n w lo hi v := rfl
end
theorem st_step {NX : Hp → Prop} {H1 : Hp} {z C dz : Addr} {f : Str} {v : V} {fs fs' : List (Str × V)} (e : putF f v fs = fs') (k : ∀ H2, Oth z H1 H2 → H2 z = some (.ins C dz fs') → NX H2) : NX (upd H1 z (.ins C dz (putF f v fs))) := by
  subst e
  exact k _ oth_upd upd_same
theorem sc_Facts_add : FnScope ["self", "other", "ends", "both", "end"] ["self", "other"] (defScope (inClass (top 3) 1)) := ⟨rfl, rfl, rfl, by decide +kernel, rfl, by decide +kernel, by decide +kernel⟩
theorem ok_Facts_add (F : FnC K "__add__" "Facts.__add__" 1 f fd) (hS : ∃ o, base.get? sysModules = some o) (T : Kf K C) (m_isinstance : mg "isinstance" = none) (m_min : mg "min" = none) (m_max : mg "max" = none)
    (k_Facts : MkG P w K mg base 2 "Facts" C (spMk C))
    (c_text_of : Cal P w K mg base 1 "text_of" ["nothings", "numbers", "words", "least", "greatest"] spTxt) :
    FnG P w K mg base CX0 4 f fd ["self", "other"] (spAdd C) := by
  refine okD F sc_Facts_add hS (fun vs H Q E h => ?_) (fun cdv A outer s H vs Q E R h => ?_)
  · obtain ⟨x, y, F, G, rfl, _⟩ := h
    rfl
  obtain ⟨x, y, F, G, rfl, ⟨dx, hx⟩, ⟨dy, hy⟩, fF, fG, q⟩ := h
  have nd := sc_Facts_add.nd
  refine ⟨_, (pss_cons (ps_if (pt_not (pt_val (pe_callB call_isi rfl m_isinstance bt_isinstance (pa_cons (pv 1) (pa_cons (pe_glob (v := .ref _) rfl k_Facts.at_ rfl) pa_nil))))) (pss_one ps_never) pss_nil) (pss_cons (ps_setLc1 2 4 rfl nd rfl rfl (by rfl) (pi_tup (pe_tup (pa_cons (pe_fld (pv 0) rfl) (pa_cons (pe_fld (pv 0) rfl) (pa_cons (pe_fld (pv 1) rfl) (pa_cons (pe_fld (pv 1) rfl) pa_nil)))))) (by kernel_rfl) (fun _ _ _ _ _ => pg_name (i := 4) nd rfl (Or.inl rfl)) (fun _ _ _ _ _ => (pts_one (pt_cmpR op_notN (pv 4) pe_non (nomark _)))) (fun _ _ _ _ _ => (pv 4))) (pss_cons (ps_set (i := 3) nd rfl (Or.inl rfl) (cm0 k_Facts R)) (pss_cons (ps_fld (pv 3) (pe_op opAdd (pe_fld (pv 0) rfl) (pe_fld (pv 1) rfl)) rfl) (pss_cons (ps_fld (pv 3) (pe_op opAdd (pe_fld (pv 0) rfl) (pe_fld (pv 1) rfl)) rfl) (pss_cons (ps_fld (pv 3) (pe_op opAdd (pe_fld (pv 0) rfl) (pe_fld (pv 1) rfl)) rfl) (pss_cons (ps_fld (pv 3) (pe_callBK (cr_minD rfl) rfl m_min bt_min (pa_cons (pv 2) pa_nil) (pk_cons pe_non pk_nil)) rfl) (pss_cons (ps_fld (pv 3) (pe_callBK (cr_maxD rfl) rfl m_max bt_max (pa_cons (pv 2) pa_nil) (pk_cons pe_non pk_nil)) rfl) (pss_cons (ps_fld (pv 3) (cc c_text_of R (pa_cons (pe_fld (pv 3) rfl) (pa_cons (pe_fld (pv 3) rfl) (pa_cons (pe_fld (pv 3) rfl) (pa_cons (pe_fld (pv 3) rfl) (pa_cons (pe_fld (pv 3) rfl) pa_nil)))))) rfl) (pss_one (ps_ret (pv 3)))))))))))), ?r⟩
  case r =>
    have T0 := T.icl.cls
    refine ⟨_, rfl, _, _, _, _, _, rfl, .own C, T.icl.ty hy, T.kit, _, rfl, iteF ?_⟩
    -- the ends
    refine ⟨_, rfl, x, C, dx, _, _, rfl, hx, T0, T.no _ (by decide), rfl, ?_⟩
    refine ⟨_, rfl, x, C, dx, _, _, rfl, hx, T0, T.no _ (by decide), rfl, ?_⟩
    refine ⟨_, rfl, y, C, dy, _, _, rfl, hy, T0, T.no _ (by decide), rfl, ?_⟩
    refine ⟨_, rfl, y, C, dy, _, _, rfl, hy, T0, T.no _ (by decide), rfl, ?_⟩
    refine ⟨by show 4 ≤ sizeLine; decide, fun p hp => ⟨p, rfl, ⟨_, SqT.of upd_same⟩, fun D hD => ?_⟩⟩
    have s1 : Same H (upd H p (.tup [loV F.ns, hiV F.ns, loV G.ns, hiV G.ns])) := same_new hp _
    have e1 : upd H p (.tup [loV F.ns, hiV F.ns, loV G.ns, hiV G.ns]) p = some (.tup [loV F.ns, hiV F.ns, loV G.ns, hiV G.ns]) := upd_same
    generalize upd H p (.tup [loV F.ns, hiV F.ns, loV G.ns, hiV G.ns]) = H1 at s1 e1 hD
    refine lc_tup (K := K) (a := p) (xs := [loV F.ns, hiV F.ns, loV G.ns, hiV G.ns]) (fun i H' => Same H1 H' ∧ H' D = some (.lst (([loV F.ns, hiV F.ns, loV G.ns, hiV G.ns].take i).filter notNon))) ⟨same_new hD _, upd_same⟩ (fun i H' _ ⟨z, _⟩ => SqT.of (z _ _ e1)) ?_ ?_
    · rintro i v H2 hi ⟨s2, e2⟩
      have ts := take_snoc hi
      have vc : v = .non ∨ ∃ i, v = .int i := by
        have hm := List.mem_of_getElem? hi
        simp only [List.mem_cons, List.not_mem_nil, or_false] at hm
        rcases hm with e | e | e | e
        · exact opt_cases _ _ (.inl e)
        · exact opt_cases _ _ (.inr e)
        · exact opt_cases _ _ (.inl e)
        · exact opt_cases _ _ (.inr e)
      refine ⟨rfl, _, rfl, rfl, _, rfl, ite2 (fun c => ?_) (fun c => ?_)⟩
      · rcases vc with rfl | ⟨j, rfl⟩
        · exact absurd c (by decide)
        refine ⟨_, rfl, _, e2, ?_, same_mut s2 hD, ?_⟩
        · have := filter_len ([loV F.ns, hiV F.ns, loV G.ns, hiV G.ns].take i)
          have l3 : ([loV F.ns, hiV F.ns, loV G.ns, hiV G.ns].take i).length ≤ 4 := Nat.le_trans (List.length_take_le' _ _) (Nat.le_refl 4)
          rw [sizeLine_eq]
          omega
        · rw [upd_same, ts, List.filter_append]
          rfl
      · rcases vc with rfl | ⟨j, rfl⟩
        · refine ⟨s2, ?_⟩
          rw [ts, List.filter_append]
          simpa [notNon] using e2
        · exact absurd (show (!decide (V.int j = V.non)) = true from by simp) c
    rintro H2 ⟨s2, e2⟩
    rw [take_all, four] at e2
    -- the sum
    intro z dz hz hdz ne
    refine mk_ans hz hdz ne (Nat.zero_le _) (fun _ h => nomatch h) fun H3 s3 e3 => ⟨rfl, ?_⟩
    have s13 := (s1.trans s2).trans s3
    have hx3 := s13 _ _ hx
    have hy3 := s13 _ _ hy
    have hD3 := s3 _ _ e2
    have hz0 : H z = none := (s1.trans s2).free hz
    have xz : x ≠ z := ne_of_none hx hz0
    have yz : y ≠ z := ne_of_none hy hz0
    have Dz : D ≠ z := ne_of_none e2 hz
    have o3 : Oth z H H3 := oth_same s13
    -- the fields
    have z3 : H3 z = some (.ins C dz (fl6 (.int 0) (.int 0) (.int 0) .non .non (.str (txt 0 0 0 .non .non)))) := e3
    refine ⟨_, rfl, x, C, dx, _, _, rfl, hx3, T0, T.no _ (by decide), rfl, ?_⟩
    refine ⟨_, rfl, y, C, dy, _, _, rfl, hy3, T0, T.no _ (by decide), rfl, .inl (.inl ⟨_, _, rfl, rfl, ?_⟩)⟩
    refine ⟨_, rfl, z, C, dz, _, rfl, z3, T0, T.no _ (by decide), by simp [fl6], ?_⟩
    refine st_step pf0 fun H4 o4 z4 => ?_
    have hx4 := o4 _ _ xz hx3
    have hy4 := o4 _ _ yz hy3
    have hD4 := o4 _ _ Dz hD3
    refine ⟨_, rfl, x, C, dx, _, _, rfl, hx4, T0, T.no _ (by decide), rfl, ?_⟩
    refine ⟨_, rfl, y, C, dy, _, _, rfl, hy4, T0, T.no _ (by decide), rfl, .inl (.inl ⟨_, _, rfl, rfl, ?_⟩)⟩
    refine ⟨_, rfl, z, C, dz, _, rfl, z4, T0, T.no _ (by decide), by simp [fl6], ?_⟩
    refine st_step pf1 fun H5 o5 z5 => ?_
    have hx5 := o5 _ _ xz hx4
    have hy5 := o5 _ _ yz hy4
    have hD5 := o5 _ _ Dz hD4
    refine ⟨_, rfl, x, C, dx, _, _, rfl, hx5, T0, T.no _ (by decide), rfl, ?_⟩
    refine ⟨_, rfl, y, C, dy, _, _, rfl, hy5, T0, T.no _ (by decide), rfl, .inl (.inl ⟨_, _, rfl, rfl, ?_⟩)⟩
    refine ⟨_, rfl, z, C, dz, _, rfl, z5, T0, T.no _ (by decide), by simp [fl6], ?_⟩
    refine st_step pf2 fun H6 o6 z6 => ?_
    have hD6 := o6 _ _ Dz hD5
    refine minD_t rfl (SqL.of hD6) ?_
    refine ⟨_, rfl, z, C, dz, _, rfl, z6, T0, T.no _ (by decide), by simp [fl6], ?_⟩
    refine st_step pf3 fun H7 o7 z7 => ?_
    have hD7 := o7 _ _ Dz hD6
    refine maxD_t rfl (SqL.of hD7) ?_
    refine ⟨_, rfl, z, C, dz, _, rfl, z7, T0, T.no _ (by decide), by simp [fl6], ?_⟩
    refine st_step pf4 fun H8 o8 z8 => ?_
    rw [ends_lo, ends_hi] at z8
    have fk := fF.add fG
    -- the text
    refine ⟨_, rfl, z, C, dz, _, _, rfl, z8, T0, T.no _ (by decide), rfl, ?_⟩
    refine ⟨_, rfl, z, C, dz, _, _, rfl, z8, T0, T.no _ (by decide), rfl, ?_⟩
    refine ⟨_, rfl, z, C, dz, _, _, rfl, z8, T0, T.no _ (by decide), rfl, ?_⟩
    refine ⟨_, rfl, z, C, dz, _, _, rfl, z8, T0, T.no _ (by decide), rfl, ?_⟩
    refine ⟨_, rfl, z, C, dz, _, _, rfl, z8, T0, T.no _ (by decide), rfl, ?_⟩
    have ga : (F.a : Int) + (G.a : Int) = ((F.add G).a : Nat) := rfl
    have gn : (F.ns.length : Int) + (G.ns.length : Int) = ((F.add G).ns.length : Nat) := by
      show _ = ((F.ns ++ G.ns).length : Int)
      rw [List.length_append]
      rfl
    have gw : (F.w : Int) + (G.w : Int) = ((F.add G).w : Nat) := rfl
    refine ⟨_, _, _, _, _, rfl, ?_, ?_, ?_, lo_ok (ns := F.ns ++ G.ns) fk.i, ?_⟩
    · rw [ga]; exact nat_small fk.a
    · rw [gn]; exact nat_small fk.n
    · rw [gw]; exact nat_small fk.w
    refine ⟨_, rfl, z, C, dz, _, rfl, z8, T0, T.no _ (by decide), by simp [fl6], ?_⟩
    refine st_step pf5 fun H9 o9 z9 => ?_
    refine ⟨_, rfl, q z H9 (fun b u h => ?_) hz0 ⟨dz, ?_⟩⟩
    · have bz : b ≠ z := ne_of_none h hz0
      exact (((((o3.trans o4).trans o5).trans o6).trans o7).trans (o8.trans o9)) b u bz h
    · rw [z9]
      unfold flds
      rw [← ga, ← gn, ← gw]
      rfl
end
end K11
end

/-! K11e -/
section
open PySem PySem.Spec PyProof.Rows L2 FA
namespace K11
section
variable {P : Program} {w : World} {K : PySem.W.Frag} {mg : Str → Option Value} {base : Heap} {f : Addr} {fd : FuncData} {C : Addr}
/-- whether a value is in facts -/
def inF (F : Fc) : V → Bool
  | .non => decide (F.a ≠ 0)
  | .str _ => decide (F.w ≠ 0)
  | .int i => decide (∃ l ∈ F.ns, l ≤ i) && decide (∃ u ∈ F.ns, i ≤ u)
  | _ => false
def spHas (C : Addr) : Sp := fun vs H Q _ => ∃ (x : Addr) (v : V) (F : Fc), vs = [.ref x, v] ∧ Fx C H x F ∧ Vv v ∧ Q (.bl (inF F v)) H
theorem kN_non (F : Fc) : kN F (kindV .non) = F.a := by
  unfold kN
  rw [if_pos (show kindV .non = "nothing" from rfl)]
theorem kN_int (F : Fc) (i : Int) : kN F (kindV (.int i)) = F.ns.length := by
  unfold kN
  rw [if_neg (show ¬ kindV (.int i) = "nothing" by simp only [kindV]; decide), if_pos (show kindV (.int i) = "number" from rfl)]
theorem kN_str (F : Fc) (z : Str) : kN F (kindV (.str z)) = F.w := by
  unfold kN
  rw [if_neg (show ¬ kindV (.str z) = "nothing" by simp only [kindV]; decide), if_neg (show ¬ kindV (.str z) = "number" by simp only [kindV]; decide)]
theorem nat0 {n : Nat} (c : decide (V.int (n : Nat) = V.int 0) = true) : n = 0 := by
  have h := V.int.inj (of_decide_eq_true c)
  omega
theorem nat1 {n : Nat} (c : ¬ decide (V.int (n : Nat) = V.int 0) = true) : n ≠ 0 := by
  rintro rfl
  exact c (decide_eq_true rfl)
theorem sc_Facts_contains : FnScope ["self", "x"] ["self", "x"] (defScope (inClass (top 3) 2)) := ⟨rfl, rfl, rfl, by decide +kernel, rfl, by decide +kernel, by decide +kernel⟩
theorem ok_Facts_contains (F : FnC K "__contains__" "Facts.__contains__" 2 f fd) (hS : ∃ o, base.get? sysModules = some o) (T : Kf K C)
    (c_kind_of : Cal P w K mg base 1 "kind_of" ["value"] spKind)
    (c_many_of : Cal P w K mg base 1 "many_of" ["facts", "kind"] (spMany C)) :
    FnG P w K mg base CX0 2 f fd ["self", "x"] (spHas C) := by
  refine okD F sc_Facts_contains hS (fun vs H Q E h => ?_) (fun cdv A outer s H vs Q E R h => ?_)
  · obtain ⟨x, v, F, rfl, _⟩ := h
    rfl
  obtain ⟨x, v, F, rfl, hx, hv, q⟩ := h
  have nd := sc_Facts_contains.nd
  refine ⟨_, (pss_cons (ps_if (pt_cmpR op_eq (cc c_many_of R (pa_cons (pv 0) (pa_cons (cc c_kind_of R (pa_cons (pv 1) pa_nil)) pa_nil))) pe_int (nomark _)) (pss_one (ps_ret pe_bl)) pss_nil) (pss_one (ps_ret (pe_or (pe_cmpR op_ne (cc c_kind_of R (pa_cons (pv 1) pa_nil)) pe_str (nomark _)) (pe_one (pe_chain opLe opLe (pe_fld (pv 0) rfl) (pv 1) (pe_fld (pv 0) rfl))))))), ?r⟩
  case r =>
    have T0 := T.icl.cls
    refine ⟨_, rfl, _, rfl, v, rfl, hv, x, F, _, rfl, hx, ?_⟩
    obtain ⟨dx, hx⟩ := hx
    have q0 := q
    rcases hv with rfl | ⟨i, rfl, hi⟩ | ⟨z, rfl⟩
    · rw [kN_non]
      refine ⟨rfl, _, rfl, ite2 (fun c => ?_) (fun c => ?_)⟩
      · have e : inF F .non = false := by simp [inF, nat0 c]
        rw [e] at q
        exact q
      · have e : inF F .non = true := by simp [inF, nat1 c]
        rw [e] at q
        exact ⟨_, rfl, _, rfl, .inl rfl, rfl, _, rfl, iteT q⟩
    · rw [kN_int]
      refine ⟨rfl, _, rfl, ite2 (fun c => ?_) (fun c => ?_)⟩
      · have e : inF F (.int i) = false := by
          have : F.ns = [] := List.eq_nil_of_length_eq_zero (nat0 c)
          simp [inF, this]
        rw [e] at q
        exact q
      · rcases lo_cases F.ns with ⟨e0, _⟩ | ⟨l, u, e1, e2, m1, m2, b1, b2⟩
        · exact absurd (by rw [e0]; rfl) (nat1 c)
        have ef : flds F = fl6 (.int F.a) (.int F.ns.length) (.int F.w) (.int l) (.int u) (.str (txt F.a F.ns.length F.w (loV F.ns) (hiV F.ns))) := by
          unfold flds
          rw [e1, e2]
          rfl
        rw [ef] at hx
        refine ⟨_, rfl, _, rfl, .inr (.inl ⟨i, rfl, hi⟩), rfl, _, rfl, iteF ?_⟩
        refine ⟨_, rfl, x, C, dx, _, _, rfl, hx, T0, T.no _ (by decide), rfl, _, rfl, .inl ⟨_, _, rfl, rfl, _, rfl, ite2 (fun c1 => ?_) (fun c1 => ?_)⟩⟩
        · refine ⟨_, rfl, x, C, dx, _, _, rfl, hx, T0, T.no _ (by decide), rfl, .inl ⟨_, _, rfl, rfl, ?_⟩⟩
          have e : inF F (.int i) = decide (i ≤ u) := by
            show (decide (∃ l ∈ F.ns, l ≤ i) && decide (∃ u ∈ F.ns, i ≤ u)) = _
            rw [decide_eq_true ⟨l, m1, of_decide_eq_true c1⟩, Bool.true_and]
            refine decide_eq_decide.mpr ⟨fun ⟨y, hy, h⟩ => Int.le_trans h (b2 y hy), fun h => ⟨u, m2, h⟩⟩
          rw [e] at q
          exact q
        · have e : inF F (.int i) = false := by
            show (decide (∃ l ∈ F.ns, l ≤ i) && decide (∃ u ∈ F.ns, i ≤ u)) = _
            rw [decide_eq_false (fun ⟨y, hy, h⟩ => c1 (decide_eq_true (Int.le_trans (b1 y hy) h)))]
            rfl
          rw [e] at q
          exact q
    · rw [kN_str]
      refine ⟨rfl, _, rfl, ite2 (fun c => ?_) (fun c => ?_)⟩
      · have e : inF F (.str z) = false := by simp [inF, nat0 c]
        rw [e] at q
        exact q
      · have e : inF F (.str z) = true := by simp [inF, nat1 c]
        rw [e] at q
        exact ⟨_, rfl, _, rfl, .inr (.inr ⟨z, rfl⟩), rfl, _, rfl, iteT q⟩
/-- whether two facts are equal -/
def eqF (F G : Fc) : Bool := decide (F.a = G.a) && (decide (F.ns.length = G.ns.length) && (decide (F.w = G.w) && (decide (loV F.ns = loV G.ns) && decide (hiV F.ns = hiV G.ns))))
def spEq (C : Addr) : Sp := fun vs H Q _ => ∃ (x y : Addr) (F G : Fc), vs = [.ref x, .ref y] ∧ Fx C H x F ∧ Fx C H y G ∧ Q (.bl (eqF F G)) H
theorem sc_opt (o p : Option Int) : scal (optV o) (optV p) = true := by cases o <;> cases p <;> rfl
theorem dec_nat {n m : Nat} : decide (V.int (n : Nat) = V.int (m : Nat)) = decide (n = m) := decide_eq_decide.mpr ⟨fun h => Int.ofNat.inj (V.int.inj h), fun h => by rw [h]⟩
theorem sc_Facts_eq : FnScope ["self", "other"] ["self", "other"] (defScope (inClass (top 3) 3)) := ⟨rfl, rfl, rfl, by decide +kernel, rfl, by decide +kernel, by decide +kernel⟩
theorem ok_Facts_eq (F : FnC K "__eq__" "Facts.__eq__" 3 f fd) (hS : ∃ o, base.get? sysModules = some o) (T : Kf K C) (m_isinstance : mg "isinstance" = none)
    (k_Facts : MkG P w K mg base 2 "Facts" C (spMk C)) :
    FnG P w K mg base CX0 1 f fd ["self", "other"] (spEq C) := by
  refine okD F sc_Facts_eq hS (fun vs H Q E h => ?_) (fun cdv A outer s H vs Q E R h => ?_)
  · obtain ⟨x, y, F, G, rfl, _⟩ := h
    rfl
  obtain ⟨x, y, F, G, rfl, ⟨dx, hx⟩, ⟨dy, hy⟩, q⟩ := h
  have nd := sc_Facts_eq.nd
  refine ⟨_, (pss_one (ps_ret (pe_and (pe_callB call_isi rfl m_isinstance bt_isinstance (pa_cons (pv 1) (pa_cons (pe_glob (v := .ref _) rfl k_Facts.at_ rfl) pa_nil))) (pe_and (pe_cmpR op_eq (pe_fld (pv 0) rfl) (pe_fld (pv 1) rfl) (nomark _)) (pe_and (pe_cmpR op_eq (pe_fld (pv 0) rfl) (pe_fld (pv 1) rfl) (nomark _)) (pe_and (pe_cmpR op_eq (pe_fld (pv 0) rfl) (pe_fld (pv 1) rfl) (nomark _)) (pe_and (pe_cmpR op_eq (pe_fld (pv 0) rfl) (pe_fld (pv 1) rfl) (nomark _)) (pe_one (pe_cmpR op_eq (pe_fld (pv 0) rfl) (pe_fld (pv 1) rfl) (nomark _)))))))))), ?r⟩
  case r =>
    have T0 := T.icl.cls
    refine ⟨_, rfl, _, _, _, _, _, rfl, .own C, T.icl.ty hy, T.kit, _, rfl, iteT ?_⟩
    unfold eqF at q
    refine ⟨_, rfl, x, C, dx, _, _, rfl, hx, T0, T.no _ (by decide), rfl, _, rfl, y, C, dy, _, _, rfl, hy, T0, T.no _ (by decide), rfl, rfl, _, rfl, ite2 (fun c => ?_) (fun c => ?_)⟩
    case refine_2 => rw [dec_nat] at c; rw [Bool.eq_false_iff.mpr c] at q; exact q
    rw [dec_nat] at c; rw [c, Bool.true_and] at q
    refine ⟨_, rfl, x, C, dx, _, _, rfl, hx, T0, T.no _ (by decide), rfl, _, rfl, y, C, dy, _, _, rfl, hy, T0, T.no _ (by decide), rfl, rfl, _, rfl, ite2 (fun c => ?_) (fun c => ?_)⟩
    case refine_2 => rw [dec_nat] at c; rw [Bool.eq_false_iff.mpr c] at q; exact q
    rw [dec_nat] at c; rw [c, Bool.true_and] at q
    refine ⟨_, rfl, x, C, dx, _, _, rfl, hx, T0, T.no _ (by decide), rfl, _, rfl, y, C, dy, _, _, rfl, hy, T0, T.no _ (by decide), rfl, rfl, _, rfl, ite2 (fun c => ?_) (fun c => ?_)⟩
    case refine_2 => rw [dec_nat] at c; rw [Bool.eq_false_iff.mpr c] at q; exact q
    rw [dec_nat] at c; rw [c, Bool.true_and] at q
    refine ⟨_, rfl, x, C, dx, _, _, rfl, hx, T0, T.no _ (by decide), rfl, _, rfl, y, C, dy, _, _, rfl, hy, T0, T.no _ (by decide), rfl, sc_opt _ _, _, rfl, ite2 (fun c => ?_) (fun c => ?_)⟩
    case refine_2 => rw [Bool.eq_false_iff.mpr c] at q; exact q
    rw [c, Bool.true_and] at q
    exact ⟨_, rfl, x, C, dx, _, _, rfl, hx, T0, T.no _ (by decide), rfl, _, rfl, y, C, dy, _, _, rfl, hy, T0, T.no _ (by decide), rfl, sc_opt _ _, q⟩
end
end K11
end

/-! K11f -/
section
open PySem PySem.Spec PyProof.Rows L2 FA
namespace K11
section
variable {P : Program} {w : World} {K : PySem.W.Frag} {mg : Str → Option Value} {base : Heap} {f : Addr} {fd : FuncData}
def spDeck (K : PySem.W.Frag) : Sp := fun vs H Q _ => ∃ (a : Addr) (ns : List Int), vs = [.ref a] ∧ SqL K H a (ns.map V.int) ∧ ns.length ≤ 63 ∧
  ∀ d c H', H d = none → H c = none → MDeck H' d c 0 → Same H H' → Q (.ref d) H'
theorem cut_ints (ns : List Int) (lo hi : Option Int) : ∃ cs : List Int, cutV (ns.map V.int) lo hi = cs.map V.int ∧ cs.length ≤ ns.length := by
  unfold cutV
  refine ⟨(ns.drop (HT.sIx (ns.map V.int).length 0 lo)).take (HT.sIx (ns.map V.int).length (ns.map V.int).length hi - HT.sIx (ns.map V.int).length 0 lo), ?_, ?_⟩
  · rw [List.map_take, List.map_drop]
  · rw [List.length_take, List.length_drop]
    omega
theorem sc__law_deck : FnScope ["_law_script", "_law_cells", "_law_mixed", "_law_cell"] ["_law_script"] (defScope (top 7)) := ⟨rfl, rfl, rfl, by decide +kernel, rfl, by decide +kernel, by decide +kernel⟩
theorem ok__law_deck (F : FnP K "_law_deck" 7 f fd) (hS : ∃ o, base.get? sysModules = some o) (m_list : mg "list" = none) :
    FnG P w K mg base CX0 1 f fd ["_law_script"] (spDeck K) := by
  refine okD F sc__law_deck hS (fun vs H Q E h => ?_) (fun cdv A outer s H vs Q E R h => ?_)
  · obtain ⟨a, ns, rfl, _⟩ := h
    rfl
  obtain ⟨a, ns, rfl, hS, hl, q⟩ := h
  have nd := sc__law_deck.nd
  refine ⟨_, (pss_cons (ps_set (i := 1) nd rfl (Or.inl rfl) (pe_callTy call_list_of rfl m_list bt_list (pa_cons (pe_slice slAny (pv 0) po_none (po_some pe_int)) pa_nil))) (pss_cons (ps_set (i := 2) nd rfl (Or.inl rfl) pe_int) (pss_cons (ps_for PassesOwn.never rfl (pi_list (pv 1)) (pg_name (i := 3) nd rfl (Or.inl rfl)) (pss_one (ps_set (i := 2) nd rfl (Or.inl rfl) (pe_op op_mod (pe_op opAdd (pe_op opAdd (pe_op opMul (pv 2) pe_int) (pe_op op_mod (pv 3) pe_int)) pe_int) pe_int)))) (pss_one (ps_ret (pe_disp (pps_cons pe_str (pe_revL (pv 1)) (pps_cons pe_str (pv 2) (pps_cons pe_str pe_int pps_nil))) rfl rfl (by decide) (by decide))))))), ?r⟩
  case r =>
    refine ⟨_, rfl, _, rfl, .inl ⟨a, _, rfl, hS, fun p hp => ?_⟩⟩
    obtain ⟨cs, ecs, lcs⟩ := cut_ints ns none (some 63)
    rw [ecs]
    refine ⟨p, _, rfl, .inl (.inl (.inl upd_same)), fun l hl2 => ?_⟩
    have s1 : Same H (upd H p (.lst (cs.map V.int))) := same_new hp _
    have s2 := s1.trans (same_new hl2 (.lst (cs.map V.int)))
    have hl0 : H l = none := s1.free hl2
    refine ⟨_, rfl, l, rfl, ⟨_, .inl (.inl upd_same)⟩, for_list (K := K) (a := l) (xs := cs.map V.int)
      (fun i σ H' => ∃ (t : Int) (v : Option V), σ = [some (.ref a), some (.ref l), some (.int t), v] ∧ Same H H' ∧ H' l = some (.lst (cs.map V.int)))
      ⟨_, _, rfl, s2, upd_same⟩ (fun i σ H' _ ⟨_, _, _, _, e⟩ => .inl (.inl e)) ?_ ?_⟩
    · rintro i y σ H' hi ⟨t, v, rfl, s3, e3⟩
      obtain ⟨u, rfl⟩ : ∃ u, y = V.int u := by
        rw [List.getElem?_map] at hi
        cases e : cs[i]? with
        | none => rw [e] at hi; cases hi
        | some u => rw [e] at hi; exact ⟨u, (Option.some.inj hi).symm⟩
      refine ⟨_, rfl, .inl (.inl ⟨_, _, rfl, rfl, .inr ⟨by decide, by decide⟩, ?_⟩)⟩
      refine ⟨_, rfl, _, _, rfl, rfl, (by dsimp only; decide), .inl (.inl ⟨_, _, rfl, rfl, ?_⟩)⟩
      refine .inl (.inl ⟨_, _, rfl, rfl, _, _, rfl, rfl, (by dsimp only; decide), ?_⟩)
      exact ⟨_, _, rfl, s3, e3⟩
    · rintro σ H' ⟨t, v, rfl, s3, e3⟩
      intro d hd
      have nld : l ≠ d := ne_of_none e3 hd
      refine ⟨_, rfl, l, _, rfl, .inl (.inl ((upd_ne nld).trans e3)), fun c hc => ?_⟩
      have nd1 : d ≠ c := ne_of_none upd_same hc
      have s4 : Same H (upd H' d (.dK [])) := same_mut s3 (s3.free hd)
      have hc0 : H c = none := s4.free hc
      refine ⟨_, rfl, (upd_ne nd1).trans upd_same, mKvs c t 0, rfl, by show 3 ≤ 15; decide, ?_⟩
      rw [mk_merge]
      refine q d c _ (s3.free hd) hc0 ⟨t, 0, cs.reverse, upd_same, ?_, ?_, Int.le_refl _, Int.le_refl _⟩ ?_
      · rw [upd_ne nd1.symm, upd_same, List.map_reverse]
      · rw [List.length_reverse]
        omega
      · exact same_mut (same_mut s4 hc0) (s3.free hd)
theorem sc__law_draw : FnScope ["_law_deck_here", "_law_count", "_law_cell", "_law_turn", "_law_blend"] ["_law_deck_here", "_law_count"] (defScope (top 8)) := ⟨rfl, rfl, rfl, by decide +kernel, rfl, by decide +kernel, by decide +kernel⟩
theorem ok__law_draw (F : FnP K "_law_draw" 8 f fd) (hS : ∃ o, base.get? sysModules = some o) :
    FnG P w K mg base CX0 1 f fd ["_law_deck_here", "_law_count"] spDrawM := by
  refine okD F sc__law_draw hS (fun vs H Q E h => ?_) (fun cdv A outer s H vs Q E R h => ?_)
  · obtain ⟨d, c, n, m, rfl, _⟩ := h
    rfl
  obtain ⟨d, c, n, m, rfl, D, hn, h0, h64, q⟩ := h
  have nd := sc__law_draw.nd
  refine ⟨_, (pss_cons (ps_dput (hu_of R.room) (pv 0) pe_str (pe_op opAdd (pe_dget (hu_of R.room) (pv 0) pe_str (fun _ _ => rfl)) pe_int) rfl) (pss_cons (ps_set (i := 2) nd rfl (Or.inl rfl) pe_int) (pss_cons (ps_if (pt_cmpR (op_neD R.room.units) (pe_dget (hu_of R.room) (pv 0) pe_str (fun _ _ => rfl)) (pe_lst pa_nil) (nomark _)) (pss_cons (ps_set (i := 2) nd rfl (Or.inl rfl) (pe_bm0 PySem.F.plainAttrs_list PySem.F.slot_list_pop PySem.F.type_list_pop mt_pop (pe_dget (hu_of R.room) (pv 0) pe_str (fun _ _ => rfl)))) (pss_one (ps_if (pt_cmpR op_ge (pv 2) (pe_op op_pow pe_int pe_int) (nomark _)) (pss_cons (ps_expr (pe_bm PySem.F.plainAttrs_list PySem.F.slot_list_append PySem.F.type_list_append mt_append (pe_dget (hu_of R.room) (pv 0) pe_str (fun _ _ => rfl)) (pa_cons (pe_op op_fdivW (pv 2) (pv 1)) pa_nil))) (pss_one (ps_ret (pe_op op_mod (pv 2) (pv 1))))) pss_nil))) pss_nil) (pss_cons (ps_set (i := 3) nd rfl (Or.inl rfl) (pe_dget (hu_of R.room) (pv 0) pe_str (fun _ _ => rfl))) (pss_cons (ps_set (i := 4) nd rfl (Or.inl rfl) (pe_op opAdd (pe_op opAdd (pe_dget (hu_of R.room) (pv 0) pe_str (fun _ _ => rfl)) (pe_op op_mod (pv 2) pe_int)) (pe_op opMul (pe_op opMul pe_int (pv 3)) (pv 3)))) (pss_cons (ps_set (i := 4) nd rfl (Or.inl rfl) (pe_op op_mod (pe_op opMul (pv 4) pe_int) pe_int)) (pss_cons (ps_set (i := 4) nd rfl (Or.inl rfl) (pe_op op_mod (pe_op opAdd (pe_op opAdd (pe_op opMul (pv 4) (pv 4)) (pe_op opMul pe_int (pv 4))) (pv 3)) pe_int)) (pss_one (ps_ret (pe_op op_mod (pe_op op_fdivW (pe_op op_mod (pe_op opMul (pv 4) (pe_op opAdd (pe_op op_fdivW (pv 4) pe_int) pe_int)) pe_int) pe_int) (pv 1))))))))))), ?r⟩
  case r =>
    obtain ⟨t, k, cs, hd, hc, hl, k0, kn⟩ := D.is
    have ndc := D.dc
    refine ⟨_, rfl, _, _, rfl, mg_draws hd, .inl (.inl ⟨_, _, rfl, rfl, ?_⟩)⟩
    refine ⟨_, rfl, d, _, rfl, mp_draws hd, ?_⟩
    -- the deck, one draw more
    have hd1 : upd H d (.dK (mKvs c t (k + 1))) d = some (.dK (mKvs c t (k + 1))) := upd_same
    have hc1 : upd H d (.dK (mKvs c t (k + 1))) c = some (.lst (cs.map V.int)) := by rw [upd_ne ndc.symm]; exact hc
    have same1 : Same (hid d c H) (hid d c (upd H d (.dK (mKvs c t (k + 1))))) := by
      rw [hid_upd (Or.inl rfl)]
      exact Same.refl _
    generalize upd H d (.dK (mKvs c t (k + 1))) = H1 at hd1 hc1 same1
    have k1 : k + 1 ≤ (n : Int) + 1 := by omega
    have div64 : ∀ i, CDivW i m := fun i => wide_div h0 h64 (by decide) (by decide)
    -- the last rows, whatever the cell is
    have rows : ∀ (x : Int) (H2 : Hp) (u v : Option V), (∃ cs2 : List Int, H2 d = some (.dK (mKvs c t (k + 1))) ∧ H2 c = some (.lst (cs2.map V.int)) ∧ cs2.length ≤ 63) → Same (hid d c H) (hid d c H2) →
        (tSeq (tAsg (tDGet (tVar 0) (tC (V.str "draws"))) (gName 3)) (tSeq (tAsg (tOp rAddA (tOp rAddA (tDGet (tVar 0) (tC (V.str "mixed"))) (tOp rModA (tVar 2) (tC (V.int 2147483587)))) (tOp rMulA (tOp rMulA (tC (V.int 69621)) (tVar 3)) (tVar 3))) (gName 4)) (tSeq (tAsg (tOp rModA (tOp rMulA (tVar 4) (tC (V.int 40692))) (tC (V.int 2147483563))) (gName 4)) (tSeq (tAsg (tOp rModA (tOp rAddA (tOp rAddA (tOp rMulA (tVar 4) (tVar 4)) (tOp rMulA (tC (V.int 52774)) (tVar 4))) (tVar 3)) (tC (V.int 2147483629))) (gName 4)) (tRet (tOp rModA (tOp rDivA (tOp rModA (tOp rMulA (tVar 4) (tOp rAddA (tOp rDivA (tVar 4) (tC (V.int 7))) (tC (V.int 39373)))) (tC (V.int 2147483587))) (tC (V.int 64))) (tVar 1))))))) { nx := fun _ H' => Q .non H', rt := Q } [some (.ref d), some (.int m), some (.int x), u, v] H2 := by
      rintro x H2 u v ⟨cs2, e1, e2, e3⟩ s2
      have kb : -(2 ^ 64) < k + 1 ∧ k + 1 < 2 ^ 64 := by omega
      refine ⟨_, rfl, _, _, rfl, mg_draws e1, ?_⟩
      refine ⟨_, rfl, _, _, rfl, mg_mixed e1, ?_⟩
      refine ⟨_, rfl, _, _, rfl, rfl, (by dsimp only; decide), .inl (.inl ⟨_, _, rfl, rfl, ?_⟩)⟩
      refine ⟨_, rfl, .inl (.inl ⟨_, _, rfl, rfl, .inr kb, ?_⟩)⟩
      refine ⟨_, rfl, .inl (.inl ⟨_, _, rfl, rfl, .inr kb, ?_⟩)⟩
      refine .inl (.inl ⟨_, _, rfl, rfl, ?_⟩)
      refine ⟨_, rfl, .inl (.inl ⟨_, _, rfl, rfl, .inr ⟨by decide, by decide⟩, ?_⟩)⟩
      refine ⟨_, _, rfl, rfl, (by dsimp only; decide), ?_⟩
      refine ⟨_, rfl, _, rfl, .inl (.inl ⟨_, _, rfl, rfl, .inr (emb _ (by decide) (by decide)), ?_⟩)⟩
      refine ⟨_, rfl, .inl (.inl ⟨_, _, rfl, rfl, .inr (emb _ (by decide) (by decide)), ?_⟩)⟩
      refine .inl (.inl ⟨_, _, rfl, rfl, ?_⟩)
      refine ⟨_, rfl, .inl (.inl ⟨_, _, rfl, rfl, _, _, rfl, rfl, (by dsimp only; decide), ?_⟩)⟩
      refine ⟨_, rfl, _, rfl, _, _, rfl, rfl, ⟨by decide, by decide +kernel⟩, .inl (.inl ⟨_, _, rfl, rfl, ?_⟩)⟩
      refine .inl (.inl ⟨_, _, rfl, rfl, .inl (emb _ (by decide) (by decide)), ?_⟩)
      refine ⟨_, _, rfl, rfl, (by dsimp only; decide), _, _, rfl, rfl, ⟨by decide, by decide +kernel⟩, ?_⟩
      exact ⟨_, rfl, _, _, rfl, rfl, h0, q _ _ (Int.emod_nonneg _ (by omega)) (Int.emod_lt_of_pos _ h0) ⟨t, k + 1, cs2, e1, e2, e3, by omega, by omega⟩ s2⟩
    refine ⟨_, rfl, _, _, rfl, mg_cells hd1, Nat.zero_le _, fun p hp => ?_⟩
    have npd : p ≠ d := fun e => by rw [e, hd1] at hp; cases hp
    have npc : p ≠ c := fun e => by rw [e, hc1] at hp; cases hp
    have hd2 : upd H1 p (.lst []) d = some (.dK (mKvs c t (k + 1))) := by rw [upd_ne npd.symm]; exact hd1
    have hc2 : upd H1 p (.lst []) c = some (.lst (cs.map V.int)) := by rw [upd_ne npc.symm]; exact hc1
    have same2 : Same (hid d c H) (hid d c (upd H1 p (.lst []))) := same1.trans (hid_same (same_new hp _))
    refine ⟨_, _, .lst (SqL.of hc2) (ints_dp cs), .lst (SqL.of upd_same) .nil, ints_shaped cs, rfl, _, rfl, ?_⟩
    generalize upd H1 p (.lst []) = H2 at hd2 hc2 same2
    refine ite2 (fun ce => ?_) (fun ce => rows _ _ _ _ ⟨cs, hd2, hc2, hl⟩ same2)
    have ne : cs ≠ [] := by
      rintro rfl
      exact absurd ce (by decide)
    have hlast : (cs.map V.int)[(cs.map V.int).length - 1]? = some (.int (cs.getLast ne)) := by
      rw [List.length_map, List.getElem?_map, List.getLast_eq_getElem]
      rw [List.getElem?_eq_getElem]
      rfl
    refine ⟨_, rfl, _, _, rfl, mg_cells hd2, .inl ⟨rfl, _, SqL.of hc2⟩, c, _, _, rfl, rfl, hc2, hlast, ?_⟩
    have hd3 : upd H2 c (.lst (cs.map V.int).dropLast) d = some (.dK (mKvs c t (k + 1))) := by rw [upd_ne ndc]; exact hd2
    have hc3 : upd H2 c (.lst (cs.map V.int).dropLast) c = some (.lst (cs.dropLast.map V.int)) := by rw [upd_same, List.map_dropLast]
    have same3 : Same (hid d c H) (hid d c (upd H2 c (.lst (cs.map V.int).dropLast))) := by
      rw [hid_upd (Or.inr rfl)]
      exact same2
    generalize upd H2 c (.lst (cs.map V.int).dropLast) = H3 at hd3 hc3 same3
    have hl3 : cs.dropLast.length < 63 := by
      rw [List.length_dropLast]
      have : 0 < cs.length := List.length_pos_iff.mpr ne
      omega
    refine ⟨_, rfl, _, _, rfl, rfl, ⟨by decide, by decide, by decide⟩, _, _, rfl, rfl, _, rfl, ?_⟩
    refine ite2 (fun cg => ?_) (fun cg => ?_)
    · refine ⟨_, rfl, _, _, rfl, mg_cells hd3, .inl ⟨rfl, _, SqL.of hc3⟩, _, rfl, _, rfl, _, _, rfl, rfl, div64 _, c, _, _, rfl, rfl, hc3, ?_, ?_⟩
      · rw [List.length_map]
        exact Nat.lt_trans hl3 (by decide)
      · refine ⟨_, rfl, _, rfl, _, _, rfl, rfl, h0, q _ _ (Int.emod_nonneg _ (by omega)) (Int.emod_lt_of_pos _ h0) ⟨t, k + 1, cs.dropLast ++ [cs.getLast ne / m], ?_, ?_, ?_, by omega, by omega⟩ ?_⟩
        · rw [upd_ne ndc]
          exact hd3
        · rw [upd_same, List.map_append]
          rfl
        · rw [List.length_append, List.length_singleton]
          omega
        · rw [hid_upd (Or.inr rfl)]
          exact same3
    · exact rows _ _ _ _ ⟨_, hd3, hc3, Nat.le_of_lt hl3⟩ same3
theorem sc__law_pick : FnScope ["_law_deck_here", "_law_some"] ["_law_deck_here", "_law_some"] (defScope (top 9)) := ⟨rfl, rfl, rfl, by decide +kernel, rfl, by decide +kernel, by decide +kernel⟩
theorem ok__law_pick (F : FnP K "_law_pick" 9 f fd) (hS : ∃ o, base.get? sysModules = some o) (m_len : mg "len" = none)
    (c__law_draw : Cal P w K mg base 1 "_law_draw" ["_law_deck_here", "_law_count"] spDrawM) :
    FnG P w K mg base CX0 2 f fd ["_law_deck_here", "_law_some"] spPickM := by
  refine okD F sc__law_pick hS (fun vs H Q E h => ?_) (fun cdv A outer s H vs Q E R h => ?_)
  · obtain ⟨d, c, n, u, rfl, _⟩ := h
    rfl
  obtain ⟨d, c, n, u, rfl, D, hn, q⟩ := h
  have nd := sc__law_pick.nd
  refine ⟨_, (pss_one (ps_ret (pe_ix ixAny (pv 1) (cc c__law_draw R (pa_cons (pv 0) (pa_cons (pe_callB call_lenA rfl m_len bt_len (pa_cons (pv 1) pa_nil)) pa_nil))) (fun _ _ => rfl)))), ?r⟩
  case r =>
    rcases q with ⟨a, xs, rfl, ha, h0, h1, q⟩ | ⟨z, rfl, h0, h1, q⟩
    · have ha1 := hid_sub _ _ ha
      refine ⟨_, rfl, _, rfl, _, rfl, .inl ⟨a, xs, rfl, .inl (SqL.of ha1), ?_⟩⟩
      refine ⟨d, c, n, _, rfl, D, hn, by omega, ?_, fun r H' r0 r1 D' s' => ?_⟩
      · omega
      · have ha2 := hid_sub _ _ (s' _ _ ha)
        have hj : r.toNat < xs.length := by omega
        have er : r = ((r.toNat : Nat) : Int) := by omega
        refine .inl ⟨a, xs, r, xs[r.toNat], rfl, rfl, SqL.of ha2, ?_, q r.toNat _ H' (List.getElem?_eq_getElem hj) D' s'⟩
        have e2 := atI_nat (List.getElem?_eq_getElem hj)
        rw [← er] at e2
        exact e2
    · refine ⟨_, rfl, _, rfl, _, rfl, .inr ⟨z, rfl, ?_, ?_⟩⟩
      · rw [sizeLine_eq]; omega
      refine ⟨d, c, n, _, rfl, D, hn, by omega, ?_, fun r H' r0 r1 D' s' => ?_⟩
      · omega
      · have hlen : z.cps.toList.length = z.length := by simp [Str.length]
        have hj : r.toNat < z.cps.toList.length := by omega
        have er : r = ((r.toNat : Nat) : Int) := by omega
        refine .inr (.inr ⟨z, r, z.cps.toList[r.toNat], rfl, rfl, by rw [sizeLine_eq]; omega, ?_, q _ H' (List.getElem_mem hj) D' s'⟩)
        have e2 := atI_nat (List.getElem?_eq_getElem hj)
        rw [← er] at e2
        exact e2
end
end K11
end

/-! K11g -/
section
open PySem PySem.Spec PyProof.Rows L2 FA
namespace K11
section
variable {P : Program} {w : World} {K : PySem.W.Frag} {mg : Str → Option Value} {base : Heap} {f : Addr} {fd : FuncData}
def one (k : Nat) : Str := ⟨#[k]⟩
theorem join_ones : ∀ ks : List Nat, Txt.join "" (ks.map one) = ⟨ks.toArray⟩
  | [] => by rw [TL.join_eq]; rfl
  | [k] => by rw [TL.join_eq]; rfl
  | k :: k2 :: r => by
    have ih := join_ones (k2 :: r)
    rw [TL.join_eq] at ih ⊢
    show one k ++ (Str.ofString "") ++ Str.join "" (one k2 :: r.map one) = _
    have e : Str.join "" (one k2 :: r.map one) = ⟨(k2 :: r).toArray⟩ := ih
    rw [e]
    have x : (one k ++ Str.ofString "" ++ (⟨(k2 :: r).toArray⟩ : Str)).cps = (k :: k2 :: r).toArray := by
      rw [Str.cps_append, Str.cps_append]
      apply Array.ext'
      simp [one, show (Str.ofString "").cps = #[] from rfl]
    cases q : (one k ++ Str.ofString "" ++ (⟨(k2 :: r).toArray⟩ : Str)) with
    | mk a => rw [q] at x; exact congrArg Str.mk x
def abc : Str := "abcdefghijklmnopqrstuvwxyz"
theorem abc_ok : ∀ k ∈ abc.cps.toList, okc k = true := by decide
theorem occ_ok : (List.range' 97 26).all (fun k => !(Builtin.Str.occurrences abc (one k) 0 abc.length 1).isEmpty) = true := by decide +kernel
theorem occ_some {k : Nat} (h : okc k = true) : ∃ i rest, Builtin.Str.occurrences abc (one k) 0 abc.length 1 = i :: rest := by
  have h2 : k ∈ List.range' 97 26 := by
    simp only [okc, Bool.and_eq_true, decide_eq_true_eq] at h
    rw [List.mem_range'_1]
    omega
  have h3 := List.all_eq_true.mp occ_ok k h2
  cases e : Builtin.Str.occurrences abc (one k) 0 abc.length 1 with
  | nil => rw [e] at h3; cases h3
  | cons i r => exact ⟨i, r, rfl⟩
def wds : List Str := ["table", "row", "next", "key", "index", "nothing", "number", "word", "from", "tell", "no", "within"]
theorem wds_ok : ∀ y ∈ wds, y.length ≤ 30 ∧ Low y := by
  intro y hy
  simp only [wds, List.mem_cons, List.not_mem_nil, or_false] at hy
  rcases hy with rfl | rfl | rfl | rfl | rfl | rfl | rfl | rfl | rfl | rfl | rfl | rfl <;> exact ⟨by decide, low_of (by decide)⟩
/-- some names: so many new strings -/
def spNames : Sp := fun vs H Q _ => ∃ (d c : Addr) (n m : Nat), vs = [.ref d, .int (m : Int)] ∧ MDeck H d c n ∧ n + 20 ≤ 1000000 ∧ m ≤ 30 ∧
  ∀ L (zs : List Str) H', H L = none → zs.length = m → (∀ z ∈ zs, z.length ≤ 30 ∧ Low z) → MDeck H' d c (n + 12) → Same (hid d c H) (hid d c H') → L ≠ d → L ≠ c → H' L = some (.lst (zs.map V.str)) → Q (.ref L) H'
theorem sc__law_names : FnScope ["_law_deck_here", "_law_count", "_law_letters", "_law_way", "_law_stem", "_law_first", "_law_words", "_law_at", "_law_start", "_law_k"] ["_law_deck_here", "_law_count"] (defScope (top 10)) := ⟨rfl, rfl, rfl, by decide +kernel, rfl, by decide +kernel, by decide +kernel⟩
theorem ok__law_names (F : FnP K "_law_names" 10 f fd) (hS : ∃ o, base.get? sysModules = some o) (m_range : mg "range" = none)
    (c__law_draw : Cal P w K mg base 1 "_law_draw" ["_law_deck_here", "_law_count"] spDrawM)
    (c__law_pick : Cal P w K mg base 2 "_law_pick" ["_law_deck_here", "_law_some"] spPickM) :
    FnG P w K mg base CX0 3 f fd ["_law_deck_here", "_law_count"] spNames := by
  refine okD F sc__law_names hS (fun vs H Q E h => ?_) (fun cdv A outer s H vs Q E R h => ?_)
  · obtain ⟨d, c, n, m, rfl, _⟩ := h
    rfl
  obtain ⟨d, c, n, m, rfl, D, hn, hm, q⟩ := h
  have nd := sc__law_names.nd
  refine ⟨_, (pss_cons (ps_asg (pe_tup (pa_cons pe_str (pa_cons (cc c__law_draw R (pa_cons (pv 0) (pa_cons pe_int pa_nil))) pa_nil))) (pg_tup rfl (pgs_cons (pg_name (i := 2) nd rfl (Or.inr rfl)) (pgs_cons (pg_name (i := 3) nd rfl (Or.inl rfl)) pgs_nil)))) (pss_cons (ps_asg (pe_tup (pa_cons (pe_join pe_str (pe_lc1 9 rfl nd (pi_range1 rfl m_range (pa_cons pe_int pa_nil)) (by kernel_rfl) (fun _ _ _ _ _ => pg_name (i := 9) nd rfl (Or.inl rfl)) (fun _ _ _ _ _ => pts_nil) (fun _ _ _ _ _ => (cc c__law_pick (R.blk _ _ _ _ _) (pa_cons (pv 0) (pa_cons (pv 2) pa_nil)))))) (pa_cons (cc c__law_draw R (pa_cons (pv 0) (pa_cons pe_int pa_nil))) pa_nil))) (pg_tup rfl (pgs_cons (pg_name (i := 4) nd rfl (Or.inr rfl)) (pgs_cons (pg_name (i := 5) nd rfl (Or.inr rfl)) pgs_nil)))) (pss_cons (ps_set (i := 6) nd rfl (Or.inr rfl) (pe_lst (pa_cons pe_str (pa_cons pe_str (pa_cons pe_str (pa_cons pe_str (pa_cons pe_str (pa_cons pe_str (pa_cons pe_str (pa_cons pe_str (pa_cons pe_str (pa_cons pe_str (pa_cons pe_str (pa_cons pe_str pa_nil)))))))))))))) (pss_cons (ps_if (PW.pt (pw_and (pt_cmpR op_eq (pv 3) pe_int (nomark _)) (pw_and1 (pt_cmpR opLt (pv 1) pe_int (nomark _))))) (pss_one (ps_ret (pe_lc1 9 rfl nd (pi_range1 rfl m_range (pa_cons (pv 1) pa_nil)) (by kernel_rfl) (fun _ _ _ _ _ => pg_name (i := 9) nd rfl (Or.inl rfl)) (fun _ _ _ _ _ => pts_nil) (fun _ _ _ _ _ => (pe_slice (slAnyK K rfl) (pv 4) po_none (po_some (pe_op opAdd (pv 9) pe_int))))))) pss_nil) (pss_cons (ps_if (pt_cmpR op_eq (pv 3) pe_int (nomark _)) (pss_one (ps_ret (pe_lc1 9 rfl nd (pi_range1 rfl m_range (pa_cons (pv 1) pa_nil)) (by kernel_rfl) (fun _ _ _ _ _ => pg_name (i := 9) nd rfl (Or.inl rfl)) (fun _ _ _ _ _ => pts_nil) (fun _ _ _ _ _ => (pe_ix (ixAnyK K rfl) (pv 6) (pe_op op_mod (pe_op opAdd (pv 5) (pv 9)) pe_int) (fun _ _ => rfl)))))) pss_nil) (pss_cons (ps_set (i := 7) nd rfl (Or.inr rfl) (cc c__law_draw R (pa_cons (pv 0) (pa_cons pe_int pa_nil)))) (pss_cons (ps_set (i := 8) nd rfl (Or.inr rfl) (pe_bm PySem.F.plainAttrs_str PySem.F.slot_str_index PySem.F.type_str_index mt_sindex (pv 2) (pa_cons (pe_ix ixAny (pv 4) (pv 7) (fun _ _ => rfl)) pa_nil))) (pss_one (ps_ret (pe_lc1 9 rfl nd (pi_range1 rfl m_range (pa_cons (pv 1) pa_nil)) (by kernel_rfl) (fun _ _ _ _ _ => pg_name (i := 9) nd rfl (Or.inl rfl)) (fun _ _ _ _ _ => pts_nil) (fun _ _ _ _ _ => (pe_op opAdd (pe_op opAdd (pe_slice (slAnyK K rfl) (pv 4) po_none (po_some (pv 7))) (pe_ix (ixAnyK K rfl) (pv 2) (pe_op op_mod (pe_op opAdd (pv 8) (pv 9)) pe_int) (fun _ _ => rfl))) (pe_slice (slAnyK K rfl) (pv 4) (po_some (pe_op opAdd (pv 7) pe_int)) po_none))))))))))))), ?r⟩
  case r =>
    refine ⟨_, rfl, d, c, n, 3, rfl, D, by omega, by decide, by decide, fun r1 H1 a0 a1 D1 s1 => ⟨by show 2 ≤ sizeLine; decide, fun p hp => ⟨p, _, rfl, SqT.of upd_same, rfl, _, _, rfl, _, _, rfl, rfl, ?_⟩⟩⟩
    obtain ⟨pd, pc⟩ := D1.ne hp
    have D1a : MDeck (upd H1 p (.tup [.str "abcdefghijklmnopqrstuvwxyz", .int r1])) d c (n + 1) := D1.upd pd pc
    have s1a : Same (hid d c H) (hid d c (upd H1 p (.tup [.str "abcdefghijklmnopqrstuvwxyz", .int r1]))) := s1.trans (hid_same (same_new hp _))
    generalize upd H1 p (.tup [.str "abcdefghijklmnopqrstuvwxyz", .int r1]) = H1a at D1a s1a
    -- the stem
    refine ⟨⟨_, rfl⟩, 8, rfl, by decide, by decide, fun L hL => ?_⟩
    obtain ⟨Ld, Lc⟩ := D1a.ne hL
    refine lc_it walk_range (fun i H' => ∃ ks : List Nat, H' L = some (.lst ((ks.map one).map V.str)) ∧ ks.length = i ∧ (∀ k ∈ ks, okc k = true) ∧ MDeck H' d c (n + 1 + i) ∧ Same (hid d c H1a) (hid d c H'))
      ⟨[], upd_same, rfl, fun _ hy => (nomatch hy), D1a.upd Ld Lc, hid_same (same_new hL _)⟩ (fun _ _ _ _ => trivial) ?_ ?_
    · rintro i x H4 H5 hi ⟨ks, e1, e2, e3, D4, s4⟩ ⟨rfl, rfl⟩
      have hi8 : i < 8 := hi
      refine ⟨rfl, _, rfl, _, rfl, d, c, n + 1 + i, _, rfl, D4, by omega, .inr ⟨_, rfl, by decide, by decide, fun k H6 hk D6 s6 => ?_⟩⟩
      refine ⟨(ks.map one).map V.str, ?_, ?_, ks ++ [k], ?_, ?_, ?_, D6.upd Ld Lc, hid_mut (s4.trans s6) hL Ld Lc⟩
      · rw [← hid_ne Ld Lc (H := H6)]
        exact s6 _ _ (by rw [hid_ne Ld Lc]; exact e1)
      · rw [List.length_map, List.length_map, e2]
        exact Nat.lt_trans hi8 (by decide)
      · rw [upd_same, List.map_append, List.map_append]
        rfl
      · rw [List.length_append, e2]
        rfl
      · intro y hy
        rcases List.mem_append.mp hy with hy | hy
        · exact e3 y hy
        · have : y = k := by simpa using hy
          subst this
          exact abc_ok _ hk
    rintro H4 ⟨ks, e1, e2, e3, D4, s4⟩
    have e8 : ks.length = 8 := e2
    refine ⟨_, L, ks.map one, rfl, rfl, .inl (SqL.of e1), ?_, ?_⟩
    · have : ((ks.map one).map (·.length)).sum = ks.length := by
        rw [List.map_map]
        clear e1 e2 e3 e8
        induction ks with
        | nil => rfl
        | cons a r ih => rw [List.map_cons, List.sum_cons, ih, List.length_cons]; show 1 + r.length = r.length + 1; omega
      rw [this, List.length_map, e8]
      decide
    rw [join_ones]
    have zl : (⟨ks.toArray⟩ : Str).length = 8 := by
      show ks.toArray.size = 8
      rw [List.size_toArray, e8]
    have zlow : Low ⟨ks.toArray⟩ := fun x hx => by
      have h := e3 x (by simpa using hx)
      simp only [okc, Bool.and_eq_true, decide_eq_true_eq] at h
      omega
    have zat : ∀ i : Nat, i < 8 → ∃ k, (⟨ks.toArray⟩ : Str).cps.toList[i]? = some k ∧ okc k = true := fun i hi => by
      have hi2 : i < ks.length := by omega
      exact ⟨ks[i], by simp [hi2], e3 _ (List.getElem_mem hi2)⟩
    generalize (⟨ks.toArray⟩ : Str) = z at zl zlow zat
    have s14 := s1a.trans s4
    refine ⟨_, rfl, d, c, n + 1 + 8, 12, rfl, D4, by omega, by decide, by decide, fun r2 H5 b0 b1 D5 s5 => ⟨by show 2 ≤ sizeLine; decide, fun p2 hp2 => ⟨p2, _, rfl, SqT.of upd_same, rfl, _, _, rfl, _, _, rfl, rfl, ?_⟩⟩⟩
    obtain ⟨p2d, p2c⟩ := D5.ne hp2
    have D6 := D5.upd (o := .tup [.str z, .int r2]) p2d p2c
    have s6 := (s14.trans s5).trans (hid_same (same_new hp2 (.tup [.str z, .int r2])))
    generalize upd H5 p2 (.tup [.str z, .int r2]) = H6 at D6 s6
    -- the words
    refine ⟨by show 12 ≤ sizeLine; decide, fun W hW => ?_⟩
    obtain ⟨Wd, Wc⟩ := D6.ne hW
    have D7 := D6.upd (o := .lst [.str "table", .str "row", .str "next", .str "key", .str "index", .str "nothing", .str "number", .str "word", .str "from", .str "tell", .str "no", .str "within"]) Wd Wc
    have s7 := s6.trans (hid_same (same_new hW (.lst [.str "table", .str "row", .str "next", .str "key", .str "index", .str "nothing", .str "number", .str "word", .str "from", .str "tell", .str "no", .str "within"])))
    have e7 : upd H6 W (.lst [.str "table", .str "row", .str "next", .str "key", .str "index", .str "nothing", .str "number", .str "word", .str "from", .str "tell", .str "no", .str "within"]) W = some (.lst [.str "table", .str "row", .str "next", .str "key", .str "index", .str "nothing", .str "number", .str "word", .str "from", .str "tell", .str "no", .str "within"]) := upd_same
    generalize upd H6 W (.lst [.str "table", .str "row", .str "next", .str "key", .str "index", .str "nothing", .str "number", .str "word", .str "from", .str "tell", .str "no", .str "within"]) = H7 at D7 s7 e7
    have e7 : H7 W = some (.lst (wds.map V.str)) := e7
    have zs : z.length ≤ sizeLine := by rw [sizeLine_eq]; omega
    have fin : ∀ (L2 : Addr) (zs : List Str) (H8 H9 : Hp), MDeck H8 d c (n + 12) → Same (hid d c H) (hid d c H8) → H8 L2 = none → Same H8 H9 → zs.length = m → (∀ y ∈ zs, y.length ≤ 30 ∧ Low y) → H9 L2 = some (.lst (zs.map V.str)) → Q (.ref L2) H9 := by
      intro L2 zs H8 H9 D8 s8 hL2 s9 hl hz e9
      obtain ⟨L2d, L2c⟩ := D8.ne hL2
      exact q L2 zs H9 (dmM_of D8 s8 _ hL2) hl hz (D8.same s9) (s8.trans (hid_same s9)) L2d L2c e9
    have cut30 : ∀ lo hi, (cutS z lo hi).length ≤ 8 ∧ Low (cutS z lo hi) := fun lo hi => ⟨by have := cut_le z lo hi; omega, low_cut zlow lo hi⟩
    refine (fun rest => ⟨_, rfl, rfl, _, rfl, ite2 (fun c1 => ⟨_, rfl, .inl ⟨_, _, rfl, rfl, _, rfl, ite2 (fun c2 => ?A) (fun _ => rest)⟩⟩) (fun _ => rest)⟩) ?rest
    case A =>
      refine ⟨_, rfl, (m : Int), rfl, by omega, by omega, fun L2 hL2 => ?_⟩
      refine lc_it walk_range (fun i H' => ∃ zs : List Str, H' L2 = some (.lst (zs.map V.str)) ∧ zs.length = i ∧ (∀ y ∈ zs, y.length ≤ 30 ∧ Low y) ∧ Same H7 H')
        ⟨[], upd_same, rfl, fun _ hy => (nomatch hy), same_new hL2 _⟩ (fun _ _ _ _ => trivial) ?_ ?_
      · rintro i x H8 H9 hi ⟨zs2, e8, l8, o8, s8⟩ ⟨rfl, rfl⟩
        refine ⟨rfl, _, rfl, _, rfl, .inl (.inl ⟨_, _, rfl, rfl, _, rfl, .inr ⟨z, rfl, zs, ?_⟩⟩)⟩
        refine ⟨_, e8, ?_, zs2 ++ [cutS z none (some (0 + (i : Int) + 1))], ?_, ?_, ?_, same_mut s8 hL2⟩
        · rw [List.length_map, l8, sizeLine_eq]
          omega
        · rw [upd_same, List.map_append]
          rfl
        · rw [List.length_append, l8]
          rfl
        · intro y hy
          rcases List.mem_append.mp hy with hy | hy
          · exact o8 y hy
          · have : y = cutS z none (some (0 + (i : Int) + 1)) := by simpa using hy
            rw [this]
            have := cut30 none (some (0 + (i : Int) + 1))
            exact ⟨by omega, this.2⟩
      · rintro H8 ⟨zs2, e8, l8, o8, s8⟩
        exact fin L2 zs2 H7 H8 (D7.mono (by omega)) s7 hL2 s8 (by rw [l8]; omega) o8 e8
    case rest =>
      refine (fun rest => ⟨_, rfl, rfl, _, rfl, ite2 (fun c1 => ?A) (fun _ => rest)⟩) ?rest
      case A =>
        refine ⟨_, rfl, (m : Int), rfl, by omega, by omega, fun L2 hL2 => ?_⟩
        refine lc_it walk_range (fun i H' => ∃ zs : List Str, H' L2 = some (.lst (zs.map V.str)) ∧ zs.length = i ∧ (∀ y ∈ zs, y.length ≤ 30 ∧ Low y) ∧ Same H7 H')
          ⟨[], upd_same, rfl, fun _ hy => (nomatch hy), same_new hL2 _⟩ (fun _ _ _ _ => trivial) ?_ ?_
        · rintro i x H8 H9 hi ⟨zs2, e8, l8, o8, s8⟩ ⟨rfl, rfl⟩
          have hj0 := Int.emod_nonneg (r2 + (0 + (i : Int))) (show (12 : Int) ≠ 0 by decide)
          have hj1 := Int.emod_lt_of_pos (r2 + (0 + (i : Int))) (show (0 : Int) < 12 by decide)
          have hj : ((r2 + (0 + (i : Int))) % 12).toNat < wds.length := by
            show _ < 12
            omega
          have ej : ((r2 + (0 + (i : Int))) % 12) = ((((r2 + (0 + (i : Int))) % 12).toNat : Nat) : Int) := by omega
          refine ⟨rfl, _, rfl, _, rfl, _, rfl, .inl (.inl ⟨_, _, rfl, rfl, _, _, rfl, rfl, (by dsimp only; decide), ?_⟩)⟩
          refine .inl ⟨W, wds.map V.str, _, .str wds[((r2 + (0 + (i : Int))) % 12).toNat], rfl, rfl, SqL.of (s8 _ _ e7), ?_, ?_⟩
          · have e2 := atI_nat (xs := wds.map V.str) (j := ((r2 + (0 + (i : Int))) % 12).toNat) (v := .str wds[((r2 + (0 + (i : Int))) % 12).toNat]) (by rw [List.getElem?_map, List.getElem?_eq_getElem hj]; rfl)
            rw [← ej] at e2
            exact e2
          refine ⟨_, e8, ?_, zs2 ++ [wds[((r2 + (0 + (i : Int))) % 12).toNat]], ?_, ?_, ?_, same_mut s8 hL2⟩
          · rw [List.length_map, l8, sizeLine_eq]
            omega
          · rw [upd_same, List.map_append]
            rfl
          · rw [List.length_append, l8]
            rfl
          · intro y hy
            rcases List.mem_append.mp hy with hy | hy
            · exact o8 y hy
            · have : y = wds[((r2 + (0 + (i : Int))) % 12).toNat] := by simpa using hy
              rw [this]
              exact wds_ok _ (List.getElem_mem hj)
        · rintro H8 ⟨zs2, e8, l8, o8, s8⟩
          exact fin L2 zs2 H7 H8 (D7.mono (by omega)) s7 hL2 s8 (by rw [l8]; omega) o8 e8
      case rest =>
        refine ⟨_, rfl, d, c, n + 1 + 8 + 1, 8, rfl, D7, by omega, by decide, by decide, fun r3 H8 c0 c1 D8 s8 => ?_⟩
        obtain ⟨k, hk, ok⟩ := zat r3.toNat (by omega)
        obtain ⟨st, rs, eo⟩ := occ_some ok
        have er : r3 = ((r3.toNat : Nat) : Int) := by omega
        refine ⟨_, rfl, rfl, _, rfl, _, rfl, .inr (.inr ⟨z, r3, k, rfl, rfl, zs, ?_, ?_⟩)⟩
        · have e2 := atI_nat hk
          rw [← er] at e2
          exact e2
        refine ⟨_, _, st, rs, rfl, rfl, eo, ?_⟩
        have s78 := s7.trans s8
        refine ⟨_, rfl, (m : Int), rfl, by omega, by omega, fun L2 hL2 => ?_⟩
        refine lc_it walk_range (fun i H' => ∃ zs : List Str, H' L2 = some (.lst (zs.map V.str)) ∧ zs.length = i ∧ (∀ y ∈ zs, y.length ≤ 30 ∧ Low y) ∧ Same H8 H')
          ⟨[], upd_same, rfl, fun _ hy => (nomatch hy), same_new hL2 _⟩ (fun _ _ _ _ => trivial) ?_ ?_
        · rintro i x H9 H10 hi ⟨zs2, e8, l8, o8, s9⟩ ⟨rfl, rfl⟩
          have hj0 := Int.emod_nonneg ((st : Int) + (0 + (i : Int))) (show (26 : Int) ≠ 0 by decide)
          have hj1 := Int.emod_lt_of_pos ((st : Int) + (0 + (i : Int))) (show (0 : Int) < 26 by decide)
          have hj : (((st : Int) + (0 + (i : Int))) % 26).toNat < abc.cps.toList.length := by
            show _ < 26
            omega
          have ej : (((st : Int) + (0 + (i : Int))) % 26) = (((((st : Int) + (0 + (i : Int))) % 26).toNat : Nat) : Int) := by omega
          have cl1 := cut30 none (some r3)
          have cl2 := cut30 (some (r3 + 1)) none
          refine ⟨rfl, _, rfl, _, rfl, _, rfl, .inr ⟨z, rfl, zs, ?_⟩⟩
          refine ⟨_, rfl, _, rfl, _, rfl, .inl (.inl ⟨_, _, rfl, rfl, _, _, rfl, rfl, (by dsimp only; decide), ?_⟩)⟩
          refine .inr (.inr ⟨abc, _, abc.cps.toList[(((st : Int) + (0 + (i : Int))) % 26).toNat], rfl, rfl, by rw [sizeLine_eq]; decide, ?_, ?_⟩)
          · have e2 := atI_nat (List.getElem?_eq_getElem hj)
            rw [← ej] at e2
            exact e2
          refine .inl (.inr ⟨_, _, rfl, rfl, ?_, ?_⟩)
          · show (cutS z none (some r3)).length + (one _).length ≤ sizeLine
            have : (one abc.cps.toList[(((st : Int) + (0 + (i : Int))) % 26).toNat]).length = 1 := rfl
            rw [this, sizeLine_eq]
            omega
          refine ⟨_, rfl, _, rfl, .inl (.inl ⟨_, _, rfl, rfl, _, rfl, .inr ⟨z, rfl, zs, ?_⟩⟩)⟩
          have l9 : (cutS z none (some r3) ++ one abc.cps.toList[(((st : Int) + (0 + (i : Int))) % 26).toNat]).length ≤ 9 := by
            rw [Str.length_append]
            have : (one abc.cps.toList[(((st : Int) + (0 + (i : Int))) % 26).toNat]).length = 1 := rfl
            omega
          refine .inl (.inr ⟨_, _, rfl, rfl, ?_, ?_⟩)
          · have : (cutS z (some (r3 + 1)) none).length ≤ 8 := cl2.1
            rw [sizeLine_eq]
            exact Nat.le_trans (Nat.add_le_add l9 this) (by decide)
          refine ⟨_, e8, ?_, zs2 ++ [cutS z none (some r3) ++ one abc.cps.toList[(((st : Int) + (0 + (i : Int))) % 26).toNat] ++ cutS z (some (r3 + 1)) none], ?_, ?_, ?_, same_mut s9 hL2⟩
          · rw [List.length_map, l8, sizeLine_eq]
            omega
          · rw [upd_same, List.map_append]
            rfl
          · rw [List.length_append, l8]
            rfl
          · intro y hy
            rcases List.mem_append.mp hy with hy | hy
            · exact o8 y hy
            · have : y = cutS z none (some r3) ++ one abc.cps.toList[(((st : Int) + (0 + (i : Int))) % 26).toNat] ++ cutS z (some (r3 + 1)) none := by simpa using hy
              rw [this]
              refine ⟨?_, low_app (low_app cl1.2 (low_one (low_of (by decide)) (List.getElem_mem hj))) cl2.2⟩
              rw [Str.length_append]
              have := cl2.1
              omega
        · rintro H9 ⟨zs2, e8, l8, o8, s9⟩
          exact fin L2 zs2 H8 H9 (D8.mono (by omega)) s78 hL2 s9 (by rw [l8]; omega) o8 e8
end
end K11
end

/-! K11h -/
section
open PySem PySem.Spec PyProof.Rows L2 FA
namespace K11
section
variable {P : Program} {w : World} {K : PySem.W.Frag} {mg : Str → Option Value} {base : Heap} {f : Addr} {fd : FuncData} {C : Addr}
theorem cut_take (xs : List V) (k : Nat) : cutV xs none (some (k : Int)) = xs.take k := by
  unfold cutV
  have e : HT.sIx xs.length xs.length (some (k : Int)) = min k xs.length := HT.sIx_nat xs.length xs.length k
  rw [e]
  show (xs.drop 0).take (min k xs.length - 0) = xs.take k
  rw [List.drop_zero, Nat.sub_zero, List.take_eq_take_iff]
  omega
theorem cut_drop (xs : List V) (k : Nat) : cutV xs (some (k : Int)) none = xs.drop k := by
  unfold cutV
  have e : HT.sIx xs.length 0 (some (k : Int)) = min k xs.length := HT.sIx_nat xs.length 0 k
  rw [e]
  show (xs.drop (min k xs.length)).take (xs.length - min k xs.length) = xs.drop k
  by_cases h : k ≤ xs.length
  · rw [Nat.min_eq_left h, List.take_of_length_le (by rw [List.length_drop]; exact Nat.le_refl _)]
  · rw [Nat.min_eq_right (by omega), List.drop_eq_nil_of_le (Nat.le_refl _), List.drop_eq_nil_of_le (by omega)]
    simp
theorem len2 {xs : List V} (h : xs.length = 2) : ∃ a b, xs = [a, b] := by
  match xs, h with
  | [a, b], _ => exact ⟨a, b, rfl⟩
theorem len3 {xs : List V} (h : xs.length = 3) : ∃ a b c, xs = [a, b, c] := by
  match xs, h with
  | [a, b, c], _ => exact ⟨a, b, c, rfl⟩
theorem cut_t2 (xs : List V) : cutV xs none (some 2) = xs.take 2 := cut_take xs 2
theorem cut_d2 (xs : List V) : cutV xs (some 2) none = xs.drop 2 := cut_drop xs 2
theorem sq_same {a : Addr} {xs : List V} {H H' : Hp} (h : SqL K H a xs) (s : Same H H') : SqL K H' a xs := s.seq h
theorem nat_n {m n : Nat} (c : decide (V.int (m : Nat) = V.int (n : Nat)) = true) : m = n := by
  have h := V.int.inj (of_decide_eq_true c)
  omega
theorem nat_nn {m n : Nat} (c : ¬ decide (V.int (m : Nat) = V.int (n : Nat)) = true) : m ≠ n := by
  rintro rfl
  exact c (decide_eq_true rfl)
def spFacts (K : PySem.W.Frag) (C : Addr) (k : Nat) : Sp := fun vs H Q _ => ∃ (a : Addr) (xs : List V), vs = [.ref a] ∧ SqL K H a xs ∧ xs.length ≤ 3 + 2 * k ∧ xs.length ≤ 100 ∧ (∀ v ∈ xs, Vv v) ∧
  ∀ x H', H x = none → Same H H' → Fx C H' x (fcOf xs) → Q (.ref x) H'
def spFactsP (K : PySem.W.Frag) (C : Addr) : Nat → Sp
  | 0 => fun _ _ _ _ => False
  | k + 1 => spFacts K C k
theorem at_nth {xs : List V} {k : Nat} (h : k < xs.length) : atI xs (k : Int) = some xs[k] := atI_nat (List.getElem?_eq_getElem h)
theorem sc__law_facts : FnScope ["_law_some"] ["_law_some"] (defScope (top 11)) := ⟨rfl, rfl, rfl, by decide +kernel, rfl, by decide +kernel, by decide +kernel⟩
theorem ok__law_facts (k : Nat) (F : FnP K "_law_facts" 11 f fd) (hS : ∃ o, base.get? sysModules = some o) (m_len : mg "len" = none)
    (k_Facts : MkG P w K mg base 2 "Facts" C (spMk C)) (o_add : OpC P w K mg base 4 C "__add__" (spAdd C))
    (c__law_facts : Cal P w K mg base (4 + k) "_law_facts" ["_law_some"] (spFactsP K C k)) :
    FnG P w K mg base CX0 (5 + k) f fd ["_law_some"] (spFacts K C k) := by
  have e5 : 5 + k = (4 + k) + 1 := by omega
  rw [e5]
  refine okD F sc__law_facts hS (fun vs H Q E h => ?_) (fun cdv A outer s H vs Q E R h => ?_)
  · obtain ⟨a, xs, rfl, _⟩ := h
    rfl
  obtain ⟨a, xs, rfl, ha, hl, hl2, hv, q⟩ := h
  have nd := sc__law_facts.nd
  refine ⟨_, (pss_cons (ps_if (pt_cmpR op_gt (pe_callB call_lenA rfl m_len bt_len (pa_cons (pv 0) pa_nil)) pe_int (nomark _)) (pss_one (ps_ret (pe_op (oAdd o_add R) (cc c__law_facts R (pa_cons (pe_slice slAny (pv 0) po_none (po_some pe_int)) pa_nil)) (cc c__law_facts R (pa_cons (pe_slice slAny (pv 0) (po_some pe_int) po_none) pa_nil))))) pss_nil) (pss_cons (ps_if (pt_cmpR op_eq (pe_callB call_lenA rfl m_len bt_len (pa_cons (pv 0) pa_nil)) pe_int (nomark _)) (pss_one (ps_ret (cm0 k_Facts R))) pss_nil) (pss_cons (ps_if (pt_cmpR op_eq (pe_callB call_lenA rfl m_len bt_len (pa_cons (pv 0) pa_nil)) pe_int (nomark _)) (pss_one (ps_ret (cm k_Facts R (pa_cons (pe_ix ixAny (pv 0) pe_int (fun _ _ => rfl)) pa_nil)))) pss_nil) (pss_cons (ps_if (pt_cmpR op_eq (pe_callB call_lenA rfl m_len bt_len (pa_cons (pv 0) pa_nil)) pe_int (nomark _)) (pss_one (ps_ret (cm k_Facts R (pa_cons (pe_ix ixAny (pv 0) pe_int (fun _ _ => rfl)) (pa_cons (pe_ix ixAny (pv 0) pe_int (fun _ _ => rfl)) pa_nil))))) pss_nil) (pss_one (ps_ret (cm k_Facts R (pa_cons (pe_ix ixAny (pv 0) pe_int (fun _ _ => rfl)) (pa_cons (pe_ix ixAny (pv 0) pe_int (fun _ _ => rfl)) (pa_cons (pe_ix ixAny (pv 0) pe_int (fun _ _ => rfl)) pa_nil)))))))))), ?r⟩
  case r =>
    refine ⟨_, rfl, .inl ⟨a, xs, rfl, .inl ha, _, _, rfl, rfl, _, rfl, ite2 (fun c => ?_) (fun c => ?_)⟩⟩
    · have c3 : 3 < (xs.length : Int) := of_decide_eq_true c
      cases k with
      | zero => exact absurd c3 (by omega)
      | succ j =>
        refine ⟨_, rfl, _, rfl, .inl ⟨a, xs, rfl, ha, fun p hp => ?_⟩⟩
        rw [cut_t2]
        have s1 : Same H (upd H p (.lst (xs.take 2))) := same_new hp _
        refine ⟨p, xs.take 2, rfl, SqL.of upd_same, ?_, ?_, fun v h => hv v (List.mem_of_mem_take h), fun x H2 hx s2 fx => ?_⟩
        · rw [List.length_take]; omega
        · rw [List.length_take]; omega
        have ha2 := sq_same ha (s1.trans s2)
        refine ⟨_, rfl, _, rfl, .inl ⟨a, xs, rfl, ha2, fun p3 hp3 => ?_⟩⟩
        rw [cut_d2]
        have s3 : Same H2 (upd H2 p3 (.lst (xs.drop 2))) := same_new hp3 _
        refine ⟨p3, xs.drop 2, rfl, SqL.of upd_same, ?_, ?_, fun v h => hv v (List.mem_of_mem_drop h), fun y H4 hy s4 fy => ?_⟩
        · rw [List.length_drop]; omega
        · rw [List.length_drop]; omega
        have fx4 := fx.same (s3.trans s4)
        obtain ⟨dx, ex⟩ := id fx4
        obtain ⟨dy, ey⟩ := id fy
        refine ⟨x, y, dx, dy, _, _, rfl, rfl, ex, ey, x, y, _, _, rfl, fx4, fy, ?_, ?_, fun z H5 s5 hz fz => ?_⟩
        · exact fok_of (fun v h => hv v (List.mem_of_mem_take h)) (by rw [List.length_take]; omega)
        · exact fok_of (fun v h => hv v (List.mem_of_mem_drop h)) (by rw [List.length_drop]; omega)
        have s14 := ((s1.trans s2).trans s3).trans s4
        rw [← fcOf_app, List.take_append_drop] at fz
        exact q z H5 (s14.free hz) (s14.trans s5) fz
    · have c3 : ¬ (3 < (xs.length : Int)) := fun h => c (decide_eq_true h)
      refine ⟨_, rfl, .inl ⟨a, xs, rfl, .inl ha, rfl, _, rfl, ite2 (fun c0 => ?_) (fun c0 => ?_)⟩⟩
      · have : xs = [] := List.eq_nil_of_length_eq_zero (nat0 c0)
        subst this
        intro z dz hz hdz ne
        exact mk_ans hz hdz ne (Nat.zero_le _) (fun _ h => nomatch h) fun H' s e => ⟨rfl, q z H' hz s ⟨dz, e⟩⟩
      have n0 := nat1 c0
      refine ⟨_, rfl, .inl ⟨a, xs, rfl, .inl ha, rfl, _, rfl, ite2 (fun c1 => ?_) (fun c1 => ?_)⟩⟩
      · obtain ⟨v0, rfl⟩ := List.length_eq_one_iff.mp (nat_n (n := 1) c1)
        refine ⟨_, rfl, .inl ⟨a, _, 0, v0, rfl, rfl, ha, rfl, ?_⟩⟩
        intro z dz hz hdz ne
        exact mk_ans hz hdz ne (by simp) hv fun H' s e => ⟨rfl, q z H' hz s ⟨dz, e⟩⟩
      have n1 := nat_nn (n := 1) c1
      refine ⟨_, rfl, .inl ⟨a, xs, rfl, .inl ha, rfl, _, rfl, ite2 (fun c2 => ?_) (fun c2 => ?_)⟩⟩
      · obtain ⟨v0, v1, rfl⟩ := len2 (nat_n (n := 2) c2)
        refine ⟨_, rfl, .inl ⟨a, _, 0, v0, rfl, rfl, ha, rfl, _, rfl, .inl ⟨a, _, 1, v1, rfl, rfl, ha, rfl, ?_⟩⟩⟩
        intro z dz hz hdz ne
        exact mk_ans hz hdz ne (by simp) hv fun H' s e => ⟨rfl, q z H' hz s ⟨dz, e⟩⟩
      have n2 := nat_nn (n := 2) c2
      obtain ⟨v0, v1, v2, rfl⟩ := len3 (show xs.length = 3 by omega)
      refine ⟨_, rfl, .inl ⟨a, _, 0, v0, rfl, rfl, ha, rfl, _, rfl, .inl ⟨a, _, 1, v1, rfl, rfl, ha, rfl, _, rfl, .inl ⟨a, _, 2, v2, rfl, rfl, ha, rfl, ?_⟩⟩⟩⟩
      intro z dz hz hdz ne
      exact mk_ans hz hdz ne (by simp) hv fun H' s e => ⟨rfl, q z H' hz s ⟨dz, e⟩⟩
/-- the tuple that is due -/
def dueV (F : Fc) : List V := [.int F.a, .int F.ns.length, .int F.w, loV F.ns, hiV F.ns]
def spDue (K : PySem.W.Frag) : Sp := fun vs H Q _ => ∃ (a : Addr) (xs : List V), vs = [.ref a] ∧ SqL K H a xs ∧ xs.length ≤ 100 ∧ (∀ v ∈ xs, Vv v) ∧
  ∀ T H', H T = none → Same H H' → H' T = some (.tup (dueV (fcOf xs))) → Q (.ref T) H'
theorem minL_t {H : Hp} {D : Addr} {ns : List Int} {Q : VK} {σ : L2.St} {i : Nat} (hi : σ[i]? = some (some (.ref D))) (h : SqL K H D (ns.map V.int)) (n : ns ≠ []) (q : Q (loV ns) H) : tCB (rMin K) (tCons (tVar i) tNil) σ H Q :=
  ⟨_, hi, D, ns, rfl, h, List.length_pos_iff.mpr n, fun m h1 h2 => by rw [lo_is h1 h2] at q; exact q⟩
theorem maxL_t {H : Hp} {D : Addr} {ns : List Int} {Q : VK} {σ : L2.St} {i : Nat} (hi : σ[i]? = some (some (.ref D))) (h : SqL K H D (ns.map V.int)) (n : ns ≠ []) (q : Q (hiV ns) H) : tCB (rMax K) (tCons (tVar i) tNil) σ H Q :=
  ⟨_, hi, D, ns, rfl, h, List.length_pos_iff.mpr n, fun m h1 h2 => by rw [hi_is h1 h2] at q; exact q⟩
theorem strsOf_le : ∀ xs : List V, strsOf xs ≤ xs.length
  | [] => Nat.le_refl _
  | v :: r => by
    have := strsOf_le r
    cases v <;> simp only [strsOf, List.length_cons] <;> omega
theorem intsOf_le : ∀ xs : List V, (intsOf xs).length ≤ xs.length
  | [] => Nat.le_refl _
  | v :: r => by
    have := intsOf_le r
    cases v <;> simp only [intsOf, List.length_cons] <;> omega
theorem sc__law_due : FnScope ["_law_some", "_law_figures", "_law_texts", "_law_ends", "_law_one"] ["_law_some"] (defScope (top 12)) := ⟨rfl, rfl, rfl, by decide +kernel, rfl, by decide +kernel, by decide +kernel⟩
theorem ok__law_due (F : FnP K "_law_due" 12 f fd) (hS : ∃ o, base.get? sysModules = some o) (m_isinstance : mg "isinstance" = none) (m_int : mg "int" = none) (m_str : mg "str" = none) (m_len : mg "len" = none) (m_min : mg "min" = none) (m_max : mg "max" = none) :
    FnG P w K mg base CX0 1 f fd ["_law_some"] (spDue K) := by
  refine okD F sc__law_due hS (fun vs H Q E h => ?_) (fun cdv A outer s H vs Q E R h => ?_)
  · obtain ⟨a, xs, rfl, _⟩ := h
    rfl
  obtain ⟨a, xs, rfl, ha, hl, hv, q⟩ := h
  have nd := sc__law_due.nd
  refine ⟨_, (pss_cons (ps_setLc1 1 4 rfl nd rfl rfl (by rfl) (pi_list (pv 0)) (by kernel_rfl) (fun _ _ _ _ _ => pg_name (i := 4) nd rfl (Or.inl rfl)) (fun _ _ _ _ _ => (pts_one (pt_val (pe_callB (calK (r := rIsi) K rfl call_isi) rfl m_isinstance bt_isinstance (pa_cons (pv 4) (pa_cons (pe_bltn (v := .ty "int") (u := .type "int") rfl m_int bt_int rfl) pa_nil)))))) (fun _ _ _ _ _ => (pv 4))) (pss_cons (ps_setLc1 2 4 rfl nd rfl rfl (by rfl) (pi_list (pv 0)) (by kernel_rfl) (fun _ _ _ _ _ => pg_name (i := 4) nd rfl (Or.inl rfl)) (fun _ _ _ _ _ => (pts_one (pt_val (pe_callB (calK (r := rIsi) K rfl call_isi) rfl m_isinstance bt_isinstance (pa_cons (pv 4) (pa_cons (pe_bltn (v := .ty "str") (u := .type "str") rfl m_str bt_str rfl) pa_nil)))))) (fun _ _ _ _ _ => (pv 4))) (pss_cons (ps_set (i := 3) nd rfl (Or.inl rfl) (pe_ifExp (pt_cmpR (op_neD R.room.units) (pv 1) (pe_lst pa_nil) (nomark _)) (pe_tup (pa_cons (pe_callB (cr_min rfl) rfl m_min bt_min (pa_cons (pv 1) pa_nil)) (pa_cons (pe_callB (cr_max rfl) rfl m_max bt_max (pa_cons (pv 1) pa_nil)) pa_nil))) (pe_tup (pa_cons pe_non (pa_cons pe_non pa_nil))))) (pss_one (ps_ret (pe_op op_catT (pe_tup (pa_cons (pe_op op_sub (pe_op op_sub (pe_callB call_lenA rfl m_len bt_len (pa_cons (pv 0) pa_nil)) (pe_callB call_lenA rfl m_len bt_len (pa_cons (pv 1) pa_nil))) (pe_callB call_lenA rfl m_len bt_len (pa_cons (pv 2) pa_nil))) (pa_cons (pe_callB call_lenA rfl m_len bt_len (pa_cons (pv 1) pa_nil)) (pa_cons (pe_callB call_lenA rfl m_len bt_len (pa_cons (pv 2) pa_nil)) pa_nil)))) (pv 3))))))), ?r⟩
  case r =>
    -- the figures
    refine ⟨_, rfl, a, rfl, ⟨_, ha⟩, fun D hD => ?_⟩
    refine lc_list (K := K) (a := a) (xs := xs) (fun i H' => Same H H' ∧ H' D = some (.lst ((intsOf (xs.take i)).map V.int))) ⟨same_new hD _, upd_same⟩ (fun i H' _ ⟨z, _⟩ => sq_same ha z) ?_ ?_
    · rintro i v H1 hi ⟨s1, e1⟩
      have vv := hv v (List.mem_of_getElem? hi)
      have ts := take_snoc hi
      obtain ⟨t, ht, _, hk⟩ := vv_ty (K := K) (H := H1) vv
      refine ⟨rfl, _, rfl, _, _, _, _, _, rfl, .ty _, ht, hk, _, rfl, ?_⟩
      rcases vv with rfl | ⟨j, rfl, hj⟩ | ⟨z, rfl⟩
      · refine iteF ⟨s1, ?_⟩
        rw [ts, intsOf_app]
        simpa [intsOf] using e1
      · refine iteT ⟨_, rfl, _, e1, ?_, same_mut s1 hD, ?_⟩
        · rw [List.length_map]
          have := intsOf_le (xs.take i)
          have l3 : (xs.take i).length ≤ 100 := Nat.le_trans (List.length_take_le' _ _) hl
          rw [sizeLine_eq]
          omega
        · rw [upd_same, ts, intsOf_app, List.map_append]
          rfl
      · refine iteF ⟨s1, ?_⟩
        rw [ts, intsOf_app]
        simpa [intsOf] using e1
    rintro H1 ⟨s1, e1⟩
    rw [take_all] at e1
    -- the texts
    refine ⟨_, rfl, a, rfl, ⟨_, sq_same ha s1⟩, fun D2 hD2 => ?_⟩
    refine lc_list (K := K) (a := a) (xs := xs) (fun i H' => Same H1 H' ∧ ∃ acc, H' D2 = some (.lst acc) ∧ acc.length = strsOf (xs.take i)) ⟨same_new hD2 _, [], upd_same, rfl⟩ (fun i H' _ ⟨z, _⟩ => sq_same ha (s1.trans z)) ?_ ?_
    · rintro i v H2 hi ⟨s2, acc, e2, l2⟩
      have vv := hv v (List.mem_of_getElem? hi)
      have ts := take_snoc hi
      obtain ⟨t, ht, hk, _⟩ := vv_ty (K := K) (H := H2) vv
      refine ⟨rfl, _, rfl, _, _, _, _, _, rfl, .ty _, ht, hk, _, rfl, ?_⟩
      rcases vv with rfl | ⟨j, rfl, hj⟩ | ⟨z, rfl⟩
      · exact iteF ⟨s2, acc, e2, by rw [l2, ts, strsOf_app]; rfl⟩
      · exact iteF ⟨s2, acc, e2, by rw [l2, ts, strsOf_app]; rfl⟩
      · refine iteT ⟨_, rfl, _, e2, ?_, same_mut s2 hD2, _, upd_same, ?_⟩
        · rw [l2]
          have := strsOf_le (xs.take i)
          have l3 : (xs.take i).length ≤ 100 := Nat.le_trans (List.length_take_le' _ _) hl
          rw [sizeLine_eq]
          omega
        · rw [ts, strsOf_app, List.length_append, l2]
          rfl
    rintro H2 ⟨s2, acc, e2, l2⟩
    rw [take_all] at l2
    have eD := s2 _ _ e1
    have s12 := s1.trans s2
    -- the ends
    have rest : ∀ (p : Addr) (H3 : Hp), Same H2 H3 → H3 p = some (.tup [loV (intsOf xs), hiV (intsOf xs)]) → (tRet (tOp (rCatT K) (tTup (tCons (tOp rSubA (tOp rSubA (tCB (rLenA K) (tCons (tVar 0) tNil)) (tCB (rLenA K) (tCons (tVar 1) tNil))) (tCB (rLenA K) (tCons (tVar 2) tNil))) (tCons (tCB (rLenA K) (tCons (tVar 1) tNil)) (tCons (tCB (rLenA K) (tCons (tVar 2) tNil)) tNil)))) (tVar 3))) { nx := fun _ H' => Q .non H', rt := Q } [some (.ref a), some (.ref D), some (.ref D2), some (.ref p), none] H3 := by
      intro p H3 s3 e3
      have eD3 := s3 _ _ eD
      have e23 := s3 _ _ e2
      refine ⟨_, rfl, .inl ⟨a, xs, rfl, .inl (sq_same ha (s12.trans s3)), ?_⟩⟩
      refine ⟨_, rfl, .inl ⟨D, _, rfl, .inl (SqL.of eD3), _, _, rfl, rfl, ?_⟩⟩
      refine ⟨_, rfl, .inl ⟨D2, _, rfl, .inl (SqL.of e23), ?_⟩⟩
      have ew : (xs.length : Int) - (((intsOf xs).map V.int).length : Nat) - (acc.length : Nat) = (nonsOf xs : Nat) := by
        have := counts hv
        rw [List.length_map, l2]
        omega
      refine sub_ans ew ?_
      refine ⟨_, rfl, .inl ⟨D, _, rfl, .inl (SqL.of eD3), _, rfl, .inl ⟨D2, _, rfl, .inl (SqL.of e23), ?_⟩⟩⟩
      rw [List.length_map, l2]
      refine ⟨by show 3 ≤ sizeLine; decide, fun p4 hp4 => ⟨_, rfl, p4, p, _, _, rfl, rfl, SqT.of upd_same, SqT.of ((upd_ne (ne_of_none e3 hp4)).trans e3), by simp, by show 3 + 2 ≤ sizeLine; decide, fun h => absurd h (by simp), fun _ p5 hp5 => ?_⟩⟩
      have s4 := s3.trans (same_new hp4 (.tup [.int (nonsOf xs), .int (intsOf xs).length, .int (strsOf xs)]))
      have s5 := (s12.trans s4).trans (same_new hp5 (.tup (dueV (fcOf xs))))
      exact q p5 _ ((s12.trans s4).free hp5) s5 upd_same
    refine ⟨_, rfl, Nat.zero_le _, fun p hp => ?_⟩
    have s3 : Same H2 (upd H2 p (.lst [])) := same_new hp _
    refine ⟨_, _, .lst (SqL.of (s3 _ _ eD)) (ints_dp (intsOf xs)), .lst (SqL.of upd_same) .nil, ints_shaped _, rfl, _, rfl, ?_⟩
    have eD3 := s3 _ _ eD
    generalize upd H2 p (.lst []) = H3 at s3 eD3
    refine ite2 (fun c => ?_) (fun c => ?_)
    · have n : intsOf xs ≠ [] := by
        rintro e
        rw [e] at c
        exact absurd c (by decide)
      refine minL_t rfl (SqL.of eD3) n ?_
      refine maxL_t rfl (SqL.of eD3) n ?_
      refine ⟨by show 2 ≤ sizeLine; decide, fun p4 hp4 => ?_⟩
      exact rest p4 _ (s3.trans (same_new hp4 _)) upd_same
    · have n : intsOf xs = [] := by
        cases e : intsOf xs with
        | nil => rfl
        | cons i r => rw [e] at c; exact absurd (by simp [PyData.eqv, PyData.eqvAll]) c
      have e0 : loV (intsOf xs) = .non := by rw [n]; rfl
      have e1 : hiV (intsOf xs) = .non := by rw [n]; rfl
      refine ⟨by show 2 ≤ sizeLine; decide, fun p4 hp4 => ?_⟩
      rw [e0, e1] at rest
      exact rest p4 _ (s3.trans (same_new hp4 _)) upd_same
end
end K11
end

/-! K11i -/
section
open PySem PySem.Spec PyProof.Rows L2 FA
namespace K11
section
variable {P : Program} {w : World} {K : PySem.W.Frag} {mg : Str → Option Value} {base : Heap} {f : Addr} {fd : FuncData} {C : Addr}
def Fc.txt (F : Fc) : Str := K11.txt F.a F.ns.length F.w (loV F.ns) (hiV F.ns)
def spLawText (K : PySem.W.Frag) : Sp := fun vs H Q _ => ∃ (T : Addr) (F : Fc), vs = [.ref T] ∧ SqT K H T (dueV F) ∧ Fok 900 F ∧ Q (.str F.txt) H
theorem txt_none (F : Fc) (h : F.ns = []) : iS F.a ++ " nothing, " ++ "0 numbers" ++ ", " ++ iS F.w ++ " words" = F.txt := by
  unfold Fc.txt K11.txt
  rw [h]
  have e0 : ∀ x : Str, iS (([] : List Int).length : Int) ++ ((" numbers" : Str) ++ (spanS (loV []) (hiV []) ++ x)) = ("0 numbers" : Str) ++ x := fun x => by
    rw [← Str.append_assoc, ← Str.append_assoc]
    exact congrArg (· ++ x) (by decide +kernel)
  simp only [Str.append_assoc, Str.empty_append, e0]
theorem txt_some (F : Fc) {l u : Int} (h1 : loV F.ns = .int l) (h2 : hiV F.ns = .int u) : iS F.a ++ " nothing, " ++ (iS F.ns.length ++ " numbers from " ++ iS l ++ " to " ++ iS u) ++ ", " ++ iS F.w ++ " words" = F.txt := by
  unfold Fc.txt K11.txt
  rw [h1, h2]
  have e0 : ∀ x : Str, (" numbers" : Str) ++ ((" from " : Str) ++ x) = (" numbers from " : Str) ++ x := fun x => by
    rw [← Str.append_assoc]
    exact congrArg (· ++ x) (by decide +kernel)
  simp only [spanS, Str.append_assoc, Str.empty_append, e0]
theorem due1 {F : Fc} : atI (dueV F) 1 = some (.int F.ns.length) := rfl
theorem due0 {F : Fc} : atI (dueV F) 0 = some (.int F.a) := rfl
theorem due2 {F : Fc} : atI (dueV F) 2 = some (.int F.w) := rfl
theorem due3 {F : Fc} : atI (dueV F) 3 = some (loV F.ns) := rfl
theorem due4 {F : Fc} : atI (dueV F) 4 = some (hiV F.ns) := rfl
theorem sc__law_text : FnScope ["_law_due_here", "_law_middle"] ["_law_due_here"] (defScope (top 13)) := ⟨rfl, rfl, rfl, by decide +kernel, rfl, by decide +kernel, by decide +kernel⟩
theorem ok__law_text (F : FnP K "_law_text" 13 f fd) (hS : ∃ o, base.get? sysModules = some o) (m_str : mg "str" = none) :
    FnG P w K mg base CX0 1 f fd ["_law_due_here"] (spLawText K) := by
  refine okD F sc__law_text hS (fun vs H Q E h => ?_) (fun cdv A outer s H vs Q E R h => ?_)
  · obtain ⟨T, F, rfl, _⟩ := h
    rfl
  obtain ⟨T, F, rfl, hT, fk, q⟩ := h
  have nd := sc__law_text.nd
  refine ⟨_, (pss_cons (ps_set (i := 1) nd rfl (Or.inl rfl) pe_str) (pss_cons (ps_if (pt_cmpR op_gt (pe_ix ixAny (pv 0) pe_int (fun _ _ => rfl)) pe_int (nomark _)) (pss_one (ps_set (i := 1) nd rfl (Or.inl rfl) (pe_op opAdd (pe_op opAdd (pe_op opAdd (pe_op opAdd (pe_callTy call_str_int rfl m_str bt_str (pa_cons (pe_ix ixAny (pv 0) pe_int (fun _ _ => rfl)) pa_nil)) pe_str) (pe_callTy call_str_int rfl m_str bt_str (pa_cons (pe_ix ixAny (pv 0) pe_int (fun _ _ => rfl)) pa_nil))) pe_str) (pe_callTy call_str_int rfl m_str bt_str (pa_cons (pe_ix ixAny (pv 0) pe_int (fun _ _ => rfl)) pa_nil))))) pss_nil) (pss_one (ps_ret (pe_op opAdd (pe_op opAdd (pe_op opAdd (pe_op opAdd (pe_op opAdd (pe_callTy call_str_int rfl m_str bt_str (pa_cons (pe_ix ixAny (pv 0) pe_int (fun _ _ => rfl)) pa_nil)) pe_str) (pv 1)) pe_str) (pe_callTy call_str_int rfl m_str bt_str (pa_cons (pe_ix ixAny (pv 0) pe_int (fun _ _ => rfl)) pa_nil))) pe_str))))), ?r⟩
  case r =>
    have la : (iS F.a).length ≤ 14 := iS_len (nat_small (Nat.le_trans fk.a (by decide)))
    have ln : (iS F.ns.length).length ≤ 14 := iS_len (nat_small (Nat.le_trans fk.n (by decide)))
    have lw : (iS F.w).length ≤ 14 := iS_len (nat_small (Nat.le_trans fk.w (by decide)))
    have ga := log_small (nat_small (Nat.le_trans fk.a (show 900 ≤ 1000 by decide)))
    have gn := log_small (nat_small (Nat.le_trans fk.n (show 900 ≤ 1000 by decide)))
    have gw := log_small (nat_small (Nat.le_trans fk.w (show 900 ≤ 1000 by decide)))
    have fitS : ∀ {x y : Str} {n m : Nat}, x.length ≤ n → y.length ≤ m → n + m ≤ 1000 → x.length + y.length ≤ sizeLine := fun hx hy h => by rw [sizeLine_eq]; omega
    -- the last row, whatever the middle is
    have last : ∀ z : Str, z.length ≤ 80 → (∀ H', H' = H → iS F.a ++ " nothing, " ++ z ++ ", " ++ iS F.w ++ " words" = F.txt) → (tRet (tOp rAddA (tOp rAddA (tOp rAddA (tOp rAddA (tOp rAddA (tCB rStrI (tCons (tOp (rIxA K) (tVar 0) (tC (V.int 0))) tNil)) (tC (V.str " nothing, "))) (tVar 1)) (tC (V.str ", "))) (tCB rStrI (tCons (tOp (rIxA K) (tVar 0) (tC (V.int 2))) tNil))) (tC (V.str " words")))) { nx := fun _ H' => Q .non H', rt := Q } [some (.ref T), some (.str z)] H := by
      intro z hz ez
      refine ⟨_, rfl, .inr (.inl ⟨T, _, 0, _, rfl, rfl, hT, due0, _, rfl, ga, ?_⟩)⟩
      refine .inl (.inr ⟨_, _, rfl, rfl, fitS la (show (Str.ofString " nothing, ").length ≤ 10 by decide) (by decide), ?_⟩)
      have l1 : (iS F.a ++ " nothing, ").length ≤ 24 := fit_app la (show (Str.ofString " nothing, ").length ≤ 10 by decide)
      refine ⟨_, rfl, .inl (.inr ⟨_, _, rfl, rfl, fitS l1 hz (by decide), ?_⟩)⟩
      have l2 := fit_app l1 hz
      refine .inl (.inr ⟨_, _, rfl, rfl, fitS l2 (show (Str.ofString ", ").length ≤ 2 by decide) (by decide), ?_⟩)
      have l3 := fit_app l2 (show (Str.ofString ", ").length ≤ 2 by decide)
      refine ⟨_, rfl, .inr (.inl ⟨T, _, 2, _, rfl, rfl, hT, due2, _, rfl, gw, ?_⟩)⟩
      refine .inl (.inr ⟨_, _, rfl, rfl, fitS l3 lw (by decide), ?_⟩)
      have l4 := fit_app l3 lw
      refine .inl (.inr ⟨_, _, rfl, rfl, fitS l4 (show (Str.ofString " words").length ≤ 6 by decide) (by decide), ?_⟩)
      have q1 := q
      rw [← ez H rfl] at q1
      exact q1
    refine ⟨_, rfl, .inr (.inl ⟨T, _, 1, _, rfl, rfl, hT, due1, _, _, rfl, rfl, _, rfl, ite2 (fun c => ?_) (fun c => ?_)⟩)⟩
    · rcases lo_cases F.ns with ⟨e0, _⟩ | ⟨l, u, e1, e2, m1, m2, _⟩
      · rw [e0] at c
        exact absurd c (by decide)
      have sl := fk.i l m1
      have su := fk.i u m2
      refine ⟨_, rfl, .inr (.inl ⟨T, _, 1, _, rfl, rfl, hT, due1, _, rfl, gn, ?_⟩)⟩
      refine .inl (.inr ⟨_, _, rfl, rfl, fitS ln (show (Str.ofString " numbers from ").length ≤ 14 by decide) (by decide), ?_⟩)
      have l1 := fit_app ln (show (Str.ofString " numbers from ").length ≤ 14 by decide)
      refine ⟨_, rfl, .inr (.inl ⟨T, _, 3, .int l, rfl, rfl, hT, by rw [← e1]; exact due3, _, rfl, log_small sl, ?_⟩)⟩
      refine .inl (.inr ⟨_, _, rfl, rfl, fitS l1 (iS_len sl) (by decide), ?_⟩)
      have l2 := fit_app l1 (iS_len sl)
      refine .inl (.inr ⟨_, _, rfl, rfl, fitS l2 (show (Str.ofString " to ").length ≤ 4 by decide) (by decide), ?_⟩)
      have l3 := fit_app l2 (show (Str.ofString " to ").length ≤ 4 by decide)
      refine ⟨_, rfl, .inr (.inl ⟨T, _, 4, .int u, rfl, rfl, hT, by rw [← e2]; exact due4, _, rfl, log_small su, ?_⟩)⟩
      refine .inl (.inr ⟨_, _, rfl, rfl, fitS l3 (iS_len su) (by decide), ?_⟩)
      have l4 := fit_app l3 (iS_len su)
      exact last _ (Nat.le_trans l4 (by decide)) fun _ _ => txt_some F e1 e2
    · have e0 : F.ns = [] := by
        cases e : F.ns with
        | nil => rfl
        | cons i r => rw [e] at c; exact absurd (decide_eq_true (by rw [List.length_cons]; omega)) c
      exact last _ (by decide) fun _ _ => txt_none F e0
/-- what is told of facts -/
def optD : Option Int → PyData
  | some m => .int m
  | none => .none
def toldD (F : Fc) : PyData := .tuple [.int F.a, .int F.ns.length, .int F.w, optD F.ns.min?, optD F.ns.max?]
theorem dat_opt {H : Hp} (o : Option Int) : Dat H (optD o) (optV o) := by cases o <;> simp only [optD, optV, Dat]
theorem dat_due {H : Hp} {T : Addr} {F : Fc} (h : H T = some (.tup (dueV F))) : Dat H (toldD F) (.ref T) := by
  simp only [toldD, Dat, DatAll]
  exact ⟨T, _, rfl, h, _, _, rfl, rfl, _, _, rfl, rfl, _, _, rfl, rfl, _, _, rfl, dat_opt _, _, _, rfl, dat_opt _, rfl⟩
theorem okd_opt {o : Option Int} {D : Nat} (h : ∀ y, o = some y → y.natAbs ≤ 10 ^ 12) : Okd D 140 (optD o) := by
  cases o with
  | none => exact okd_non
  | some y => exact okd_int (Nat.lt_of_le_of_lt (h y rfl) (by decide)) (Nat.le_refl _)
theorem rp_told {F : Fc} (fk : Fok 900 F) : Rp (toldD F) := by
  have n40 : ∀ n : Nat, n ≤ 900 → ((n : Int)).natAbs < 10 ^ 40 := fun n h => Nat.lt_of_le_of_lt (nat_small (Nat.le_trans h (by decide))) (by decide)
  refine Okd.rp (okd_tuple (oks_cons (W := 140) (okd_int (n40 _ fk.a) (Nat.le_refl _)) (oks_cons (W := 140) (okd_int (n40 _ fk.n) (Nat.le_refl _)) (oks_cons (W := 140) (okd_int (n40 _ fk.w) (Nat.le_refl _)) (oks_cons (okd_opt ?_) (oks_cons (okd_opt ?_) (oks_nil (D := 0) (W := 0)))))))) (by decide) (by decide)
  · intro y hy
    exact fk.i y (List.min?_eq_some_iff.mp hy).1
  · intro y hy
    exact fk.i y (List.max?_eq_some_iff.mp hy).1
def spTold (C : Addr) : Sp := fun vs H Q _ => ∃ (x : Addr) (F : Fc), vs = [.ref x] ∧ Fx C H x F ∧ Fok 900 F ∧ ∀ H', Same H H' → Q (.str (toldD F).shown) H'
theorem sc__law_told : FnScope ["_law_facts_here"] ["_law_facts_here"] (defScope (top 14)) := ⟨rfl, rfl, rfl, by decide +kernel, rfl, by decide +kernel, by decide +kernel⟩
theorem ok__law_told (F : FnP K "_law_told" 14 f fd) (hS : ∃ o, base.get? sysModules = some o) (T : Kf K C) (m_repr : mg "repr" = none) :
    FnG P w K mg base CX0 1 f fd ["_law_facts_here"] (spTold C) := by
  refine okD F sc__law_told hS (fun vs H Q E h => ?_) (fun cdv A outer s H vs Q E R h => ?_)
  · obtain ⟨x, F, rfl, _⟩ := h
    rfl
  obtain ⟨x, F, rfl, ⟨dx, hx⟩, fk, q⟩ := h
  have nd := sc__law_told.nd
  refine ⟨_, (pss_one (ps_ret (crepr R m_repr (pa_cons (pe_tup (pa_cons (pe_fld (pv 0) rfl) (pa_cons (pe_fld (pv 0) rfl) (pa_cons (pe_fld (pv 0) rfl) (pa_cons (pe_fld (pv 0) rfl) (pa_cons (pe_fld (pv 0) rfl) pa_nil)))))) pa_nil)))), ?r⟩
  case r =>
    have T0 := T.icl.cls
    refine ⟨_, rfl, x, C, dx, _, _, rfl, hx, T0, T.no _ (by decide), rfl, ?_⟩
    refine ⟨_, rfl, x, C, dx, _, _, rfl, hx, T0, T.no _ (by decide), rfl, ?_⟩
    refine ⟨_, rfl, x, C, dx, _, _, rfl, hx, T0, T.no _ (by decide), rfl, ?_⟩
    refine ⟨_, rfl, x, C, dx, _, _, rfl, hx, T0, T.no _ (by decide), rfl, ?_⟩
    refine ⟨_, rfl, x, C, dx, _, _, rfl, hx, T0, T.no _ (by decide), rfl, ?_⟩
    refine ⟨by show 5 ≤ sizeLine; decide, fun p hp => ?_⟩
    have rp := rp_told fk
    exact ⟨_, toldD F, rfl, dat_due upd_same, rp.sh, rp.dp, rp.ln, q _ (same_new hp _)⟩
end
end K11
end

/-! K11j -/
section
open PySem PySem.Spec PyProof.Rows L2 FA
namespace K11
section
variable {P : Program} {w : World} {K : PySem.W.Frag} {mg : Str → Option Value} {base : Heap} {f : Addr} {fd : FuncData} {C : Addr}
def spProbes (K : PySem.W.Frag) : Sp := fun vs H Q _ => ∃ (d c T W : Addr) (n : Nat) (F : Fc) (zs : List Str), vs = [.ref d, .ref T, .ref W] ∧ MDeck H d c n ∧ n + 20 ≤ 1000000 ∧ hid d c H T = some (.tup (dueV F)) ∧ hid d c H W = some (.lst (zs.map V.str)) ∧ zs.length ≤ 30 ∧ Fok 900 F ∧
  ∀ L xs H', hid d c H' L = some (.lst xs) → H L = none → xs.length ≤ 100 → (∀ v ∈ xs, Vv v) → MDeck H' d c (n + 1) → Same (hid d c H) (hid d c H') → Q (.ref L) H'
theorem vv_int {i : Int} (h : i.natAbs ≤ 10 ^ 12) : Vv (.int i) := .inr (.inl ⟨i, rfl, h⟩)
theorem sc__law_probes : FnScope ["_law_deck_here", "_law_due_here", "_law_words", "_law_near", "_law_end"] ["_law_deck_here", "_law_due_here", "_law_words"] (defScope (top 15)) := ⟨rfl, rfl, rfl, by decide +kernel, rfl, by decide +kernel, by decide +kernel⟩
theorem ok__law_probes (F : FnP K "_law_probes" 15 f fd) (hS : ∃ o, base.get? sysModules = some o) (m_max : mg "max" = none) (m_min : mg "min" = none)
    (c__law_draw : Cal P w K mg base 1 "_law_draw" ["_law_deck_here", "_law_count"] spDrawM) :
    FnG P w K mg base CX0 2 f fd ["_law_deck_here", "_law_due_here", "_law_words"] (spProbes K) := by
  refine okD F sc__law_probes hS (fun vs H Q E h => ?_) (fun cdv A outer s H vs Q E R h => ?_)
  · obtain ⟨d, c, T, W, n, F, zs, rfl, _⟩ := h
    rfl
  obtain ⟨d, c, T, W, n, F, zs, rfl, D, hn, hT, hW, hz, fk, q⟩ := h
  have nd := sc__law_probes.nd
  refine ⟨_, (pss_cons (ps_set (i := 3) nd rfl (Or.inl rfl) (pe_lst (pa_cons pe_int (pa_cons pe_int (pa_cons (pe_op op_pow pe_int pe_int) (pa_cons (pe_op op_sub pe_int (pe_op op_pow pe_int pe_int)) (pa_cons (pe_op op_sub (cc c__law_draw R (pa_cons (pv 0) (pa_cons pe_int pa_nil))) pe_int) pa_nil))))))) (pss_cons (ps_for PassesOwn.never rfl (pi_tup (pe_slice sl_tup (pv 1) (po_some pe_int) po_none)) (pg_name (i := 4) nd rfl (Or.inl rfl)) (pss_one (ps_if (pt_cmpR op_notN (pv 4) pe_non (nomark _)) (pss_one (ps_expr (pe_bm PySem.F.plainAttrs_list PySem.F.slot_list_extend PySem.F.type_list_extend mt_extend (pv 3) (pa_cons (pe_lst (pa_cons (pe_callB (call_max2 rfl) rfl m_max bt_max (pa_cons (pe_op op_sub pe_int (pe_op op_pow pe_int pe_int)) (pa_cons (pe_op op_sub (pv 4) pe_int) pa_nil))) (pa_cons (pv 4) (pa_cons (pe_callB (call_min2 rfl) rfl m_min bt_min (pa_cons (pe_op op_pow pe_int pe_int) (pa_cons (pe_op opAdd (pv 4) pe_int) pa_nil))) pa_nil)))) pa_nil)))) pss_nil))) (pss_cons (ps_if (pt_cmpR op_gt (pe_ix ixAny (pv 1) pe_int (fun _ _ => rfl)) pe_int (nomark _)) (pss_one (ps_expr (pe_bm PySem.F.plainAttrs_list PySem.F.slot_list_append PySem.F.type_list_append mt_append (pv 3) (pa_cons (pe_op op_fdivW (pe_op opAdd (pe_ix ixAny (pv 1) pe_int (fun _ _ => rfl)) (pe_ix ixAny (pv 1) pe_int (fun _ _ => rfl))) pe_int) pa_nil)))) pss_nil) (pss_one (ps_ret (pe_op opAdd (pe_op opAdd (pe_lst (pa_cons pe_non pa_nil)) (pv 2)) (pv 3))))))), ?r⟩
  case r =>
    have e12 : (10 : Int) ^ Int.toNat 12 = 1000000000000 := by decide
    refine ⟨_, _, rfl, rfl, ⟨by decide, by decide, by decide⟩, _, _, rfl, rfl, ⟨by decide, by decide, by decide⟩, _, _, rfl, rfl, ?_⟩
    refine ⟨_, rfl, d, c, n, 200, rfl, D, by omega, by decide, by decide, fun r H1 a0 a1 D1 s1 => ⟨_, _, rfl, rfl, ?_⟩⟩
    refine ⟨by show 5 ≤ sizeLine; decide, fun N hN => ?_⟩
    obtain ⟨Nd, Nc⟩ := D1.ne hN
    have D2 := D1.upd (o := .lst [.int 0, .int 1, .int (10 ^ Int.toNat 12), .int (0 - 10 ^ Int.toNat 12), .int (r - 100)]) Nd Nc
    have s2 := s1.trans (hid_same (same_new hN (.lst [.int 0, .int 1, .int (10 ^ Int.toNat 12), .int (0 - 10 ^ Int.toNat 12), .int (r - 100)])))
    have e2 : upd H1 N (.lst [.int 0, .int 1, .int (10 ^ Int.toNat 12), .int (0 - 10 ^ Int.toNat 12), .int (r - 100)]) N = some (.lst [.int 0, .int 1, .int (10 ^ Int.toNat 12), .int (0 - 10 ^ Int.toNat 12), .int (r - 100)]) := upd_same
    generalize upd H1 N (.lst [.int 0, .int 1, .int (10 ^ Int.toNat 12), .int (0 - 10 ^ Int.toNat 12), .int (r - 100)]) = H2 at D2 s2 e2
    have start : ∃ ys : List V, H2 N = some (.lst ys) ∧ ys.length ≤ 5 ∧ ∀ v ∈ ys, Vv v := by
      refine ⟨_, e2, Nat.le_refl _, fun v hv => ?_⟩
      simp only [List.mem_cons, List.not_mem_nil, or_false] at hv
      rcases hv with rfl | rfl | rfl | rfl | rfl <;> refine vv_int ?_
      · decide
      · decide
      · rw [e12]; decide
      · rw [e12]; decide
      · omega
    have hT1 := hid_sub _ _ (s1 _ _ hT)
    have hT2 := hid_sub _ _ (s2 _ _ hT)
    have hN0 : H N = none := dmM_of D1 s1 _ hN
    obtain ⟨Td, Tc, _⟩ := hid_some hT
    obtain ⟨Wd, Wc, _⟩ := hid_some hW
    clear e2
    obtain ⟨ys0, e2, l2, v2⟩ := start
    -- the ends
    have e35 : cutV (dueV F) (some 3) none = [loV F.ns, hiV F.ns] := cut_drop (dueV F) 3
    refine ⟨_, rfl, _, rfl, T, dueV F, rfl, SqT.of hT2, (by show ¬ (HT.sIx 5 0 (some 3) = 0 ∧ HT.sIx 5 5 none = 5); decide), fun p hp => ?_⟩
    rw [e35]
    obtain ⟨pd, pc⟩ := D2.ne hp
    have pN : N ≠ p := ne_of_none e2 hp
    have ep : upd H2 p (.tup [loV F.ns, hiV F.ns]) p = some (.tup [loV F.ns, hiV F.ns]) := upd_same
    have D3 := D2.upd (o := .tup [loV F.ns, hiV F.ns]) pd pc
    have s3 := s2.trans (hid_same (same_new hp (.tup [loV F.ns, hiV F.ns])))
    have e3 : upd H2 p (.tup [loV F.ns, hiV F.ns]) N = some (.lst ys0) := (upd_ne pN).trans e2
    generalize upd H2 p (.tup [loV F.ns, hiV F.ns]) = H3 at ep D3 s3 e3
    refine ⟨p, rfl, ⟨_, SqT.of ep⟩, for_tup (K := K) (a := p) (xs := [loV F.ns, hiV F.ns])
      (fun i σ H' => ∃ v ys, σ = [some (.ref d), some (.ref T), some (.ref W), some (.ref N), v] ∧ H' N = some (.lst ys) ∧ ys.length ≤ 5 + 3 * i ∧ (∀ v ∈ ys, Vv v) ∧ MDeck H' d c (n + 1) ∧ Same (hid d c H) (hid d c H') ∧ H' p = some (.tup [loV F.ns, hiV F.ns]))
      ⟨none, ys0, rfl, e3, l2, v2, D3, s3, ep⟩ (fun i σ H' _ ⟨_, _, _, _, _, _, _, _, e⟩ => SqT.of e) ?_ ?_⟩
    · rintro i v σ H4 hi ⟨v0, ys, rfl, e4, l4, v4, D4, s4, ep4⟩
      have i2 : i < 2 := (List.getElem?_eq_some_iff.mp hi).1
      have vc : v = .non ∨ ∃ j : Int, v = .int j ∧ j.natAbs ≤ 10 ^ 12 := by
        have hm := List.mem_of_getElem? hi
        simp only [List.mem_cons, List.not_mem_nil, or_false] at hm
        rcases lo_cases F.ns with ⟨_, e5, e6⟩ | ⟨l, u, e5, e6, m1, m2, _⟩
        · rw [e5, e6] at hm
          exact .inl (hm.elim id id)
        · rw [e5, e6] at hm
          exact .inr (hm.elim (fun e => ⟨l, e, fk.i l m1⟩) fun e => ⟨u, e, fk.i u m2⟩)
      rcases vc with rfl | ⟨j, rfl, hj⟩
      · exact ⟨_, rfl, rfl, _, rfl, _, ys, rfl, e4, by omega, v4, D4, s4, ep4⟩
      · refine ⟨_, rfl, rfl, _, rfl, ?_⟩
        refine ⟨_, rfl, .inl ⟨rfl, _, SqL.of e4⟩, ?_⟩
        refine ⟨_, _, rfl, rfl, ⟨by decide, by decide, by decide⟩, _, _, rfl, rfl, _, rfl, _, _, rfl, rfl, _, _, rfl, _, rfl, ?_⟩
        refine ⟨_, _, rfl, rfl, ⟨by decide, by decide, by decide⟩, _, rfl, .inl (.inl ⟨_, _, rfl, rfl, _, _, rfl, ?_⟩)⟩
        refine ⟨by show 3 ≤ sizeLine; decide, fun p2 hp2 => ?_⟩
        have Np2 : N ≠ p2 := ne_of_none e4 hp2
        have pp2 : p ≠ p2 := ne_of_none ep4 hp2
        obtain ⟨p2d, p2c⟩ := D4.ne hp2
        refine ⟨N, p2, ys, _, rfl, rfl, (upd_ne Np2).trans e4, upd_same, ?_, ?_⟩
        · show ys.length + 3 ≤ sizeLine
          rw [sizeLine_eq]
          omega
        refine ⟨_, _, rfl, upd_same, ?_, ?_, ?_, ?_, ?_⟩
        · rw [List.length_append]
          show ys.length + 3 ≤ _
          omega
        · intro v hv
          rcases List.mem_append.mp hv with hv | hv
          · exact v4 v hv
          · simp only [List.mem_cons, List.not_mem_nil, or_false] at hv
            rw [e12] at hv
            rcases hv with rfl | rfl | rfl
            · refine vv_int ?_
              split <;> omega
            · exact vv_int hj
            · refine vv_int ?_
              split <;> omega
        · exact (D4.upd p2d p2c).upd Nd Nc
        · exact hid_mut (s4.trans (hid_same (same_new hp2 _))) hN0 Nd Nc
        · have pN2 : p ≠ N := pN.symm
          rw [upd_ne pN2, upd_ne pp2]
          exact ep4
    rintro σ H4 ⟨v0, ys, rfl, e4, l4, v4, D4, s4, ep4⟩
    have hT4 := hid_sub _ _ (s4 _ _ hT)
    have hW4 := hid_sub _ _ (s4 _ _ hW)
    have l11 : ys.length ≤ 11 := l4
    -- the last row
    have last : ∀ (v : Option V) (ys : List V) (H5 : Hp), H5 N = some (.lst ys) → ys.length ≤ 20 → (∀ v ∈ ys, Vv v) → MDeck H5 d c (n + 1) → Same (hid d c H) (hid d c H5) →
        (tRet (tOp rAddA (tOp rAddA (tLst (tCons (tC V.non) tNil)) (tVar 2)) (tVar 3))) { nx := fun _ H' => Q .non H', rt := Q } [some (.ref d), some (.ref T), some (.ref W), some (.ref N), v] H5 := by
      intro v ys H5 e5 l5 v5 D5 s5
      have hW5 := hid_sub _ _ (s5 _ _ hW)
      refine ⟨by show 1 ≤ sizeLine; decide, fun p5 hp5 => ?_⟩
      have Np : N ≠ p5 := ne_of_none e5 hp5
      have Wp : W ≠ p5 := ne_of_none hW5 hp5
      obtain ⟨p5d, p5c⟩ := D5.ne hp5
      refine ⟨_, rfl, .inr ⟨p5, W, [.non], zs.map V.str, rfl, rfl, upd_same, (upd_ne Wp).trans hW5, ?_, fun p6 hp6 => ?_⟩⟩
      · show 1 + (zs.map V.str).length ≤ sizeLine
        rw [List.length_map, sizeLine_eq]
        omega
      have D6 := D5.upd (o := .lst [.non]) p5d p5c
      obtain ⟨p6d, p6c⟩ := D6.ne hp6
      have e6 : upd H5 p5 (.lst [.non]) N = some (.lst ys) := (upd_ne Np).trans e5
      have Np6 : N ≠ p6 := ne_of_none e6 hp6
      refine ⟨_, rfl, .inr ⟨p6, N, [.non] ++ zs.map V.str, ys, rfl, rfl, upd_same, (upd_ne Np6).trans e6, ?_, fun p7 hp7 => ?_⟩⟩
      · rw [List.length_append, List.length_map, sizeLine_eq]
        show 1 + zs.length + ys.length ≤ _
        omega
      have D7 := D6.upd (o := .lst ([.non] ++ zs.map V.str)) p6d p6c
      obtain ⟨p7d, p7c⟩ := D7.ne hp7
      have s7 := (s5.trans (hid_same (same_new hp5 (.lst [.non])))).trans (hid_same (same_new hp6 (.lst ([.non] ++ zs.map V.str))))
      refine q p7 _ _ (hid_at p7d p7c) (dmM_of D7 s7 _ hp7) ?_ ?_ (D7.upd p7d p7c) (s7.trans (hid_same (same_new hp7 _)))
      · rw [List.length_append, List.length_append, List.length_map]
        show 1 + zs.length + ys.length ≤ _
        omega
      · intro u hu
        rcases List.mem_append.mp hu with hu | hu
        · rcases List.mem_append.mp hu with hu | hu
          · have : u = .non := by simpa using hu
            rw [this]
            exact .inl rfl
          · obtain ⟨z, _, rfl⟩ := List.mem_map.mp hu
            exact .inr (.inr ⟨z, rfl⟩)
        · exact v5 u hu
    refine ⟨_, rfl, .inr (.inl ⟨T, _, 1, _, rfl, rfl, SqT.of hT4, due1, _, _, rfl, rfl, _, rfl, ite2 (fun c => ?_) (fun c => ?_)⟩)⟩
    · rcases lo_cases F.ns with ⟨e0, _⟩ | ⟨l, u, e5, e6, m1, m2, _⟩
      · rw [e0] at c
        exact absurd c (by decide)
      have sl := fk.i l m1
      have su := fk.i u m2
      refine ⟨_, rfl, .inl ⟨rfl, _, SqL.of e4⟩, ?_⟩
      refine ⟨_, rfl, .inr (.inl ⟨T, _, 3, .int l, rfl, rfl, SqT.of hT4, by rw [← e5]; exact due3, ?_⟩)⟩
      refine ⟨_, rfl, .inr (.inl ⟨T, _, 4, .int u, rfl, rfl, SqT.of hT4, by rw [← e6]; exact due4, .inl (.inl ⟨_, _, rfl, rfl, ?_⟩)⟩)⟩
      refine ⟨_, _, rfl, rfl, ⟨by decide, by decide +kernel⟩, N, ys, _, rfl, rfl, e4, ?_, ?_⟩
      · rw [sizeLine_eq]; omega
      refine last _ _ _ upd_same ?_ ?_ (D4.upd Nd Nc) (hid_mut s4 hN0 Nd Nc)
      · rw [List.length_append]
        show ys.length + 1 ≤ _
        omega
      · intro v hv
        rcases List.mem_append.mp hv with hv | hv
        · exact v4 v hv
        · have : v = .int ((l + u) / 2) := by simpa using hv
          rw [this]
          refine vv_int ?_
          omega
    · exact last _ _ _ e4 (by omega) v4 D4 s4
end
end K11
end

/-! K11k -/
section
open PySem PySem.Spec PyProof.Rows L2 FA
namespace K11
section
variable {P : Program} {w : World} {K : PySem.W.Frag} {mg : Str → Option Value} {base : Heap} {f : Addr} {fd : FuncData} {C : Addr}
def spIsIn (K : PySem.W.Frag) : Sp := fun vs H Q _ => ∃ (T : Addr) (v : V) (F : Fc), vs = [.ref T, v] ∧ SqT K H T (dueV F) ∧ Vv v ∧ Q (.bl (inF F v)) H
theorem pos_n {n : Nat} (c : decide ((0 : Int) < (n : Nat)) = true) : n ≠ 0 := by
  have := of_decide_eq_true c
  omega
theorem pos_nn {n : Nat} (c : ¬ decide ((0 : Int) < (n : Nat)) = true) : n = 0 := by
  by_cases h : n = 0
  · exact h
  · exact absurd (decide_eq_true (by omega)) c
theorem pos_eq (n : Nat) : decide ((0 : Int) < (n : Nat)) = decide (n ≠ 0) := decide_eq_decide.mpr (by omega)
theorem sc__law_is_in : FnScope ["_law_due_here", "_law_probe"] ["_law_due_here", "_law_probe"] (defScope (top 16)) := ⟨rfl, rfl, rfl, by decide +kernel, rfl, by decide +kernel, by decide +kernel⟩
theorem ok__law_is_in (F : FnP K "_law_is_in" 16 f fd) (hS : ∃ o, base.get? sysModules = some o) (m_isinstance : mg "isinstance" = none) (m_str : mg "str" = none) :
    FnG P w K mg base CX0 1 f fd ["_law_due_here", "_law_probe"] (spIsIn K) := by
  refine okD F sc__law_is_in hS (fun vs H Q E h => ?_) (fun cdv A outer s H vs Q E R h => ?_)
  · obtain ⟨T, v, F, rfl, _⟩ := h
    rfl
  obtain ⟨T, v, F, rfl, hT, hv, q⟩ := h
  have nd := sc__law_is_in.nd
  refine ⟨_, (pss_cons (ps_if (pt_cmpR op_isN (pv 1) pe_non (nomark _)) (pss_one (ps_ret (pe_cmpR op_gt (pe_ix ixAny (pv 0) pe_int (fun _ _ => rfl)) pe_int (nomark _)))) pss_nil) (pss_cons (ps_if (pt_val (pe_callB call_isi rfl m_isinstance bt_isinstance (pa_cons (pv 1) (pa_cons (pe_bltn (v := .ty "str") (u := .type "str") rfl m_str bt_str rfl) pa_nil)))) (pss_one (ps_ret (pe_cmpR op_gt (pe_ix ixAny (pv 0) pe_int (fun _ _ => rfl)) pe_int (nomark _)))) pss_nil) (pss_one (ps_ret (pe_and (pe_cmpR op_gt (pe_ix ixAny (pv 0) pe_int (fun _ _ => rfl)) pe_int (nomark _)) (pe_one (pe_chain opLe opLe (pe_ix ixAny (pv 0) pe_int (fun _ _ => rfl)) (pv 1) (pe_ix ixAny (pv 0) pe_int (fun _ _ => rfl))))))))), ?r⟩
  case r =>
    obtain ⟨t, ht, hk, _⟩ := vv_ty (K := K) (H := H) hv
    refine ⟨_, rfl, rfl, _, rfl, ?_⟩
    rcases hv with rfl | ⟨i, rfl, hi⟩ | ⟨z, rfl⟩
    · refine iteT ⟨_, rfl, .inr (.inl ⟨T, _, 0, _, rfl, rfl, hT, due0, _, _, rfl, rfl, ?_⟩)⟩
      have e : inF F .non = decide ((0 : Int) < (F.a : Nat)) := (pos_eq F.a).symm
      rw [e] at q
      exact q
    · refine iteF ⟨_, rfl, _, _, _, _, _, rfl, .ty _, ht, hk, _, rfl, iteF ?_⟩
      refine ⟨_, rfl, .inr (.inl ⟨T, _, 1, _, rfl, rfl, hT, due1, _, _, rfl, rfl, _, rfl, ite2 (fun c => ?_) (fun c => ?_)⟩)⟩
      · rcases lo_cases F.ns with ⟨e0, _⟩ | ⟨l, u, e5, e6, m1, m2, b1, b2⟩
        · rw [e0] at c
          exact absurd c (by decide)
        refine ⟨_, rfl, .inr (.inl ⟨T, _, 3, .int l, rfl, rfl, hT, by rw [← e5]; exact due3, _, rfl, .inl ⟨_, _, rfl, rfl, _, rfl, ite2 (fun c1 => ?_) (fun c1 => ?_)⟩⟩)⟩
        · refine ⟨_, rfl, .inr (.inl ⟨T, _, 4, .int u, rfl, rfl, hT, by rw [← e6]; exact due4, .inl ⟨_, _, rfl, rfl, ?_⟩⟩)⟩
          have e : inF F (.int i) = decide (i ≤ u) := by
            show (decide (∃ l ∈ F.ns, l ≤ i) && decide (∃ u ∈ F.ns, i ≤ u)) = _
            rw [decide_eq_true ⟨l, m1, of_decide_eq_true c1⟩, Bool.true_and]
            exact decide_eq_decide.mpr ⟨fun ⟨y, hy, h⟩ => Int.le_trans h (b2 y hy), fun h => ⟨u, m2, h⟩⟩
          rw [e] at q
          exact q
        · have e : inF F (.int i) = false := by
            show (decide (∃ l ∈ F.ns, l ≤ i) && decide (∃ u ∈ F.ns, i ≤ u)) = _
            rw [decide_eq_false (fun ⟨y, hy, h⟩ => c1 (decide_eq_true (Int.le_trans (b1 y hy) h)))]
            rfl
          rw [e] at q
          exact q
      · have e : inF F (.int i) = false := by
          have : F.ns = [] := List.eq_nil_of_length_eq_zero (pos_nn c)
          simp [inF, this]
        rw [e] at q
        exact q
    · refine iteF ⟨_, rfl, _, _, _, _, _, rfl, .ty _, ht, hk, _, rfl, iteT ?_⟩
      refine ⟨_, rfl, .inr (.inl ⟨T, _, 2, _, rfl, rfl, hT, due2, _, _, rfl, rfl, ?_⟩)⟩
      have e : inF F (.str z) = decide ((0 : Int) < (F.w : Nat)) := (pos_eq F.w).symm
      rw [e] at q
      exact q
theorem str_abs {z : Str} {p : Prop} (c : ¬ decide (V.str z = V.str z) = true) : p := absurd (decide_eq_true rfl) c
theorem eq_str {z : Str} {H : Hp} {Q : VK} (q : Q (.bl true) H) : Q (.bl (decide (V.str z = V.str z))) H := by rw [decide_eq_true rfl]; exact q
def spAsked (C : Addr) : Sp := fun vs H Q _ => ∃ (d c x T W : Addr) (n : Nat) (F : Fc) (zs : List Str), vs = [.ref d, .ref x, .ref T, .ref W] ∧ MDeck H d c n ∧ n + 20 ≤ 1000000 ∧ Fx C (hid d c H) x F ∧ hid d c H T = some (.tup (dueV F)) ∧
  hid d c H W = some (.lst (zs.map V.str)) ∧ zs.length ≤ 30 ∧ Fok 900 F ∧ ∀ H', MDeck H' d c (n + 1) → Same (hid d c H) (hid d c H') → Q (.bl true) H'
theorem sc__law_asked_right : FnScope ["_law_deck_here", "_law_facts_here", "_law_due_here", "_law_words", "_law_probe", "_law_is_within"] ["_law_deck_here", "_law_facts_here", "_law_due_here", "_law_words"] (defScope (top 17)) := ⟨rfl, rfl, rfl, by decide +kernel, rfl, by decide +kernel, by decide +kernel⟩
theorem ok__law_asked_right (F : FnP K "_law_asked_right" 17 f fd) (hS : ∃ o, base.get? sysModules = some o) (T : Kf K C) (m_repr : mg "repr" = none)
    (o_has : OpC P w K mg base 2 C "__contains__" (spHas C))
    (c__law_probes : Cal P w K mg base 2 "_law_probes" ["_law_deck_here", "_law_due_here", "_law_words"] (spProbes K))
    (c__law_is_in : Cal P w K mg base 1 "_law_is_in" ["_law_due_here", "_law_probe"] (spIsIn K))
    (c__law_told : Cal P w K mg base 1 "_law_told" ["_law_facts_here"] (spTold C))
    (c__law_text : Cal P w K mg base 1 "_law_text" ["_law_due_here"] (spLawText K)) :
    FnG P w K mg base CX0 3 f fd ["_law_deck_here", "_law_facts_here", "_law_due_here", "_law_words"] (spAsked C) := by
  refine okD F sc__law_asked_right hS (fun vs H Q E h => ?_) (fun cdv A outer s H vs Q E R h => ?_)
  · obtain ⟨d, c, x, T, W, n, F, zs, rfl, _⟩ := h
    rfl
  obtain ⟨d, c, x, U, W, n, F, zs, rfl, D, hn, hx, hU, hW, hz, fk, q⟩ := h
  have nd := sc__law_asked_right.nd
  refine ⟨_, (pss_cons (ps_for PassesOwn.never rfl (pi_list (cc c__law_probes R (pa_cons (pv 0) (pa_cons (pv 2) (pa_cons (pv 3) pa_nil))))) (pg_name (i := 4) nd rfl (Or.inl rfl)) (pss_cons (ps_set (i := 5) nd rfl (Or.inl rfl) (cc c__law_is_in R (pa_cons (pv 2) (pa_cons (pv 4) pa_nil)))) (pss_one (ps_if (PW.pt (pw_or (pt_cmpR op_ne (pe_cmpR (oIn o_has R) (pv 4) (pv 1) (by rfl)) (pv 5) (nomark _)) (pw_or1 (pt_cmpR op_eq (pe_cmpR (oNotIn o_has R) (pv 4) (pv 1) (by rfl)) (pv 5) (nomark _))))) (pss_one (ps_ret pe_bl)) pss_nil)))) (pss_one (ps_ret (pe_and (pe_cmpR op_eq (cc c__law_told R (pa_cons (pv 1) pa_nil)) (crepr R m_repr (pa_cons (pv 2) pa_nil)) (nomark _)) (pe_one (pe_cmpR op_eq (pe_fld (pv 1) rfl) (cc c__law_text R (pa_cons (pv 2) pa_nil)) (nomark _))))))), ?r⟩
  case r =>
    have T0 := T.icl.cls
    refine ⟨_, rfl, _, rfl, _, rfl, d, c, U, W, n, F, zs, rfl, D, hn, hU, hW, hz, fk, fun L xs H1 eL hL lx vx D1 s1 => ?_⟩
    have x1 := hx.same s1
    have U1 := s1 _ _ hU
    refine ⟨L, rfl, ⟨_, SqL.of (hid_sub _ _ eL)⟩, for_list (K := K) (a := L) (xs := xs)
      (fun i σ H' => ∃ u v, σ = [some (.ref d), some (.ref x), some (.ref U), some (.ref W), u, v] ∧ Same (hid d c H1) (hid d c H') ∧ MDeck H' d c (n + 1))
      ⟨none, none, rfl, Same.refl _, D1⟩ (fun i σ H' _ ⟨_, _, _, z, _⟩ => SqL.of (hid_sub _ _ (z _ _ eL))) ?_ ?_⟩
    · rintro i v σ H2 hi ⟨u0, v0, rfl, s2, D2⟩
      have vv := vx v (List.mem_of_getElem? hi)
      have x2 : Fx C H2 x F := (x1.same s2).same hid_sub
      have U2 := hid_sub _ _ (s2 _ _ U1)
      obtain ⟨dx, ex⟩ := id x2
      refine ⟨_, rfl, _, rfl, U, v, F, rfl, SqT.of U2, vv, ?_⟩
      refine ⟨_, rfl, _, rfl, x, dx, _, rfl, ex, x, v, F, rfl, x2, vv, _, rfl, _, rfl, rfl, _, rfl, ite2 (fun c1 => ?_) (fun _ => ?_)⟩
      · rw [if_neg (by decide)] at c1
        simp at c1
      refine ⟨_, rfl, _, rfl, x, dx, _, rfl, ex, x, v, F, rfl, x2, vv, _, rfl, _, rfl, rfl, _, rfl, ite2 (fun c1 => ?_) (fun _ => ?_)⟩
      · rw [if_pos (by decide)] at c1
        simp at c1
      exact ⟨_, _, rfl, s2, D2⟩
    · rintro σ H2 ⟨u0, v0, rfl, s2, D2⟩
      have x2 : Fx C H2 x F := (x1.same s2).same hid_sub
      have U2 := hid_sub _ _ (s2 _ _ U1)
      have rp := rp_told fk
      refine ⟨_, rfl, x, F, rfl, x2, fk, fun H3 s3 => ?_⟩
      have U3 := s3 _ _ U2
      refine ⟨_, rfl, _, toldD F, rfl, dat_due U3, rp.sh, rp.dp, rp.ln, rfl, true, congrArg V.bl (decide_eq_true rfl), iteT ?_⟩
      obtain ⟨dx, ex⟩ := x2.same s3
      refine ⟨_, rfl, x, C, dx, _, _, rfl, ex, T0, T.no _ (by decide), rfl, _, rfl, U, F, rfl, SqT.of U3, fk, rfl, ?_⟩
      have q1 := q H3 (D2.same s3) ((s1.trans s2).trans (hid_same s3))
      exact eq_str q1
end
end K11
end

/-! K11l -/
section
open PySem PySem.Spec PyProof.Rows L2 FA
namespace K11
section
variable {P : Program} {w : World} {K : PySem.W.Frag} {mg : Str → Option Value} {base : Heap} {f : Addr} {fd : FuncData} {C : Addr}
inductive P2 {α β : Type} (R : α → β → Prop) : List α → List β → Prop
  | nil : P2 R [] []
  | cons {a : α} {b : β} {as : List α} {bs : List β} (h : R a b) (t : P2 R as bs) : P2 R (a :: as) (b :: bs)
theorem P2.imp {α β : Type} {R S : α → β → Prop} (f : ∀ a b, R a b → S a b) : ∀ {as : List α} {bs : List β}, P2 R as bs → P2 S as bs
  | _, _, .nil => .nil
  | _, _, .cons h t => .cons (f _ _ h) (P2.imp f t)
theorem P2.snoc {α β : Type} {R : α → β → Prop} {a : α} {b : β} : ∀ {as : List α} {bs : List β}, P2 R as bs → R a b → P2 R (as ++ [a]) (bs ++ [b])
  | _, _, .nil, h => .cons h .nil
  | _, _, .cons h t, q => .cons h (P2.snoc t q)
theorem P2.get {α β : Type} {R : α → β → Prop} : ∀ {as : List α} {bs : List β} {i : Nat} {a : α}, P2 R as bs → as[i]? = some a → ∃ b, bs[i]? = some b ∧ R a b
  | _, _, 0, _, .cons h _, e => by
    have := Option.some.inj e
    subst this
    exact ⟨_, rfl, h⟩
  | _, _, i + 1, _, .cons _ t, e => P2.get (i := i) t e
theorem P2.len {α β : Type} {R : α → β → Prop} : ∀ {as : List α} {bs : List β}, P2 R as bs → as.length = bs.length
  | _, _, .nil => rfl
  | _, _, .cons _ t => congrArg Nat.succ (P2.len t)
theorem fx_in {C x d c : Addr} {H : Hp} {F : Fc} (h : Fx C H x F) (h1 : x ≠ d) (h2 : x ≠ c) : Fx C (hid d c H) x F := by
  obtain ⟨dx, e⟩ := h
  exact ⟨dx, by rw [hid_ne h1 h2]; exact e⟩
theorem add_ans {C x y d c : Addr} {H : Hp} {n : Nat} {F G : Fc} {R : VK} (D : MDeck H d c n) (hx : Fx C (hid d c H) x F) (hy : Fx C (hid d c H) y G) (fF : Fok 500 F) (fG : Fok 500 G)
    (q : ∀ z H', MDeck H' d c n → Same (hid d c H) (hid d c H') → Fx C (hid d c H') z (F.add G) → R (.ref z) H') : rAddO C (spAdd C) (.ref x) (.ref y) H R := by
  have hx0 := hx.same hid_sub
  have hy0 := hy.same hid_sub
  obtain ⟨dx, ex⟩ := id hx0
  obtain ⟨dy, ey⟩ := id hy0
  refine ⟨x, y, dx, dy, _, _, rfl, rfl, ex, ey, x, y, F, G, rfl, hx0, hy0, fF, fG, fun z H' s hz fz => ?_⟩
  obtain ⟨h1, h2⟩ := D.ne hz
  exact q z H' (D.same s) (hid_same s) (fx_in fz h1 h2)
theorem eq_ans {C x y d c : Addr} {H : Hp} {F G : Fc} {R : VK} (hx : Fx C (hid d c H) x F) (hy : Fx C (hid d c H) y G) (e : eqF F G = true) (q : R (.bl true) H) : rAddO C (spEq C) (.ref x) (.ref y) H R := by
  have hx0 := hx.same hid_sub
  have hy0 := hy.same hid_sub
  obtain ⟨dx, ex⟩ := id hx0
  obtain ⟨dy, ey⟩ := id hy0
  exact ⟨x, y, dx, dy, _, _, rfl, rfl, ex, ey, x, y, F, G, rfl, hx0, hy0, by rw [e]; exact q⟩
theorem eqF_of {F G : Fc} (ha : F.a = G.a) (hw : F.w = G.w) (hl : F.ns.length = G.ns.length) (hm : ∀ y, y ∈ F.ns ↔ y ∈ G.ns) : eqF F G = true := by
  unfold eqF
  rw [ha, hw, hl, lo_ext hm, hi_ext hm]
  simp
theorem eqF_comm (F G : Fc) : eqF (G.add F) (F.add G) = true := by
  refine eqF_of (Nat.add_comm _ _) (Nat.add_comm _ _) ?_ fun y => ?_
  · show (G.ns ++ F.ns).length = (F.ns ++ G.ns).length
    rw [List.length_append, List.length_append, Nat.add_comm]
  · show y ∈ G.ns ++ F.ns ↔ y ∈ F.ns ++ G.ns
    rw [List.mem_append, List.mem_append, Or.comm]
theorem Fc.add_assoc (F G J : Fc) : (F.add G).add J = F.add (G.add J) := by
  simp only [Fc.add, List.append_assoc, Nat.add_assoc]
theorem Fc.add_nil (F : Fc) : F.add (fcOf []) = F := by
  cases F
  simp [Fc.add, fcOf, nonsOf, intsOf, strsOf]
theorem Fc.nil_add (F : Fc) : (fcOf []).add F = F := by
  cases F
  simp [Fc.add, fcOf, nonsOf, intsOf, strsOf]
theorem eqF_refl (F : Fc) : eqF F F = true := eqF_of rfl rfl rfl fun _ => Iff.rfl
theorem txt_comm (F G : Fc) : (G.add F).txt = (F.add G).txt := by
  unfold Fc.txt
  have hm : ∀ y, y ∈ (G.add F).ns ↔ y ∈ (F.add G).ns := fun y => by
    show y ∈ G.ns ++ F.ns ↔ y ∈ F.ns ++ G.ns
    rw [List.mem_append, List.mem_append, Or.comm]
  have hl : (G.add F).ns.length = (F.add G).ns.length := by
    show (G.ns ++ F.ns).length = (F.ns ++ G.ns).length
    rw [List.length_append, List.length_append, Nat.add_comm]
  have ha : (G.add F).a = (F.add G).a := Nat.add_comm _ _
  have hw : (G.add F).w = (F.add G).w := Nat.add_comm _ _
  rw [lo_ext hm, hi_ext hm, hl, ha, hw]
theorem Fok.mono {N M : Nat} {F : Fc} (h : Fok N F) (le : N ≤ M) : Fok M F := ⟨Nat.le_trans h.a le, Nat.le_trans h.n le, Nat.le_trans h.w le, h.i⟩
def told (F : Fc) : Str := (toldD F).shown
/-- three lots of values, in a list -/
structure Lots (H : Hp) (d c l : Addr) (as : List Addr) (xs : List (List V)) : Prop where
  at_ : hid d c H l = some (.lst (as.map V.ref))
  each : P2 (fun a x => hid d c H a = some (.lst x)) as xs
  len : as.length = 3
  ok : ∀ x ∈ xs, x.length ≤ 7 ∧ ∀ v ∈ x, Vv v
theorem Lots.same {H H' : Hp} {d c l : Addr} {as : List Addr} {xs : List (List V)} (L : Lots H d c l as xs) (s : Same (hid d c H) (hid d c H')) : Lots H' d c l as xs :=
  ⟨s _ _ L.at_, L.each.imp fun _ _ h => s _ _ h, L.len, L.ok⟩
theorem len3' {α : Type} {xs : List α} (h : xs.length = 3) : ∃ a b c, xs = [a, b, c] := by
  match xs, h with
  | [a, b, c], _ => exact ⟨a, b, c, rfl⟩
def spSums (C : Addr) : Sp := fun vs H Q _ => ∃ (d c l W : Addr) (n : Nat) (as : List Addr) (xs : List (List V)) (zs : List Str), vs = [.ref d, .ref l, .ref W] ∧ MDeck H d c n ∧ n + 40 ≤ 1000000 ∧ Lots H d c l as xs ∧
  hid d c H W = some (.lst (zs.map V.str)) ∧ zs.length ≤ 30 ∧ ∀ H', MDeck H' d c (n + 2) → Same (hid d c H) (hid d c H') → Q (.bl true) H'
theorem sc__law_sums_right : FnScope ["_law_deck_here", "_law_lots", "_law_words", "_law_one", "_law_other", "_law_third", "_law_before", "_law_both", "_law_due_here", "_law_whole", "_law_some", "_law_facts_here"] ["_law_deck_here", "_law_lots", "_law_words"] (defScope (top 18)) := ⟨rfl, rfl, rfl, by decide +kernel, rfl, by decide +kernel, by decide +kernel⟩
theorem ok__law_sums_right (F : FnP K "_law_sums_right" 18 f fd) (hS : ∃ o, base.get? sysModules = some o) (T : Kf K C)
    (k_Facts : MkG P w K mg base 2 "Facts" C (spMk C)) (o_add : OpC P w K mg base 4 C "__add__" (spAdd C)) (o_eq : OpC P w K mg base 1 C "__eq__" (spEq C))
    (c__law_facts : Cal P w K mg base 7 "_law_facts" ["_law_some"] (spFacts K C 2))
    (c__law_due : Cal P w K mg base 1 "_law_due" ["_law_some"] (spDue K))
    (c__law_told : Cal P w K mg base 1 "_law_told" ["_law_facts_here"] (spTold C))
    (c__law_asked_right : Cal P w K mg base 3 "_law_asked_right" ["_law_deck_here", "_law_facts_here", "_law_due_here", "_law_words"] (spAsked C)) :
    FnG P w K mg base CX0 8 f fd ["_law_deck_here", "_law_lots", "_law_words"] (spSums C) := by
  refine okD F sc__law_sums_right hS (fun vs H Q E h => ?_) (fun cdv A outer s H vs Q E R h => ?_)
  · obtain ⟨d, c, l, W, n, as, xs, zs, rfl, _⟩ := h
    rfl
  obtain ⟨d, c, l, W, n, as, xs, zs, rfl, D, hn, L, hW, hz, q⟩ := h
  have nd := sc__law_sums_right.nd
  refine ⟨_, (pss_cons (ps_asg (pe_lc1 10 rfl nd (pi_list (pv 1)) (by kernel_rfl) (fun _ _ _ _ _ => pg_name (i := 10) nd rfl (Or.inl rfl)) (fun _ _ _ _ _ => pts_nil) (fun _ _ _ _ _ => (cc c__law_facts (R.blk _ _ _ _ _) (pa_cons (pv 10) pa_nil)))) (pg_lst rfl (pgs_cons (pg_name (i := 3) nd rfl (Or.inl rfl)) (pgs_cons (pg_name (i := 4) nd rfl (Or.inl rfl)) (pgs_cons (pg_name (i := 5) nd rfl (Or.inl rfl)) pgs_nil))))) (pss_cons (ps_setLc1 6 11 rfl nd rfl rfl (by rfl) (pi_tup (pe_tup (pa_cons (pv 3) (pa_cons (pv 4) (pa_cons (pv 5) pa_nil))))) (by kernel_rfl) (fun _ _ _ _ _ => pg_name (i := 11) nd rfl (Or.inl rfl)) (fun _ _ _ _ _ => pts_nil) (fun _ _ _ _ _ => (cc c__law_told (R.blk _ _ _ _ _) (pa_cons (pv 11) pa_nil)))) (pss_cons (ps_par (i := 7) (j := 8) rfl nd rfl rfl (by decide) rfl rfl (pa_cons (pe_op (oAdd o_add R) (pv 3) (pv 4)) (pa_cons (cc c__law_due R (pa_cons (pe_op opAdd (pe_ix ixAny (pv 1) pe_int (fun _ _ => rfl)) (pe_ix ixAny (pv 1) pe_int (fun _ _ => rfl))) pa_nil)) pa_nil)) rfl) (pss_cons (ps_if (PW.pt (pw_or (pt_not (pt_val (cc c__law_asked_right R (pa_cons (pv 0) (pa_cons (pv 7) (pa_cons (pv 8) (pa_cons (pv 2) pa_nil))))))) (pw_or1 (pt_not (pt_cmpR (oEq o_eq R) (pe_op (oAdd o_add R) (pv 4) (pv 3)) (pv 7) (by rfl)))))) (pss_one (ps_ret pe_bl)) pss_nil) (pss_cons (ps_set (i := 9) nd rfl (Or.inl rfl) (pe_op (oAdd o_add R) (pv 3) (pe_op (oAdd o_add R) (pv 4) (pv 5)))) (pss_cons (ps_set (i := 8) nd rfl (Or.inl rfl) (cc c__law_due R (pa_cons (pe_op opAdd (pe_op opAdd (pe_ix ixAny (pv 1) pe_int (fun _ _ => rfl)) (pe_ix ixAny (pv 1) pe_int (fun _ _ => rfl))) (pe_ix ixAny (pv 1) pe_int (fun _ _ => rfl))) pa_nil))) (pss_cons (ps_if (PW.pt (pw_or (pt_not (pt_val (cc c__law_asked_right R (pa_cons (pv 0) (pa_cons (pv 9) (pa_cons (pv 8) (pa_cons (pv 2) pa_nil))))))) (pw_or1 (pt_not (pt_cmpR (oEq o_eq R) (pe_op (oAdd o_add R) (pv 7) (pv 5)) (pv 9) (by rfl)))))) (pss_one (ps_ret pe_bl)) pss_nil) (pss_cons (ps_if (PW.pt (pw_or (pt_not (pt_cmpR (oEq o_eq R) (pe_op (oAdd o_add R) (pv 3) (cm0 k_Facts R)) (pv 3) (by rfl))) (pw_or1 (pt_not (pt_cmpR (oEq o_eq R) (pe_op (oAdd o_add R) (cm0 k_Facts R) (pv 3)) (pv 3) (by rfl)))))) (pss_one (ps_ret pe_bl)) pss_nil) (pss_cons (ps_if (pt_cmpR op_ne (pe_fld (pe_op (oAdd o_add R) (pv 9) (pv 3)) rfl) (pe_fld (pe_op (oAdd o_add R) (pv 3) (pv 9)) rfl) (nomark _)) (pss_one (ps_ret pe_bl)) pss_nil) (pss_one (ps_ret (pe_cmpR (op_eqL R.room) (pv 6) (pe_lc1 11 rfl nd (pi_tup (pe_tup (pa_cons (pv 3) (pa_cons (pv 4) (pa_cons (pv 5) pa_nil))))) (by kernel_rfl) (fun _ _ _ _ _ => pg_name (i := 11) nd rfl (Or.inl rfl)) (fun _ _ _ _ _ => pts_nil) (fun _ _ _ _ _ => (cc c__law_told (R.blk _ _ _ _ _) (pa_cons (pv 11) pa_nil)))) (by rfl))))))))))))), ?r⟩
  case r =>
    have hl0 := hid_sub _ _ L.at_
    -- the facts of each lot
    refine ⟨_, rfl, l, rfl, ⟨_, SqL.of hl0⟩, fun D1 hD1 => ?_⟩
    obtain ⟨D1d, D1c⟩ := D.ne hD1
    refine lc_list (K := K) (a := l) (xs := as.map V.ref) (fun i H' => ∃ fs : List Addr, H' D1 = some (.lst (fs.map V.ref)) ∧ fs.length = i ∧ P2 (fun a x => Fx C (hid d c H') a (fcOf x)) fs (xs.take i) ∧ Same H H')
      ⟨[], upd_same, rfl, by rw [List.take_zero]; exact .nil, same_new hD1 _⟩ (fun i H' _ ⟨_, _, _, _, s⟩ => SqL.of (s _ _ hl0)) ?_ ?_
    · rintro i v H1 hi ⟨fs, e1, l1, p1, s1⟩
      rw [List.getElem?_map] at hi
      cases ea : as[i]? with
      | none => rw [ea] at hi; cases hi
      | some a =>
        rw [ea] at hi
        obtain rfl : V.ref a = v := Option.some.inj hi
        obtain ⟨x, ex, hx⟩ := L.each.get ea
        obtain ⟨xl, xv⟩ := L.ok x (List.mem_of_getElem? ex)
        have i3 : i < 3 := by
          have := (List.getElem?_eq_some_iff.mp ea).1
          rw [L.len] at this
          exact this
        refine ⟨rfl, _, rfl, a, x, rfl, SqL.of (s1 _ _ (hid_sub _ _ hx)), by omega, by omega, xv, fun y H2 hy s2 fy => ?_⟩
        have D2 := D.same (s1.trans s2)
        obtain ⟨yd, yc⟩ := (D.same s1).ne hy
        refine ⟨_, s2 _ _ e1, ?_, fs ++ [y], ?_, ?_, ?_, same_mut (s1.trans s2) hD1⟩
        · rw [List.length_map, l1, sizeLine_eq]
          omega
        · rw [upd_same, List.map_append]
          rfl
        · rw [List.length_append, l1]
          rfl
        · have ts : xs.take (i + 1) = xs.take i ++ [x] := by
            rw [List.take_succ, ex]
            rfl
          rw [ts]
          have new : ∀ {H3 : Hp} {u : HO}, H2 = H3 → Same (hid d c H1) (hid d c (upd H2 D1 u)) → True := fun _ _ => trivial
          refine P2.snoc (p1.imp fun a x hx => ?_) ?_
          · obtain ⟨dx, e⟩ := hx
            have e' := hid_same s2 _ _ e
            refine ⟨dx, ?_⟩
            obtain ⟨h1, h2, h3⟩ := hid_some e'
            rw [hid_ne h1 h2, upd_ne (ne_of h3 (s2 _ _ e1) (by intro z; cases z))]
            exact h3
          · obtain ⟨dy, e⟩ := fy
            refine ⟨dy, ?_⟩
            rw [hid_ne yd yc, upd_ne (ne_of e (s2 _ _ e1) (by intro z; cases z))]
            exact e
    rintro H1 ⟨fs, e1, l1, p1, s1⟩
    have l3 : fs.length = 3 := by rw [l1, List.length_map, L.len]
    obtain ⟨a0, a1, a2, rfl⟩ := len3' L.len
    obtain ⟨f0, f1, f2, rfl⟩ := len3' l3
    have eaL := L.each
    obtain ⟨x0, x1, x2, rfl⟩ := len3' (L.each.len.symm.trans L.len)
    simp only [List.map_cons, List.map_nil, List.length_cons, List.length_nil, List.take_succ_cons, List.take_zero] at p1
    cases p1 with
    | cons g0 p1 =>
    cases p1 with
    | cons g1 p1 =>
    cases p1 with
    | cons g2 _ =>
    have v0 := L.ok x0 (by simp)
    have v1 := L.ok x1 (by simp)
    have v2 := L.ok x2 (by simp)
    refine ⟨D1, _, rfl, SqL.of e1, rfl, _, _, rfl, _, _, rfl, _, _, rfl, rfl, ?_⟩
    have D2 := D.same s1
    have k1 : Same (hid d c H) (hid d c H1) := hid_same s1
    have c0 : Fok 7 (fcOf x0) := fok_of v0.2 v0.1
    have c1 : Fok 7 (fcOf x1) := fok_of v1.2 v1.1
    have c2 : Fok 7 (fcOf x2) := fok_of v2.2 v2.1
    have hl3 : ∀ {x : List V}, x.length ≤ 7 → x.length ≤ 100 := fun h => Nat.le_trans h (by decide)
    have hv01 : ∀ v ∈ x0 ++ x1, Vv v := fun v h => (List.mem_append.mp h).elim (v0.2 v) (v1.2 v)
    have hv012 : ∀ v ∈ x0 ++ x1 ++ x2, Vv v := fun v h => (List.mem_append.mp h).elim (hv01 v) (v2.2 v)
    have hl01 : (x0 ++ x1).length ≤ 14 := by rw [List.length_append]; have := v0.1; have := v1.1; omega
    have hl012 : (x0 ++ x1 ++ x2).length ≤ 21 := by rw [List.length_append]; have := v2.1; omega
    generalize hF0 : fcOf x0 = F0 at g0 c0
    generalize hF1 : fcOf x1 = F1 at g1 c1
    generalize hF2 : fcOf x2 = F2 at g2 c2
    have pG : ∀ {H2 : Hp}, Same (hid d c H1) (hid d c H2) → P2 (fun a F => Fx C (hid d c H2) a F ∧ Fok 7 F) [f0, f1, f2] [F0, F1, F2] := fun s => .cons ⟨g0.same s, c0⟩ (.cons ⟨g1.same s, c1⟩ (.cons ⟨g2.same s, c2⟩ .nil))
    clear e1
    -- what is told of them
    refine ⟨_, rfl, _, rfl, _, rfl, by show 3 ≤ sizeLine; decide, fun p hp => ⟨p, rfl, ⟨_, SqT.of upd_same⟩, fun D3 hD3 => ?_⟩⟩
    obtain ⟨pd, pc⟩ := D2.ne hp
    have Dp := D2.upd (o := .tup [.ref f0, .ref f1, .ref f2]) pd pc
    have kp : Same (hid d c H1) (hid d c (upd H1 p (.tup [.ref f0, .ref f1, .ref f2]))) := hid_same (same_new hp _)
    have ep : upd H1 p (.tup [.ref f0, .ref f1, .ref f2]) p = some (.tup [.ref f0, .ref f1, .ref f2]) := upd_same
    generalize upd H1 p (.tup [.ref f0, .ref f1, .ref f2]) = H2 at hD3 Dp kp ep
    obtain ⟨D3d, D3c⟩ := Dp.ne hD3
    refine lc_tup (K := K) (a := p) (xs := [.ref f0, .ref f1, .ref f2]) (fun i H' => Same H2 H' ∧ H' D3 = some (.lst ((([F0, F1, F2].take i).map told).map V.str))) ⟨same_new hD3 _, upd_same⟩ (fun i H' _ ⟨z, _⟩ => SqT.of (z _ _ ep)) ?_ ?_
    · rintro i v H3 hi ⟨s3, e3⟩
      have hi' : ([f0, f1, f2].map V.ref)[i]? = some v := hi
      rw [List.getElem?_map] at hi'
      cases ea : [f0, f1, f2][i]? with
      | none => rw [ea] at hi'; cases hi'
      | some a =>
        rw [ea] at hi'
        obtain rfl : V.ref a = v := Option.some.inj hi'
        obtain ⟨F, eF, fx, fk⟩ := (pG (kp.trans (hid_same s3))).get ea
        have i3 : i < 3 := (List.getElem?_eq_some_iff.mp ea).1
        refine ⟨rfl, _, rfl, a, F, rfl, fx.same hid_sub, fk.mono (by decide), fun H4 s4 => ?_⟩
        refine ⟨_, s4 _ _ e3, ?_, same_mut (s3.trans s4) hD3, ?_⟩
        · have : ([F0, F1, F2].take i).length ≤ 3 := List.length_take_le' _ _
          rw [List.length_map, List.length_map, sizeLine_eq]
          omega
        · have ts : [F0, F1, F2].take (i + 1) = [F0, F1, F2].take i ++ [F] := by
            rw [List.take_succ, eF]
            rfl
          rw [upd_same, ts, List.map_append, List.map_append]
          rfl
    rintro H3 ⟨s3, e3⟩
    have e3 : H3 D3 = some (.lst (([F0, F1, F2].map told).map V.str)) := e3
    have k13 := kp.trans (hid_same s3)
    have g0 := g0.same k13
    have g1 := g1.same k13
    have g2 := g2.same k13
    have k3 := k1.trans k13
    have Dd := Dp.same s3
    have bL : hid d c H3 D3 = some (.lst (([F0, F1, F2].map told).map V.str)) := by rw [hid_ne D3d D3c]; exact e3
    have L3 := L.same k3
    have W3 := k3 _ _ hW
    have sum : ∀ {H : Hp}, Same (hid d c H3) (hid d c H) → Lots H d c l [a0, a1, a2] [x0, x1, x2] := fun s => L3.same s
    have lotsAt : ∀ {H : Hp}, Same (hid d c H3) (hid d c H) → H l = some (.lst [.ref a0, .ref a1, .ref a2]) ∧ H a0 = some (.lst x0) ∧ H a1 = some (.lst x1) ∧ H a2 = some (.lst x2) := fun s => by
      have LL := L3.same s
      cases LL.each with
      | cons h0 t =>
        cases t with
        | cons h1 t =>
          cases t with
          | cons h2 _ => exact ⟨hid_sub _ _ LL.at_, hid_sub _ _ h0, hid_sub _ _ h1, hid_sub _ _ h2⟩
    clear e3 s3 hp hD3
    -- both
    refine ⟨_, rfl, _, rfl, add_ans Dd g0 g1 (c0.mono (by decide)) (c1.mono (by decide)) fun b H4 D4 s4 gb => ?_⟩
    obtain ⟨l4, h0, h1, h2⟩ := lotsAt s4
    refine ⟨_, rfl, .inl ⟨l, _, 0, .ref a0, rfl, rfl, SqL.of l4, rfl, _, rfl, .inl ⟨l, _, 1, .ref a1, rfl, rfl, SqL.of l4, rfl, .inr ⟨a0, a1, x0, x1, rfl, rfl, h0, h1, ?_, fun p hp => ?_⟩⟩⟩⟩
    · rw [← List.length_append, sizeLine_eq]; omega
    have s5 : Same (hid d c H3) (hid d c (upd H4 p (.lst (x0 ++ x1)))) := s4.trans (hid_same (same_new hp _))
    obtain ⟨pd, pc⟩ := D4.ne hp
    have D5 := D4.upd (o := .lst (x0 ++ x1)) pd pc
    refine ⟨p, x0 ++ x1, rfl, SqL.of upd_same, by omega, hv01, fun U H6 hU s6 eU => ⟨_, _, rfl, ?_⟩⟩
    rw [fcOf_app, hF0, hF1] at eU
    obtain ⟨Ud, Uc⟩ := D5.ne hU
    have s36 := s5.trans (hid_same s6)
    have D6 := D5.same s6
    have gb6 := gb.same ((hid_same (same_new hp (.lst (x0 ++ x1)))).trans (hid_same s6))
    have fb : Fok 14 (F0.add F1) := c0.add c1
    have eU' : hid d c H6 U = some (.tup (dueV (F0.add F1))) := by rw [hid_ne Ud Uc]; exact eU
    refine ⟨_, rfl, _, rfl, _, rfl, _, rfl, d, c, b, U, W, n, F0.add F1, zs, rfl, D6, by omega, gb6, eU', s36 _ _ W3, hz, fb.mono (by decide), fun H7 D7 s7 => ⟨_, rfl, iteF ?_⟩⟩
    have s37 := s36.trans s7
    have gb7 := gb6.same s7
    refine ⟨_, rfl, _, rfl, add_ans D7 (g1.same s37) (g0.same s37) (c1.mono (by decide)) (c0.mono (by decide)) fun b2 H8 D8 s8 gb8 => ?_⟩
    refine ⟨_, rfl, eq_ans gb8 (gb7.same s8) (eqF_comm _ _) ⟨_, rfl, iteF ?_⟩⟩
    have s38 := s37.trans s8
    have gb8 := gb7.same s8
    clear s36 s5 eU eU' gb6 gb7 D6 D5 D7
    -- the whole
    refine ⟨_, rfl, _, rfl, _, rfl, add_ans D8 (g1.same s38) (g2.same s38) (c1.mono (by decide)) (c2.mono (by decide)) fun y H9 D9 s9 gy => ?_⟩
    have s39 := s38.trans s9
    refine add_ans D9 (g0.same s39) gy (c0.mono (by decide)) ((c1.add c2).mono (by decide)) fun wh HA DA sA gw => ?_
    have s3A := s39.trans sA
    have gbA := (gb8.same s9).same sA
    obtain ⟨lA, h0, h1, h2⟩ := lotsAt s3A
    refine ⟨_, rfl, .inl ⟨l, _, 0, .ref a0, rfl, rfl, SqL.of lA, rfl, _, rfl, .inl ⟨l, _, 1, .ref a1, rfl, rfl, SqL.of lA, rfl, .inr ⟨a0, a1, x0, x1, rfl, rfl, h0, h1, ?_, fun p hp => ?_⟩⟩⟩⟩
    · rw [← List.length_append, sizeLine_eq]; omega
    have lp : l ≠ p := ne_of_none lA hp
    have a2p : a2 ≠ p := ne_of_none h2 hp
    refine ⟨_, rfl, .inl ⟨l, _, 2, .ref a2, rfl, rfl, SqL.of ((upd_ne lp).trans lA), rfl, .inr ⟨p, a2, x0 ++ x1, x2, rfl, rfl, upd_same, (upd_ne a2p).trans h2, ?_, fun p2 hp2 => ?_⟩⟩⟩
    · rw [← List.length_append, sizeLine_eq]; omega
    obtain ⟨pd, pc⟩ := DA.ne hp
    have DB := DA.upd (o := .lst (x0 ++ x1)) pd pc
    obtain ⟨p2d, p2c⟩ := DB.ne hp2
    have DC := DB.upd (o := .lst (x0 ++ x1 ++ x2)) p2d p2c
    have sC : Same (hid d c HA) (hid d c (upd (upd HA p (.lst (x0 ++ x1))) p2 (.lst (x0 ++ x1 ++ x2)))) := (hid_same (same_new hp _)).trans (hid_same (same_new hp2 _))
    refine ⟨p2, x0 ++ x1 ++ x2, rfl, SqL.of upd_same, by omega, hv012, fun U2 HD hU2 sD eU2 => ?_⟩
    rw [fcOf_app, fcOf_app, hF0, hF1, hF2, Fc.add_assoc] at eU2
    obtain ⟨U2d, U2c⟩ := DC.ne hU2
    have sAD := sC.trans (hid_same sD)
    have s3D := s3A.trans sAD
    have DD := DC.same sD
    have gwD := gw.same sAD
    have gbD := gbA.same sAD
    have fw : Fok 21 (F0.add (F1.add F2)) := (c0.add (c1.add c2)).mono (by decide)
    have eU2' : hid d c HD U2 = some (.tup (dueV (F0.add (F1.add F2)))) := by rw [hid_ne U2d U2c]; exact eU2
    refine ⟨_, rfl, _, rfl, _, rfl, _, rfl, d, c, wh, U2, W, n + 1, F0.add (F1.add F2), zs, rfl, DD, by omega, gwD, eU2', s3D _ _ W3, hz, fw.mono (by decide), fun HE DE sE => ⟨_, rfl, iteF ?_⟩⟩
    have s3E := s3D.trans sE
    have gwE := gwD.same sE
    have gbE := gbD.same sE
    refine ⟨_, rfl, _, rfl, add_ans DE gbE (g2.same s3E) (fb.mono (by decide)) (c2.mono (by decide)) fun y3 HF DF sF gF => ?_⟩
    refine ⟨_, rfl, eq_ans gF (gwE.same sF) (by rw [Fc.add_assoc]; exact eqF_refl _) ⟨_, rfl, iteF ?_⟩⟩
    have s3F := s3E.trans sF
    have gwF := gwE.same sF
    clear eU2 eU2' DD DC DB DA s3E s3D s3A
    -- nothing added
    refine ⟨_, rfl, fun z dz hz1 hdz ne => mk_ans hz1 hdz ne (Nat.zero_le _) (fun _ h => nomatch h) fun HG sG eG => ⟨rfl, ?_⟩⟩
    obtain ⟨zd, zc⟩ := DF.ne hz1
    have DG := DF.same sG
    have s3G := s3F.trans (hid_same sG)
    have gz : Fx C (hid d c HG) z (fcOf []) := fx_in ⟨dz, eG⟩ zd zc
    have fk0 : Fok 0 (fcOf []) := fok_of (fun _ h => nomatch h) (Nat.le_refl _)
    refine add_ans DG (g0.same s3G) gz (c0.mono (by decide)) (fk0.mono (by decide)) fun y4 HI DI sI gI => ?_
    rw [Fc.add_nil] at gI
    have s3I := s3G.trans sI
    refine ⟨_, rfl, eq_ans gI (g0.same s3I) (eqF_refl _) ⟨_, rfl, iteF ?_⟩⟩
    refine fun z2 dz2 hz2 hdz2 ne2 => mk_ans hz2 hdz2 ne2 (Nat.zero_le _) (fun _ h => nomatch h) fun HJ sJ eJ => ⟨rfl, _, rfl, ?_⟩
    obtain ⟨z2d, z2c⟩ := DI.ne hz2
    have DJ := DI.same sJ
    have s3J := s3I.trans (hid_same sJ)
    have gz2 : Fx C (hid d c HJ) z2 (fcOf []) := fx_in ⟨dz2, eJ⟩ z2d z2c
    refine add_ans DJ gz2 (g0.same s3J) (fk0.mono (by decide)) (c0.mono (by decide)) fun y5 HK DK sK gK => ?_
    rw [Fc.nil_add] at gK
    have s3K := s3J.trans sK
    refine ⟨_, rfl, eq_ans gK (g0.same s3K) (eqF_refl _) ⟨_, rfl, iteF ?_⟩⟩
    have gwK := (((gwF.same (hid_same sG)).same sI).same (hid_same sJ)).same sK
    -- the texts
    refine ⟨_, rfl, _, rfl, add_ans DK gwK (g0.same s3K) (fw.mono (by decide)) (c0.mono (by decide)) fun u1 HL DL sL gL => ?_⟩
    obtain ⟨du1, eu1⟩ := gL.same hid_sub
    refine ⟨u1, C, du1, _, _, rfl, eu1, T.icl.cls, T.no _ (by decide), rfl, ?_⟩
    have s3L := s3K.trans sL
    have gwL := gwK.same sL
    refine ⟨_, rfl, _, rfl, add_ans DL (g0.same s3L) gwL (c0.mono (by decide)) (fw.mono (by decide)) fun u2 HM DM sM gM => ?_⟩
    obtain ⟨du2, eu2⟩ := gM.same hid_sub
    refine ⟨u2, C, du2, _, _, rfl, eu2, T.icl.cls, T.no _ (by decide), rfl, rfl, false, congrArg V.bl (strEq (txt_comm _ _)), iteF ?_⟩
    have s3M := s3L.trans sM
    -- what was told stays so
    have bM := hid_sub _ _ (s3M _ _ bL)
    refine ⟨_, rfl, ?_⟩
    refine ⟨_, rfl, _, rfl, _, rfl, by show 3 ≤ sizeLine; decide, fun p9 hp9 => ⟨p9, rfl, ⟨_, SqT.of upd_same⟩, fun D9 hD9 => ?_⟩⟩
    have kp9 : Same HM (upd HM p9 (.tup [.ref f0, .ref f1, .ref f2])) := same_new hp9 _
    have ep9 : upd HM p9 (.tup [.ref f0, .ref f1, .ref f2]) p9 = some (.tup [.ref f0, .ref f1, .ref f2]) := upd_same
    generalize upd HM p9 (.tup [.ref f0, .ref f1, .ref f2]) = HN at hD9 kp9 ep9
    refine lc_tup (K := K) (a := p9) (xs := [.ref f0, .ref f1, .ref f2]) (fun i H' => Same HN H' ∧ H' D9 = some (.lst ((([F0, F1, F2].take i).map told).map V.str))) ⟨same_new hD9 _, upd_same⟩ (fun i H' _ ⟨z, _⟩ => SqT.of (z _ _ ep9)) ?_ ?_
    · rintro i v HO hi ⟨s9, e9⟩
      have hi' : ([f0, f1, f2].map V.ref)[i]? = some v := hi
      rw [List.getElem?_map] at hi'
      cases ea : [f0, f1, f2][i]? with
      | none => rw [ea] at hi'; cases hi'
      | some a =>
        rw [ea] at hi'
        obtain rfl : V.ref a = v := Option.some.inj hi'
        obtain ⟨F, eF, fx, fk⟩ := (pG ((k13.trans s3M).trans (hid_same (kp9.trans s9)))).get ea
        have i3 : i < 3 := (List.getElem?_eq_some_iff.mp ea).1
        refine ⟨rfl, _, rfl, a, F, rfl, fx.same hid_sub, fk.mono (by decide), fun HP sP => ?_⟩
        refine ⟨_, sP _ _ e9, ?_, same_mut (s9.trans sP) hD9, ?_⟩
        · have : ([F0, F1, F2].take i).length ≤ 3 := List.length_take_le' _ _
          rw [List.length_map, List.length_map, sizeLine_eq]
          omega
        · have ts : [F0, F1, F2].take (i + 1) = [F0, F1, F2].take i ++ [F] := by
            rw [List.take_succ, eF]
            rfl
          rw [upd_same, ts, List.map_append, List.map_append]
          rfl
    rintro HO ⟨s9, e9⟩
    have e9 : HO D9 = some (.lst (([F0, F1, F2].map told).map V.str)) := e9
    have sO := kp9.trans s9
    refine ⟨_, _, dat_strL (sO _ _ bM), dat_strL e9, alike_strs _ _, ?_, ?_⟩
    · simp only [PyData.depth, depth_strs]
      decide
    rw [eqv_strs]
    refine q HO ((DM.same sO).mono (by omega)) ?_
    exact k3.trans (s3M.trans (hid_same sO))
end
end K11
end

/-! K11m -/
section
open PySem PySem.Spec PyProof.Rows L2 FA
namespace K11
section
variable {P : Program} {w : World} {K : PySem.W.Frag} {mg : Str → Option Value} {base : Heap} {f : Addr} {fd : FuncData} {C : Addr}
theorem cut_18 {xs : List V} (h : 8 ≤ xs.length) : cutV xs (some 1) (some 8) = (xs.drop 1).take 7 := by
  unfold cutV
  have e : HT.sIx xs.length 0 (some 1) = min 1 xs.length := HT.sIx_nat xs.length 0 1
  have e2 : HT.sIx xs.length xs.length (some 8) = min 8 xs.length := HT.sIx_nat xs.length xs.length 8
  rw [e, e2, Nat.min_eq_left (show 1 ≤ xs.length by omega), Nat.min_eq_left h]
def spLaw (K : PySem.W.Frag) : Sp := fun vs H Q _ => ∃ (a : Addr) (ns : List Int), vs = [.ref a] ∧ SqL K H a (ns.map V.int) ∧ ns.length ≤ 63 ∧ ∀ H', Q (.bl true) H'
theorem sc_law : FnScope ["_law_script", "_law_deck_here", "_law_words", "_law_turn", "_law_some", "_law_lots", "_law_one", "_law_again", "_law_k"] ["_law_script"] (defScope (top 19)) := ⟨rfl, rfl, rfl, by decide +kernel, rfl, by decide +kernel, by decide +kernel⟩
theorem ok_law (F : FnP K "law" 19 f fd) (hS : ∃ o, base.get? sysModules = some o) (m_range : mg "range" = none)
    (c__law_deck : Cal P w K mg base 1 "_law_deck" ["_law_script"] (spDeck K))
    (c__law_draw : Cal P w K mg base 1 "_law_draw" ["_law_deck_here", "_law_count"] spDrawM)
    (c__law_pick : Cal P w K mg base 2 "_law_pick" ["_law_deck_here", "_law_some"] spPickM)
    (c__law_names : Cal P w K mg base 3 "_law_names" ["_law_deck_here", "_law_count"] spNames)
    (c__law_facts : Cal P w K mg base 7 "_law_facts" ["_law_some"] (spFacts K C 2))
    (c__law_due : Cal P w K mg base 1 "_law_due" ["_law_some"] (spDue K))
    (c__law_asked_right : Cal P w K mg base 3 "_law_asked_right" ["_law_deck_here", "_law_facts_here", "_law_due_here", "_law_words"] (spAsked C))
    (c__law_sums_right : Cal P w K mg base 8 "_law_sums_right" ["_law_deck_here", "_law_lots", "_law_words"] (spSums C)) :
    FnG P w K mg base CX0 9 f fd ["_law_script"] (spLaw K) := by
  refine okD F sc_law hS (fun vs H Q E h => ?_) (fun cdv A outer s H vs Q E R h => ?_)
  · obtain ⟨a, ns, rfl, _⟩ := h
    rfl
  obtain ⟨a, ns, rfl, hS, hl, q⟩ := h
  have nd := sc_law.nd
  refine ⟨_, (pss_cons (ps_set (i := 1) nd rfl (Or.inr rfl) (cc c__law_deck R (pa_cons (pv 0) pa_nil))) (pss_cons (ps_set (i := 2) nd rfl (Or.inl rfl) (cc c__law_names R (pa_cons (pv 1) (pa_cons pe_int pa_nil)))) (pss_cons (ps_for PassesOwn.never rfl (pi_range1 rfl m_range (pa_cons pe_int pa_nil)) (pg_name (i := 3) nd rfl (Or.inl rfl)) (pss_cons (ps_set (i := 4) nd rfl (Or.inr rfl) (pe_lst (pa_cons pe_non (pa_cons pe_int (pa_cons pe_int (pa_cons (pe_op op_sub pe_int pe_int) (pa_cons (pe_op op_pow pe_int pe_int) (pa_cons (pe_op op_sub pe_int (pe_op op_pow pe_int pe_int)) pa_nil)))))))) (pss_cons (ps_set (i := 4) nd rfl (Or.inr rfl) (pe_op opAdd (pe_op opAdd (pv 4) (pe_lst (pa_cons (pe_op op_sub (cc c__law_draw R (pa_cons (pv 1) (pa_cons pe_int pa_nil))) pe_int) (pa_cons (cc c__law_draw R (pa_cons (pv 1) (pa_cons pe_int pa_nil))) pa_nil)))) (pv 2))) (pss_cons (ps_set (i := 4) nd rfl (Or.inr rfl) (pe_ix ixAny (pe_lst (pa_cons (pv 4) (pa_cons (pv 4) (pa_cons (pe_op opAdd (pe_lst (pa_cons pe_non pa_nil)) (pv 2)) (pa_cons (pe_slice slAny (pv 4) (po_some pe_int) (po_some pe_int)) pa_nil))))) (cc c__law_draw R (pa_cons (pv 1) (pa_cons pe_int pa_nil))) (fun _ _ => rfl))) (pss_cons (ps_setLc1 5 7 rfl nd rfl rfl (by rfl) (pi_range1 rfl m_range (pa_cons pe_int pa_nil)) (by kernel_rfl) (fun _ _ _ _ _ => pg_name (i := 7) nd rfl (Or.inl rfl)) (fun _ _ _ _ _ => pts_nil) (fun _ _ _ _ _ => (pe_lc1 8 rfl nd (pi_range1 rfl m_range (pa_cons (cc c__law_draw (R.blk _ _ _ _ _) (pa_cons (pv 1) (pa_cons pe_int pa_nil))) pa_nil)) (by kernel_rfl) (fun _ _ _ _ _ => pg_name (i := 8) nd rfl (Or.inl rfl)) (fun _ _ _ _ _ => pts_nil) (fun _ _ _ _ _ => (cc c__law_pick (R.blk _ _ _ _ _) (pa_cons (pv 1) (pa_cons (pv 4) pa_nil))))))) (pss_cons (ps_if (pt_not (pt_val (cc c__law_sums_right R (pa_cons (pv 1) (pa_cons (pv 5) (pa_cons (pv 2) pa_nil)))))) (pss_one (ps_ret pe_bl)) pss_nil) (pss_cons (ps_set (i := 6) nd rfl (Or.inl rfl) (cc c__law_facts R (pa_cons (pe_ix ixAny (pv 5) pe_int (fun _ _ => rfl)) pa_nil))) (pss_one (ps_if (pt_not (pt_val (cc c__law_asked_right R (pa_cons (pv 1) (pa_cons (pv 6) (pa_cons (cc c__law_due R (pa_cons (pe_ix ixAny (pv 5) pe_int (fun _ _ => rfl)) pa_nil)) (pa_cons (pv 2) pa_nil))))))) (pss_one (ps_ret pe_bl)) pss_nil))))))))) (pss_one (ps_ret pe_bl))))), ?r⟩
  case r =>
    refine ⟨_, rfl, a, ns, rfl, hS, hl, fun d c H1 hd hc D1 s1 => ?_⟩
    refine ⟨_, rfl, d, c, 0, 3, rfl, D1, by decide, by decide, fun W zs H2 hW lz oz D2 s2 Wd Wc eW => ?_⟩
    have eW' : hid d c H2 W = some (.lst (zs.map V.str)) := by rw [hid_ne Wd Wc]; exact eW
    refine ⟨6, rfl, by decide, by decide, for_range (n := 6) (fun i σ H' => ∃ t3 t4 t5 t6, σ = [some (.ref a), some (.ref d), some (.ref W), t3, t4, t5, t6, none, none] ∧ MDeck H' d c (12 + i * 40) ∧ hid d c H' W = some (.lst (zs.map V.str)))
      ⟨none, none, none, none, rfl, by simpa using D2, eW'⟩ ?_ ?_⟩
    · rintro i σ H3 hi ⟨t3, t4, t5, t6, rfl, D3, W3⟩
      have hi2 : i * 40 ≤ 5 * 40 := Nat.mul_le_mul_right _ (by omega)
      have hi3 : (i + 1) * 40 = i * 40 + 40 := by rw [Nat.add_mul, Nat.one_mul]
      generalize hm : 12 + i * 40 = m at D3
      have e12 : (10 : Int) ^ Int.toNat 12 = 1000000000000 := by decide
      -- the first values
      refine ⟨_, _, rfl, rfl, _, _, rfl, rfl, ⟨by decide, by decide, by decide⟩, _, _, rfl, rfl, ⟨by decide, by decide, by decide⟩, _, _, rfl, rfl, by show 6 ≤ sizeLine; decide, fun p1 hp1 => ?_⟩
      have vB : ∀ v ∈ ([.non, .int 0, .int 1, .int (0 - 1), .int (10 ^ Int.toNat 12), .int (0 - 10 ^ Int.toNat 12)] : List V), Vv v := by
        intro v hv
        simp only [List.mem_cons, List.not_mem_nil, or_false] at hv
        rcases hv with rfl | rfl | rfl | rfl | rfl | rfl
        · exact .inl rfl
        · exact vv_int (by decide)
        · exact vv_int (by decide)
        · exact vv_int (by decide)
        · refine vv_int ?_
          rw [e12]; decide
        · refine vv_int ?_
          rw [e12]; decide
      have lB : ([.non, .int 0, .int 1, .int (0 - 1), .int (10 ^ Int.toNat 12), .int (0 - 10 ^ Int.toNat 12)] : List V).length = 6 := rfl
      generalize ([.non, .int 0, .int 1, .int (0 - 1), .int (10 ^ Int.toNat 12), .int (0 - 10 ^ Int.toNat 12)] : List V) = B at vB lB
      obtain ⟨p1d, p1c⟩ := D3.ne hp1
      have D4 := D3.upd (o := .lst B) p1d p1c
      have s4 : Same (hid d c H3) (hid d c (upd H3 p1 (.lst B))) := hid_same (same_new hp1 _)
      have e4 : hid d c (upd H3 p1 (.lst B)) p1 = some (.lst B) := hid_at p1d p1c
      generalize upd H3 p1 (.lst B) = H4 at D4 s4 e4
      -- more of them
      refine ⟨_, rfl, _, rfl, d, c, m, 100, rfl, D4, by omega, by decide, by decide, fun r1 H5 a0 a1 D5 s5 => ⟨_, _, rfl, rfl, _, rfl, d, c, m + 1, 1000, rfl, D5, by omega, by decide, by decide, fun r2 H6 b0 b1 D6 s6 => ⟨by show 2 ≤ sizeLine; decide, fun p2 hp2 => ?_⟩⟩⟩
      have e6 := hid_sub _ _ ((s5.trans s6) _ _ e4)
      have W6 := hid_sub _ _ (((s4.trans s5).trans s6) _ _ W3)
      have p12 : p1 ≠ p2 := ne_of_none e6 hp2
      have Wp2 : W ≠ p2 := ne_of_none W6 hp2
      obtain ⟨p2d, p2c⟩ := D6.ne hp2
      refine .inr ⟨p1, p2, B, _, rfl, rfl, (upd_ne p12).trans e6, upd_same, ?_, fun p3 hp3 => ?_⟩
      · rw [lB, sizeLine_eq]; show 6 + 2 ≤ _; omega
      have W7 := (upd_ne (H := H6) (o := .lst [V.int (r1 - 50), V.int r2]) Wp2).trans W6
      have Wp3 : W ≠ p3 := ne_of_none W7 hp3
      have D7 := D6.upd (o := .lst [V.int (r1 - 50), V.int r2]) p2d p2c
      obtain ⟨p3d, p3c⟩ := D7.ne hp3
      refine ⟨_, rfl, .inr ⟨p3, W, B ++ [V.int (r1 - 50), V.int r2], zs.map V.str, rfl, rfl, upd_same, (upd_ne Wp3).trans W7, ?_, fun p4 hp4 => ?_⟩⟩
      · rw [List.length_append, lB, List.length_map, lz, sizeLine_eq]; show 6 + 2 + 3 ≤ _; omega
      have D8 := D7.upd (o := .lst (B ++ [V.int (r1 - 50), V.int r2])) p3d p3c
      obtain ⟨p4d, p4c⟩ := D8.ne hp4
      have D9 := D8.upd (o := .lst (B ++ [V.int (r1 - 50), V.int r2] ++ zs.map V.str)) p4d p4c
      have s9 := (((s4.trans s5).trans s6).trans (hid_same (same_new hp2 (.lst [V.int (r1 - 50), V.int r2])))).trans ((hid_same (same_new hp3 (.lst (B ++ [V.int (r1 - 50), V.int r2])))).trans (hid_same (same_new hp4 (.lst (B ++ [V.int (r1 - 50), V.int r2] ++ zs.map V.str)))))
      have e9 : hid d c (upd (upd (upd H6 p2 (.lst [V.int (r1 - 50), V.int r2])) p3 (.lst (B ++ [V.int (r1 - 50), V.int r2]))) p4 (.lst (B ++ [V.int (r1 - 50), V.int r2] ++ zs.map V.str))) p4 = some (.lst (B ++ [V.int (r1 - 50), V.int r2] ++ zs.map V.str)) := hid_at p4d p4c
      have vY : ∀ v ∈ B ++ [V.int (r1 - 50), V.int r2] ++ zs.map V.str, Vv v := by
        intro v hv
        rcases List.mem_append.mp hv with hv | hv
        · rcases List.mem_append.mp hv with hv | hv
          · exact vB v hv
          · simp only [List.mem_cons, List.not_mem_nil, or_false] at hv
            rcases hv with rfl | rfl <;> exact vv_int (by omega)
        · obtain ⟨z, _, rfl⟩ := List.mem_map.mp hv
          exact .inr (.inr ⟨z, rfl⟩)
      have lY : (B ++ [V.int (r1 - 50), V.int r2] ++ zs.map V.str).length = 11 := by
        rw [List.length_append, List.length_append, lB, List.length_map, lz]
        rfl
      generalize (B ++ [V.int (r1 - 50), V.int r2] ++ zs.map V.str) = Y at D9 s9 e9 vY lY
      generalize upd (upd (upd H6 p2 (.lst [V.int (r1 - 50), V.int r2])) p3 (.lst (B ++ [V.int (r1 - 50), V.int r2]))) p4 (.lst Y) = H9 at D9 s9 e9
      have W9 := s9 _ _ W3
      -- those of this turn
      refine ⟨_, rfl, _, rfl, by show 1 ≤ sizeLine; decide, fun p5 hp5 => ?_⟩
      have Wp5 : W ≠ p5 := ne_of_none (hid_sub _ _ W9) hp5
      obtain ⟨p5d, p5c⟩ := D9.ne hp5
      have DA := D9.upd (o := .lst [.non]) p5d p5c
      refine ⟨_, rfl, .inr ⟨p5, W, [.non], zs.map V.str, rfl, rfl, upd_same, (upd_ne Wp5).trans (hid_sub _ _ W9), ?_, fun p6 hp6 => ?_⟩⟩
      · rw [List.length_map, lz, sizeLine_eq]; show 1 + 3 ≤ _; omega
      obtain ⟨p6d, p6c⟩ := DA.ne hp6
      have DB := DA.upd (o := .lst ([.non] ++ zs.map V.str)) p6d p6c
      have sB := s9.trans ((hid_same (same_new hp5 (.lst [.non]))).trans (hid_same (same_new hp6 (.lst ([.non] ++ zs.map V.str)))))
      have s9B : Same (hid d c H9) (hid d c (upd (upd H9 p5 (.lst [.non])) p6 (.lst ([.non] ++ zs.map V.str)))) := (hid_same (same_new hp5 _)).trans (hid_same (same_new hp6 _))
      have e6B : hid d c (upd (upd H9 p5 (.lst [.non])) p6 (.lst ([.non] ++ zs.map V.str))) p6 = some (.lst ([.non] ++ zs.map V.str)) := hid_at p6d p6c
      generalize upd (upd H9 p5 (.lst [.non])) p6 (.lst ([.non] ++ zs.map V.str)) = HB at DB sB s9B e6B
      have eB := s9B _ _ e9
      refine ⟨_, rfl, _, rfl, _, rfl, .inl ⟨p4, Y, rfl, SqL.of (hid_sub _ _ eB), fun p7 hp7 => ?_⟩⟩
      rw [cut_18 (by omega)]
      obtain ⟨p7d, p7c⟩ := DB.ne hp7
      have DC := DB.upd (o := .lst ((Y.drop 1).take 7)) p7d p7c
      have sC : Same (hid d c HB) (hid d c (upd HB p7 (.lst ((Y.drop 1).take 7)))) := hid_same (same_new hp7 _)
      have e7C : hid d c (upd HB p7 (.lst ((Y.drop 1).take 7))) p7 = some (.lst ((Y.drop 1).take 7)) := hid_at p7d p7c
      generalize upd HB p7 (.lst ((Y.drop 1).take 7)) = HC at DC sC e7C
      have e4C := sC _ _ eB
      have e6C := sC _ _ e6B
      refine ⟨by show 4 ≤ sizeLine; decide, fun p8 hp8 => ?_⟩
      obtain ⟨p8d, p8c⟩ := DC.ne hp8
      have DD := DC.upd (o := .lst [.ref p4, .ref p4, .ref p6, .ref p7]) p8d p8c
      have sD : Same (hid d c HC) (hid d c (upd HC p8 (.lst [.ref p4, .ref p4, .ref p6, .ref p7]))) := hid_same (same_new hp8 _)
      have e8D : hid d c (upd HC p8 (.lst [.ref p4, .ref p4, .ref p6, .ref p7])) p8 = some (.lst [.ref p4, .ref p4, .ref p6, .ref p7]) := hid_at p8d p8c
      generalize upd HC p8 (.lst [.ref p4, .ref p4, .ref p6, .ref p7]) = HD at DD sD e8D
      refine ⟨_, rfl, d, c, m + 2, 4, rfl, DD, by omega, by decide, by decide, fun r3 HE c0 c1 DE sE => ?_⟩
      have four4 : ∃ S ys, atI [V.ref p4, .ref p4, .ref p6, .ref p7] r3 = some (.ref S) ∧ hid d c HC S = some (.lst ys) ∧ 0 < ys.length ∧ ys.length ≤ 100 ∧ ∀ v ∈ ys, Vv v := by
        have h4 : r3 = 0 ∨ r3 = 1 ∨ r3 = 2 ∨ r3 = 3 := by omega
        rcases h4 with rfl | rfl | rfl | rfl
        · exact ⟨p4, Y, rfl, e4C, by omega, by omega, vY⟩
        · exact ⟨p4, Y, rfl, e4C, by omega, by omega, vY⟩
        · refine ⟨p6, _, rfl, e6C, ?_, ?_, ?_⟩
          · rw [List.length_append, List.length_map, lz]; decide
          · rw [List.length_append, List.length_map, lz]; decide
          · intro v hv
            rcases List.mem_append.mp hv with hv | hv
            · have : v = .non := by simpa using hv
              rw [this]
              exact .inl rfl
            · obtain ⟨z, _, rfl⟩ := List.mem_map.mp hv
              exact .inr (.inr ⟨z, rfl⟩)
        · refine ⟨p7, _, rfl, e7C, ?_, ?_, fun v hv => vY v (List.mem_of_mem_drop (List.mem_of_mem_take hv))⟩
          · rw [List.length_take, List.length_drop, lY]; decide
          · rw [List.length_take, List.length_drop, lY]; decide
      obtain ⟨S, ys, eS, hSy, ys0, ys1, vys⟩ := four4
      refine .inl ⟨p8, _, r3, .ref S, rfl, rfl, SqL.of (hid_sub _ _ (sE _ _ e8D)), eS, ?_⟩
      have SE := (sD.trans sE) _ _ hSy
      have s3E := ((sB.trans sC).trans sD).trans sE
      have WE := s3E _ _ W3
      -- the lots
      refine ⟨3, rfl, by decide, by decide, fun Lo hLo => ?_⟩
      obtain ⟨Lod, Loc⟩ := DE.ne hLo
      refine lc_it walk_range (fun i H' => ∃ as xs, H' Lo = some (.lst (as.map V.ref)) ∧ as.length = i ∧ P2 (fun a x => hid d c H' a = some (.lst x) ∧ a ≠ Lo) as xs ∧ (∀ x ∈ xs, x.length ≤ 7 ∧ ∀ v ∈ x, Vv v) ∧ MDeck H' d c (m + 3 + i * 7) ∧ Same (hid d c HE) (hid d c H'))
        ⟨[], [], upd_same, rfl, .nil, (fun _ h => nomatch h), by simpa using DE.upd Lod Loc, hid_same (same_new hLo _)⟩ (fun _ _ _ _ => trivial) ?_ ?_
      · rintro i2 x HF0 HF hi' ⟨as, xs, eF, lF, pF, oF, DF, sF⟩ ⟨rfl, rfl⟩
        have i3 : i2 < 3 := hi'
        have i7 : i2 * 7 ≤ 2 * 7 := Nat.mul_le_mul_right _ (by omega)
        have i8 : (i2 + 1) * 7 = i2 * 7 + 7 := by rw [Nat.add_mul, Nat.one_mul]
        refine ⟨rfl, _, rfl, d, c, m + 3 + i2 * 7, 7, rfl, DF, by omega, by decide, by decide, fun r4 HG d0 d1 DG sG => ⟨r4, rfl, by omega, by omega, fun Li hLi => ?_⟩⟩
        obtain ⟨Lid, Lic⟩ := DG.ne hLi
        refine lc_it walk_range (fun j H' => ∃ us, H' Li = some (.lst us) ∧ us.length = j ∧ (∀ v ∈ us, Vv v) ∧ MDeck H' d c (m + 3 + i2 * 7 + 1 + j) ∧ Same (hid d c HG) (hid d c H'))
          ⟨[], upd_same, rfl, (fun _ h => nomatch h), DG.upd Lid Lic, hid_same (same_new hLi _)⟩ (fun _ _ _ _ => trivial) ?_ ?_
        · rintro j x HH0 HH hj ⟨us, eH, lH, vH, DH, sH⟩ ⟨rfl, rfl⟩
          have j6 : j < 6 := by omega
          have SH := (((sF.trans sG).trans sH) _ _ SE)
          refine ⟨rfl, _, rfl, _, rfl, d, c, m + 3 + i2 * 7 + 1 + j, _, rfl, DH, by omega, .inl ⟨S, ys, rfl, SH, ys0, by omega, fun k y HI hy DI sI => ?_⟩⟩
          refine ⟨us, ?_, ?_, us ++ [y], upd_same, ?_, ?_, DI.upd Lid Lic, hid_mut (sH.trans sI) hLi Lid Lic⟩
          · rw [← hid_ne Lid Lic (H := HI)]
            exact sI _ _ (by rw [hid_ne Lid Lic]; exact eH)
          · rw [lH, sizeLine_eq]; omega
          · rw [List.length_append, lH]; rfl
          · intro v hv
            rcases List.mem_append.mp hv with hv | hv
            · exact vH v hv
            · have : v = y := by simpa using hv
              subst this
              exact vys _ (List.mem_of_getElem? hy)
        rintro HH ⟨us, eH, lH, vH, DH, sH⟩
        have sFH := sG.trans sH
        have LoH : HH Lo = some (.lst (as.map V.ref)) := hid_sub _ _ (sFH _ _ (by rw [hid_ne Lod Loc]; exact eF))
        have LiLo : Li ≠ Lo := fun e => by
          have := hid_sub _ _ (sG _ _ (show hid d c HF Lo = _ by rw [hid_ne Lod Loc]; exact eF))
          rw [← e, hLi] at this
          cases this
        refine ⟨_, LoH, ?_, as ++ [Li], xs ++ [us], ?_, ?_, ?_, ?_, ?_, hid_mut (sF.trans sFH) hLo Lod Loc⟩
        · rw [List.length_map, lF, sizeLine_eq]; omega
        · rw [upd_same, List.map_append]; rfl
        · rw [List.length_append, lF]; rfl
        · exact P2.snoc (pF.imp fun a x hq => ⟨by
            obtain ⟨k1, k2, k3⟩ := hid_some (sFH _ _ hq.1)
            rw [hid_ne k1 k2, upd_ne hq.2]
            exact k3, hq.2⟩) ⟨by
            rw [hid_ne Lid Lic, upd_ne LiLo]
            exact eH, LiLo⟩
        · intro x hx
          rcases List.mem_append.mp hx with hx | hx
          · exact oF x hx
          · have : x = us := by simpa using hx
            subst this
            exact ⟨by omega, vH⟩
        · refine (DH.mono ?_).upd Lod Loc
          omega
      rintro HF ⟨as, xs, eF, lF, pF, oF, DF, sF⟩
      have l3 : as.length = 3 := lF
      have LL : Lots HF d c Lo as xs := ⟨by rw [hid_ne Lod Loc]; exact eF, pF.imp fun _ _ h => h.1, l3, oF⟩
      have WF := sF _ _ WE
      have DF : MDeck HF d c (m + 24) := DF
      refine ⟨_, rfl, _, rfl, _, rfl, d, c, Lo, W, m + 24, as, xs, zs, rfl, DF, by omega, LL, WF, by omega, fun HG DG sG => ⟨_, rfl, iteF ?_⟩⟩
      have LG := LL.same sG
      have WG := sG _ _ WF
      obtain ⟨a0, a1, a2, rfl⟩ := len3' l3
      obtain ⟨x0, x1, x2, rfl⟩ := len3' (LG.each.len.symm.trans LG.len)
      have lG := hid_sub _ _ LG.at_
      have v0 := LG.ok x0 (by simp)
      cases LG.each with
      | cons h0 t =>
      refine ⟨_, rfl, .inl ⟨Lo, _, 0, .ref a0, rfl, rfl, SqL.of lG, rfl, a0, x0, rfl, SqL.of (hid_sub _ _ h0), by have := v0.1; omega, by have := v0.1; omega, v0.2, fun x HH hx sH fx => ?_⟩⟩
      have DH := DG.same sH
      obtain ⟨xd, xc⟩ := DG.ne hx
      have LH := LG.same (hid_same sH)
      have h0H := hid_same (d := d) (c := c) sH _ _ h0
      refine ⟨_, rfl, _, rfl, _, rfl, .inl ⟨Lo, _, 0, .ref a0, rfl, rfl, SqL.of (hid_sub _ _ LH.at_), rfl, a0, x0, rfl, SqL.of (hid_sub _ _ h0H), by have := v0.1; omega, v0.2, fun U HI hU sI eU => ?_⟩⟩
      obtain ⟨Ud, Uc⟩ := DH.ne hU
      have DI := DH.same sI
      have sGI : Same (hid d c HG) (hid d c HI) := (hid_same sH).trans (hid_same sI)
      refine ⟨_, rfl, d, c, x, U, W, m + 24 + 2, fcOf x0, zs, rfl, DI, by omega, (fx_in fx xd xc).same (hid_same sI), by rw [hid_ne Ud Uc]; exact eU, sGI _ _ WG, by omega, (fok_of v0.2 v0.1).mono (by decide), fun HJ DJ sJ => ⟨_, rfl, iteF ?_⟩⟩
      refine ⟨_, _, _, _, rfl, DJ.mono (by omega), (sGI.trans sJ) _ _ WG⟩
    · rintro σ H3 ⟨t3, t4, t5, t6, rfl, D3, W3⟩
      exact q _
end
end K11
end

/-! K11n -/
section
namespace K11
open PySem PySem.Spec PyProof.Rows L2 FA
def cF (K : PySem.W.Frag) : Addr := He.ga K "Facts"
def kB (K : PySem.W.Frag) : Bool := iclB K (cF K) && (decide (PySem.W.kitOne K (.ref (cF K)) (.ref (cF K)) = some true) && (oclB K (cF K) "__add__" && (oclB K (cF K) "__contains__" && oclB K (cF K) "__eq__")))
def dd_kind_of : He.DefD := ⟨("kind_of", none), "kind_of", "kind_of", defArgs (top 1), defBody (top 1), defScope (top 1), [], []⟩
def dd_text_of : He.DefD := ⟨("text_of", none), "text_of", "text_of", defArgs (top 4), defBody (top 4), defScope (top 4), [], []⟩
def dd_many_of : He.DefD := ⟨("many_of", none), "many_of", "many_of", defArgs (top 5), defBody (top 5), defScope (top 5), [], []⟩
def dd__law_deck : He.DefD := ⟨("_law_deck", none), "_law_deck", "_law_deck", defArgs (top 7), defBody (top 7), defScope (top 7), [], []⟩
def dd__law_draw : He.DefD := ⟨("_law_draw", none), "_law_draw", "_law_draw", defArgs (top 8), defBody (top 8), defScope (top 8), [], []⟩
def dd__law_pick : He.DefD := ⟨("_law_pick", none), "_law_pick", "_law_pick", defArgs (top 9), defBody (top 9), defScope (top 9), [], []⟩
def dd__law_names : He.DefD := ⟨("_law_names", none), "_law_names", "_law_names", defArgs (top 10), defBody (top 10), defScope (top 10), [], []⟩
def dd__law_facts : He.DefD := ⟨("_law_facts", none), "_law_facts", "_law_facts", defArgs (top 11), defBody (top 11), defScope (top 11), [], []⟩
def dd__law_due : He.DefD := ⟨("_law_due", none), "_law_due", "_law_due", defArgs (top 12), defBody (top 12), defScope (top 12), [], []⟩
def dd__law_text : He.DefD := ⟨("_law_text", none), "_law_text", "_law_text", defArgs (top 13), defBody (top 13), defScope (top 13), [], []⟩
def dd__law_told : He.DefD := ⟨("_law_told", none), "_law_told", "_law_told", defArgs (top 14), defBody (top 14), defScope (top 14), [], []⟩
def dd__law_probes : He.DefD := ⟨("_law_probes", none), "_law_probes", "_law_probes", defArgs (top 15), defBody (top 15), defScope (top 15), [], []⟩
def dd__law_is_in : He.DefD := ⟨("_law_is_in", none), "_law_is_in", "_law_is_in", defArgs (top 16), defBody (top 16), defScope (top 16), [], []⟩
def dd__law_asked_right : He.DefD := ⟨("_law_asked_right", none), "_law_asked_right", "_law_asked_right", defArgs (top 17), defBody (top 17), defScope (top 17), [], []⟩
def dd__law_sums_right : He.DefD := ⟨("_law_sums_right", none), "_law_sums_right", "_law_sums_right", defArgs (top 18), defBody (top 18), defScope (top 18), [], []⟩
def dd_law : He.DefD := ⟨("law", none), "law", "law", defArgs (top 19), defBody (top 19), defScope (top 19), [], []⟩
def di_init : He.DefD := ⟨("Facts", some "__init__"), "__init__", "Facts.__init__", defArgs (inClass (top 3) 0), defBody (inClass (top 3) 0), defScope (inClass (top 3) 0), [], []⟩
def di_add : He.DefD := ⟨("Facts", some "__add__"), "__add__", "Facts.__add__", defArgs (inClass (top 3) 1), defBody (inClass (top 3) 1), defScope (inClass (top 3) 1), [], []⟩
def di_contains : He.DefD := ⟨("Facts", some "__contains__"), "__contains__", "Facts.__contains__", defArgs (inClass (top 3) 2), defBody (inClass (top 3) 2), defScope (inClass (top 3) 2), [], []⟩
def di_eq : He.DefD := ⟨("Facts", some "__eq__"), "__eq__", "Facts.__eq__", defArgs (inClass (top 3) 3), defBody (inClass (top 3) 3), defScope (inClass (top 3) 3), [], []⟩
def fn : List He.DefD := [dd_kind_of, dd_text_of, dd_many_of, dd__law_deck, dd__law_draw, dd__law_pick, dd__law_names, dd__law_facts, dd__law_due, dd__law_text, dd__law_told, dd__law_probes, dd__law_is_in, dd__law_asked_right, dd__law_sums_right, dd_law, di_init, di_add, di_contains, di_eq]
def fa : List He.Fa := [.glo "kind_of", .glo "text_of", .glo "many_of", .glo "_law_deck", .glo "_law_draw", .glo "_law_pick", .glo "_law_names", .glo "_law_facts", .glo "_law_due", .glo "_law_text", .glo "_law_told", .glo "_law_probes", .glo "_law_is_in", .glo "_law_asked_right", .glo "_law_sums_right", .glo "law", .glo "Facts", .cls "Facts", .mkr "Facts", .noat "Facts" "nothings", .noat "Facts" "numbers", .noat "Facts" "words", .noat "Facts" "least", .noat "Facts" "greatest", .noat "Facts" "text", .free "isinstance", .free "len", .free "str", .free "int", .free "list", .free "range", .free "repr", .free "min", .free "max"]
abbrev R : PySem.W.OpenRow := PySem.W.OpenLaw.row PySem.Challenge.rw_failsalike_k11_facts_added_and_asked
abbrev hk : PySem.W.Hook := hookB 5 fa fn kB
def ob (s : PySem.W.SharedT) : He.AlD × Bool × Bool := (He.obsDG 5 fa fn (HandSHeadRun.getT s), sysB (HandSHeadRun.getT s), kB (He.frG (HandSHeadRun.getT s) (He.asD (HandSHeadRun.getT s) 5)))
theorem ob_eq (s : PySem.W.SharedT) : ob s = hk.obs s.abs := by
  have e : HandSHeadRun.getT s = s.abs.heap.get? := funext (HandSHeadRun.getT_eq s)
  show (He.obsDG 5 fa fn (HandSHeadRun.getT s), sysB (HandSHeadRun.getT s), kB (He.frG (HandSHeadRun.getT s) (He.asD (HandSHeadRun.getT s) 5))) = (He.obsDG 5 fa fn s.abs.heap.get?, sysB s.abs.heap.get?, kB (He.frG s.abs.heap.get? (He.asD s.abs.heap.get? 5)))
  exact congrArg (fun g => (He.obsDG 5 fa fn g, sysB g, kB (He.frG g (He.asD g 5)))) e
def loose : List Str := ["kind_of", "text_of", "many_of", "_law_deck", "_law_draw", "_law_pick", "_law_names", "_law_facts", "_law_due", "_law_text", "_law_told", "_law_probes", "_law_is_in", "_law_asked_right", "_law_sums_right", "Facts"]
theorem run (w : World) : HandSHeadRun.RunEq R (PySem.W.view R.prog [19]) hk ob 6000 loose w := by
  intro os
  kernel_rfl

theorem facts {P : Program} {w : World} {K : PySem.W.Frag} {h : Heap} {mg : Str → Option Value} {f : Addr} (X : K.In h) (G : h.Ns mainGlobals mg) (hfa : mg ("law" : Str) = some (.ref f)) (c : He.SaysD fa fn K) (hk : kB K = true) :
    ∃ fd : FuncData, (∀ (s : Shared) (v : Value), BindsTo s fd ⟨[v], []⟩ [("_law_script", v)]) ∧ ∀ base : Heap, K.In base → base.Ns mainGlobals mg → (∃ o, base.get? sysModules = some o) → FnG P w K mg base CX0 9 f fd ["_law_script"] (spLaw K) := by
  obtain ⟨q_kind_of, F_kind_of⟩ := c.def_ 0 (d := dd_kind_of) rfl
  have g_kind_of := He.glo_ok X G (c.fact 0 (f := .glo "kind_of") rfl)
  have b_kind_of : Binds K q_kind_of ["value"] [] := FunD.bindsN F_kind_of fun _ _ _ _ _ _ us hl => match us, hl with | [_], _ => rfl
  obtain ⟨q_text_of, F_text_of⟩ := c.def_ 1 (d := dd_text_of) rfl
  have g_text_of := He.glo_ok X G (c.fact 1 (f := .glo "text_of") rfl)
  have b_text_of : Binds K q_text_of ["nothings", "numbers", "words", "least", "greatest"] [] := FunD.bindsN F_text_of fun _ _ _ _ _ _ us hl => match us, hl with | [_, _, _, _, _], _ => rfl
  obtain ⟨q_many_of, F_many_of⟩ := c.def_ 2 (d := dd_many_of) rfl
  have g_many_of := He.glo_ok X G (c.fact 2 (f := .glo "many_of") rfl)
  have b_many_of : Binds K q_many_of ["facts", "kind"] [] := FunD.bindsN F_many_of fun _ _ _ _ _ _ us hl => match us, hl with | [_, _], _ => rfl
  obtain ⟨q__law_deck, F__law_deck⟩ := c.def_ 3 (d := dd__law_deck) rfl
  have g__law_deck := He.glo_ok X G (c.fact 3 (f := .glo "_law_deck") rfl)
  have b__law_deck : Binds K q__law_deck ["_law_script"] [] := FunD.bindsN F__law_deck fun _ _ _ _ _ _ us hl => match us, hl with | [_], _ => rfl
  obtain ⟨q__law_draw, F__law_draw⟩ := c.def_ 4 (d := dd__law_draw) rfl
  have g__law_draw := He.glo_ok X G (c.fact 4 (f := .glo "_law_draw") rfl)
  have b__law_draw : Binds K q__law_draw ["_law_deck_here", "_law_count"] [] := FunD.bindsN F__law_draw fun _ _ _ _ _ _ us hl => match us, hl with | [_, _], _ => rfl
  obtain ⟨q__law_pick, F__law_pick⟩ := c.def_ 5 (d := dd__law_pick) rfl
  have g__law_pick := He.glo_ok X G (c.fact 5 (f := .glo "_law_pick") rfl)
  have b__law_pick : Binds K q__law_pick ["_law_deck_here", "_law_some"] [] := FunD.bindsN F__law_pick fun _ _ _ _ _ _ us hl => match us, hl with | [_, _], _ => rfl
  obtain ⟨q__law_names, F__law_names⟩ := c.def_ 6 (d := dd__law_names) rfl
  have g__law_names := He.glo_ok X G (c.fact 6 (f := .glo "_law_names") rfl)
  have b__law_names : Binds K q__law_names ["_law_deck_here", "_law_count"] [] := FunD.bindsN F__law_names fun _ _ _ _ _ _ us hl => match us, hl with | [_, _], _ => rfl
  obtain ⟨q__law_facts, F__law_facts⟩ := c.def_ 7 (d := dd__law_facts) rfl
  have g__law_facts := He.glo_ok X G (c.fact 7 (f := .glo "_law_facts") rfl)
  have b__law_facts : Binds K q__law_facts ["_law_some"] [] := FunD.bindsN F__law_facts fun _ _ _ _ _ _ us hl => match us, hl with | [_], _ => rfl
  obtain ⟨q__law_due, F__law_due⟩ := c.def_ 8 (d := dd__law_due) rfl
  have g__law_due := He.glo_ok X G (c.fact 8 (f := .glo "_law_due") rfl)
  have b__law_due : Binds K q__law_due ["_law_some"] [] := FunD.bindsN F__law_due fun _ _ _ _ _ _ us hl => match us, hl with | [_], _ => rfl
  obtain ⟨q__law_text, F__law_text⟩ := c.def_ 9 (d := dd__law_text) rfl
  have g__law_text := He.glo_ok X G (c.fact 9 (f := .glo "_law_text") rfl)
  have b__law_text : Binds K q__law_text ["_law_due_here"] [] := FunD.bindsN F__law_text fun _ _ _ _ _ _ us hl => match us, hl with | [_], _ => rfl
  obtain ⟨q__law_told, F__law_told⟩ := c.def_ 10 (d := dd__law_told) rfl
  have g__law_told := He.glo_ok X G (c.fact 10 (f := .glo "_law_told") rfl)
  have b__law_told : Binds K q__law_told ["_law_facts_here"] [] := FunD.bindsN F__law_told fun _ _ _ _ _ _ us hl => match us, hl with | [_], _ => rfl
  obtain ⟨q__law_probes, F__law_probes⟩ := c.def_ 11 (d := dd__law_probes) rfl
  have g__law_probes := He.glo_ok X G (c.fact 11 (f := .glo "_law_probes") rfl)
  have b__law_probes : Binds K q__law_probes ["_law_deck_here", "_law_due_here", "_law_words"] [] := FunD.bindsN F__law_probes fun _ _ _ _ _ _ us hl => match us, hl with | [_, _, _], _ => rfl
  obtain ⟨q__law_is_in, F__law_is_in⟩ := c.def_ 12 (d := dd__law_is_in) rfl
  have g__law_is_in := He.glo_ok X G (c.fact 12 (f := .glo "_law_is_in") rfl)
  have b__law_is_in : Binds K q__law_is_in ["_law_due_here", "_law_probe"] [] := FunD.bindsN F__law_is_in fun _ _ _ _ _ _ us hl => match us, hl with | [_, _], _ => rfl
  obtain ⟨q__law_asked_right, F__law_asked_right⟩ := c.def_ 13 (d := dd__law_asked_right) rfl
  have g__law_asked_right := He.glo_ok X G (c.fact 13 (f := .glo "_law_asked_right") rfl)
  have b__law_asked_right : Binds K q__law_asked_right ["_law_deck_here", "_law_facts_here", "_law_due_here", "_law_words"] [] := FunD.bindsN F__law_asked_right fun _ _ _ _ _ _ us hl => match us, hl with | [_, _, _, _], _ => rfl
  obtain ⟨q__law_sums_right, F__law_sums_right⟩ := c.def_ 14 (d := dd__law_sums_right) rfl
  have g__law_sums_right := He.glo_ok X G (c.fact 14 (f := .glo "_law_sums_right") rfl)
  have b__law_sums_right : Binds K q__law_sums_right ["_law_deck_here", "_law_lots", "_law_words"] [] := FunD.bindsN F__law_sums_right fun _ _ _ _ _ _ us hl => match us, hl with | [_, _, _], _ => rfl
  obtain ⟨q_law, F_law⟩ := c.def_ 15 (d := dd_law) rfl
  obtain ⟨q_init, F_init⟩ := c.def_ 16 (d := di_init) rfl
  obtain ⟨q_add, F_add⟩ := c.def_ 17 (d := di_add) rfl
  have b_add : Binds K q_add ["self", "other"] [] := FunD.bindsN F_add fun _ _ _ _ _ _ us hl => match us, hl with | [_, _], _ => rfl
  obtain ⟨q_contains, F_contains⟩ := c.def_ 18 (d := di_contains) rfl
  have b_contains : Binds K q_contains ["self", "x"] [] := FunD.bindsN F_contains fun _ _ _ _ _ _ us hl => match us, hl with | [_, _], _ => rfl
  obtain ⟨q_eq, F_eq⟩ := c.def_ 19 (d := di_eq) rfl
  have b_eq : Binds K q_eq ["self", "other"] [] := FunD.bindsN F_eq fun _ _ _ _ _ _ us hl => match us, hl with | [_, _], _ => rfl
  have e := hfa.symm.trans (He.glo_ok X G (c.fact 15 (f := .glo "law") rfl))
  cases e
  have gFacts : mg "Facts" = some (.ref (cF K)) := He.glo_ok X G (c.fact 16 (f := .glo "Facts") rfl)
  have cls : Cls K (cF K) := He.cls_ok (c.fact 17 (f := .cls "Facts") rfl)
  have mkr : Mk K (cF K) (He.ma K (cF K) "__init__") := He.mkr_ok (c.fact 18 (f := .mkr "Facts") rfl)
  have no_nothings : NoAttr K (cF K) "nothings" := He.noat_ok (c.fact 19 (f := .noat "Facts" "nothings") rfl)
  have no_numbers : NoAttr K (cF K) "numbers" := He.noat_ok (c.fact 20 (f := .noat "Facts" "numbers") rfl)
  have no_words : NoAttr K (cF K) "words" := He.noat_ok (c.fact 21 (f := .noat "Facts" "words") rfl)
  have no_least : NoAttr K (cF K) "least" := He.noat_ok (c.fact 22 (f := .noat "Facts" "least") rfl)
  have no_greatest : NoAttr K (cF K) "greatest" := He.noat_ok (c.fact 23 (f := .noat "Facts" "greatest") rfl)
  have no_text : NoAttr K (cF K) "text" := He.noat_ok (c.fact 24 (f := .noat "Facts" "text") rfl)
  have m_isinstance : mg "isinstance" = none := He.free_ok X G (c.fact 25 (f := .free "isinstance") rfl)
  have m_len : mg "len" = none := He.free_ok X G (c.fact 26 (f := .free "len") rfl)
  have m_str : mg "str" = none := He.free_ok X G (c.fact 27 (f := .free "str") rfl)
  have m_int : mg "int" = none := He.free_ok X G (c.fact 28 (f := .free "int") rfl)
  have m_list : mg "list" = none := He.free_ok X G (c.fact 29 (f := .free "list") rfl)
  have m_range : mg "range" = none := He.free_ok X G (c.fact 30 (f := .free "range") rfl)
  have m_repr : mg "repr" = none := He.free_ok X G (c.fact 31 (f := .free "repr") rfl)
  have m_min : mg "min" = none := He.free_ok X G (c.fact 32 (f := .free "min") rfl)
  have m_max : mg "max" = none := He.free_ok X G (c.fact 33 (f := .free "max") rfl)
  unfold kB at hk
  rw [Bool.and_eq_true, Bool.and_eq_true, Bool.and_eq_true, Bool.and_eq_true] at hk
  obtain ⟨k1, k2, k3, k4, k5⟩ := hk
  have T : Kf K (cF K) := ⟨iclB_ok k1 cls, fun x hx => by
    simp only [List.mem_cons, List.not_mem_nil, or_false] at hx
    rcases hx with rfl | rfl | rfl | rfl | rfl | rfl <;> assumption, of_decide_eq_true k2⟩
  have b := FunD.bindsA (ps := ["_law_script"]) F_law fun _ _ _ _ _ _ us hl => match us, hl with | [_], _ => rfl
  refine ⟨_, fun s v => b s [v] rfl, fun base _ _ hS => ?_⟩
  have G_kind_of := ok_kind_of (P := P) (w := w) (mg := mg) (base := base) F_kind_of hS m_isinstance m_str
  have c_kind_of : Cal P w K mg base _ "kind_of" ["value"] _ := ⟨⟨_, _, G_kind_of, g_kind_of, F_kind_of.kp, b_kind_of⟩⟩
  have G_text_of := ok_text_of (P := P) (w := w) (mg := mg) (base := base) F_text_of hS
  have c_text_of : Cal P w K mg base _ "text_of" ["nothings", "numbers", "words", "least", "greatest"] _ := ⟨⟨_, _, G_text_of, g_text_of, F_text_of.kp, b_text_of⟩⟩
  have G_many_of := ok_many_of (P := P) (w := w) (mg := mg) (base := base) F_many_of hS T
  have c_many_of : Cal P w K mg base _ "many_of" ["facts", "kind"] _ := ⟨⟨_, _, G_many_of, g_many_of, F_many_of.kp, b_many_of⟩⟩
  have G_init := ok_Facts_init (P := P) (w := w) (mg := mg) (base := base) F_init hS T m_len m_min m_max c_kind_of c_text_of
  have k_Facts : MkG P w K mg base 2 "Facts" (cF K) (spMk (cF K)) := ⟨⟨_, mkr, G_init⟩, gFacts⟩
  have G_add := ok_Facts_add (P := P) (w := w) (mg := mg) (base := base) F_add hS T m_isinstance m_min m_max k_Facts c_text_of
  have o_add : OpC P w K mg base 4 (cF K) "__add__" (spAdd (cF K)) := ⟨⟨_, _, _, oclB_ok k3, G_add, b_add⟩⟩
  have G_has := ok_Facts_contains (P := P) (w := w) (mg := mg) (base := base) F_contains hS T c_kind_of c_many_of
  have o_has : OpC P w K mg base 2 (cF K) "__contains__" (spHas (cF K)) := ⟨⟨_, _, _, oclB_ok k4, G_has, b_contains⟩⟩
  have G_eq := ok_Facts_eq (P := P) (w := w) (mg := mg) (base := base) F_eq hS T m_isinstance k_Facts
  have o_eq : OpC P w K mg base 1 (cF K) "__eq__" (spEq (cF K)) := ⟨⟨_, _, _, oclB_ok k5, G_eq, b_eq⟩⟩
  have G__law_deck := ok__law_deck (P := P) (w := w) (mg := mg) (base := base) F__law_deck hS m_list
  have c__law_deck : Cal P w K mg base _ "_law_deck" ["_law_script"] _ := ⟨⟨_, _, G__law_deck, g__law_deck, F__law_deck.kp, b__law_deck⟩⟩
  have G__law_draw := ok__law_draw (P := P) (w := w) (mg := mg) (base := base) F__law_draw hS
  have c__law_draw : Cal P w K mg base _ "_law_draw" ["_law_deck_here", "_law_count"] _ := ⟨⟨_, _, G__law_draw, g__law_draw, F__law_draw.kp, b__law_draw⟩⟩
  have G__law_pick := ok__law_pick (P := P) (w := w) (mg := mg) (base := base) F__law_pick hS m_len c__law_draw
  have c__law_pick : Cal P w K mg base _ "_law_pick" ["_law_deck_here", "_law_some"] _ := ⟨⟨_, _, G__law_pick, g__law_pick, F__law_pick.kp, b__law_pick⟩⟩
  have G__law_names := ok__law_names (P := P) (w := w) (mg := mg) (base := base) F__law_names hS m_range c__law_draw c__law_pick
  have c__law_names : Cal P w K mg base _ "_law_names" ["_law_deck_here", "_law_count"] _ := ⟨⟨_, _, G__law_names, g__law_names, F__law_names.kp, b__law_names⟩⟩
  have t0 : FnG P w K mg base CX0 4 (He.fAd K dd__law_facts.at_) q__law_facts ["_law_some"] (spFactsP K (cF K) 0) := ⟨fun _ _ _ _ z => z.elim, fun _ _ _ _ _ _ _ _ _ _ _ _ _ _ z => z.elim⟩
  have t1 := ok__law_facts (P := P) (w := w) (mg := mg) (base := base) 0 F__law_facts hS m_len k_Facts o_add ⟨⟨_, _, t0, g__law_facts, F__law_facts.kp, b__law_facts⟩⟩
  have t2 := ok__law_facts (P := P) (w := w) (mg := mg) (base := base) 1 F__law_facts hS m_len k_Facts o_add ⟨⟨_, _, t1, g__law_facts, F__law_facts.kp, b__law_facts⟩⟩
  have t3 := ok__law_facts (P := P) (w := w) (mg := mg) (base := base) 2 F__law_facts hS m_len k_Facts o_add ⟨⟨_, _, t2, g__law_facts, F__law_facts.kp, b__law_facts⟩⟩
  have c__law_facts : Cal P w K mg base 7 "_law_facts" ["_law_some"] (spFacts K (cF K) 2) := ⟨⟨_, _, t3, g__law_facts, F__law_facts.kp, b__law_facts⟩⟩
  have G__law_due := ok__law_due (P := P) (w := w) (mg := mg) (base := base) F__law_due hS m_isinstance m_int m_str m_len m_min m_max
  have c__law_due : Cal P w K mg base _ "_law_due" ["_law_some"] _ := ⟨⟨_, _, G__law_due, g__law_due, F__law_due.kp, b__law_due⟩⟩
  have G__law_text := ok__law_text (P := P) (w := w) (mg := mg) (base := base) F__law_text hS m_str
  have c__law_text : Cal P w K mg base _ "_law_text" ["_law_due_here"] _ := ⟨⟨_, _, G__law_text, g__law_text, F__law_text.kp, b__law_text⟩⟩
  have G__law_told := ok__law_told (P := P) (w := w) (mg := mg) (base := base) F__law_told hS T m_repr
  have c__law_told : Cal P w K mg base _ "_law_told" ["_law_facts_here"] _ := ⟨⟨_, _, G__law_told, g__law_told, F__law_told.kp, b__law_told⟩⟩
  have G__law_probes := ok__law_probes (P := P) (w := w) (mg := mg) (base := base) F__law_probes hS m_max m_min c__law_draw
  have c__law_probes : Cal P w K mg base _ "_law_probes" ["_law_deck_here", "_law_due_here", "_law_words"] _ := ⟨⟨_, _, G__law_probes, g__law_probes, F__law_probes.kp, b__law_probes⟩⟩
  have G__law_is_in := ok__law_is_in (P := P) (w := w) (mg := mg) (base := base) F__law_is_in hS m_isinstance m_str
  have c__law_is_in : Cal P w K mg base _ "_law_is_in" ["_law_due_here", "_law_probe"] _ := ⟨⟨_, _, G__law_is_in, g__law_is_in, F__law_is_in.kp, b__law_is_in⟩⟩
  have G__law_asked_right := ok__law_asked_right (P := P) (w := w) (mg := mg) (base := base) F__law_asked_right hS T m_repr o_has c__law_probes c__law_is_in c__law_told c__law_text
  have c__law_asked_right : Cal P w K mg base _ "_law_asked_right" ["_law_deck_here", "_law_facts_here", "_law_due_here", "_law_words"] _ := ⟨⟨_, _, G__law_asked_right, g__law_asked_right, F__law_asked_right.kp, b__law_asked_right⟩⟩
  have G__law_sums_right := ok__law_sums_right (P := P) (w := w) (mg := mg) (base := base) F__law_sums_right hS T k_Facts o_add o_eq c__law_facts c__law_due c__law_told c__law_asked_right
  have c__law_sums_right : Cal P w K mg base _ "_law_sums_right" ["_law_deck_here", "_law_lots", "_law_words"] _ := ⟨⟨_, _, G__law_sums_right, g__law_sums_right, F__law_sums_right.kp, b__law_sums_right⟩⟩
  exact ok_law F_law hS m_range c__law_deck c__law_draw c__law_pick c__law_names c__law_facts c__law_due c__law_asked_right c__law_sums_right
end K11
open PySem PySem.W PySem.Calls PyProof.Rows
theorem PySem.Challenge.cw_failsalike_k11_facts_added_and_asked_holds : PySem.Challenge.rw_failsalike_k11_facts_added_and_asked.Holds := by
  w_on; o_law
  refine HandSHeadRun.head_any (r := OpenLaw.row PySem.Challenge.rw_failsalike_k11_facts_added_and_asked) (q := view (OpenLaw.row PySem.Challenge.rw_failsalike_k11_facts_added_and_asked).prog [19]) (H := K11.hk) (ob := K11.ob) (M := 6000) (loose := K11.loose) (d := HandSHeadRun.topDef (OpenLaw.row PySem.Challenge.rw_failsalike_k11_facts_added_and_asked).prog 19) (kwd := []) K11.ob_eq
    (by kernel_rfl) (fun s => by kernel_rfl) K11.run (by kernel_rfl) (by kernel_rfl) (by kernel_rfl) (by rfl) (by first | assumption | decide +kernel) (by decide +kernel) ⟨rfl, rfl, rfl, rfl, rfl, by decide +kernel⟩ ?hw ?hc
  case hw => w_witness2
  case hc =>
    refine FA.walkE (l := PySem.Challenge.rw_failsalike_k11_facts_added_and_asked) (n := 63) (k := 9) (x := "_law_script") (CX := L2.CX0) rfl (by decide) (by kernel_rfl) ⟨rfl, by decide, by decide⟩ ?F (fun _ _ _ _ z => z)
    intro w mg fa h Y G hmg0
    obtain ⟨⟨K, KX, c, kb⟩, hsys⟩ := Y
    have hmg : mg ("law" : PySem.Str) = some (.ref fa) := by
      have e : (HandSHeadRun.topDef (OpenLaw.row PySem.Challenge.rw_failsalike_k11_facts_added_and_asked).prog 19).name = ("law" : PySem.Str) := by kernel_rfl
      rw [← e]
      exact hmg0
    obtain ⟨fd, hb, hF⟩ := K11.facts (P := (PySem.Challenge.rw_failsalike_k11_facts_added_and_asked).prog) (w := w) KX G hmg c kb
    exact ⟨K, fd, K11.spLaw K, KX, hsys, hb, fun H a ns hl _ hS => ⟨a, ns, rfl, hS, hl, fun _ => rfl⟩, hF⟩
end
