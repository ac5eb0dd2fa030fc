import PyProof.Rows.All
import Wide.All
import OpenK.AllK
import Wide.FinOn
import PyProof.ReprRoads
import KE.KTupSum
import HandS.ForMost
import HandS.IsInst
import HandS.Defaults
import HandS.TupAny
import HandS.Gcd
import HandS.Property
import HandS.Small
import HandS.Flow
import HandS.SortInts
import HandS.Set
import HandS.Strs
import HandS.ClsMeth
import KE.KMathG
import HandS.Star
import PyProof.LongRange
import HandS.Codes
import HandS.DictComp
import KE.KDictKeyed
import HandS.WordsDict
import HandS.Dict
import HandS.TupLe
import HandS.DictEq
import HandS.SetBool
import HandS.SetKeys
import HandS.SetFor
import HandS.TupLen
import KE.GoesEnum
import HandS.Walk
import KE.KDictZip
import HandS.MapObj
import PyProof.TupleOfGen
import HandS.Iter
import HandS.ExcInit
import HandS.ExcIs
import HandS.ExcField
import HandS.ExcValue
import HandS.ForExc
import HandS.MakeKwOnly
import HandS.More
import HandS.Wide
import KE.KExcIs
import HandS.CallSlots
import HandS.ExcOwn
import HandS.WordsExc
import HandS.Style
import HandS.Rev
import PySem.Challenge.RW_clockfolds_k27_offsets_at_instants
set_option Elab.async false
set_option linter.all false
set_option maxRecDepth 100000
/-! Own layer over HandS: promises that hold where no repr is under way (guards = some []), repr of data, sum of a tuple. -/
namespace Cf
open PySem PySem.Spec PyProof.Rows L2

/-- as FnOk, but asked only where no repr is under way -/
structure FnG (P : Program) (w : World) (K : PySem.W.Frag) (mg : Str → Option Value) (base : Heap) (CX : CXT) (k : Nat) (f : Addr) (fd : FuncData) (ps : List Str) (sp : Sp) : Prop where
  many : ∀ vs H Q E, sp vs H Q E → vs.length = ps.length
  go : ∀ (A : Around), A.guards = some [] → ∀ (outer : List Env) (s : Shared) (H : Hp) (args : Args) (us : List Value) (vs : List V) (Q : VK) (E : XK),
    Room k A → Env0 P w K mg base A outer s H → BindsTo s fd args (ps.zip us) → Vals vs us → sp vs H Q E →
      codeAny (model P w) A (.call (.ref f) args) (CR CX outer P w H s Q E) s

section
variable {P : Program} {w : World} {K : PySem.W.Frag} {mg : Str → Option Value} {base : Heap} {CX : CXT}

theorem FnG.of {k : Nat} {f : Addr} {fd : FuncData} {ps : List Str} {sp : Sp} (F : FnOk P w K mg base CX k f fd ps sp) : FnG P w K mg base CX k f fd ps sp :=
  { many := F.len, go := fun A _ => F.run A }

/-- a def keeps its promise, its body walked where no repr is under way -/
theorem fn_g {k : Nat} {f : Addr} {name qual : Str} {params : Arguments} {body : List Stmt} {scope : Scope} {dV kV doc pm cdv ct oc : Value} {an od : Option Addr} {osl : Array (Option Value)} {N ps : List Str} {sp : Sp}
    (there : K.lookup f = some ⟨oc, od, .func (PySem.W.fnOf name qual params body scope dV kV doc pm an cdv ct), osl⟩)
    (code : PySem.W.codeIn K cdv qual = true) (sc : FnScope N ps scope) (many : ∀ vs H Q E, sp vs H Q E → vs.length = ps.length)
    (walk : ∀ (A : Around), A.guards = some [] → ∀ (outer : List Env) (s : Shared) (H : Hp) (vs : List V) (Q : VK) (E : XK),
      Room k (A.deeper (envOfC qual scope s.heap.objs.size f cdv)) → sp vs H Q E →
        ∃ t, PSs (cxOf CX P w K mg base N qual scope f cdv A outer s H E) body t ∧ t { nx := fun _ H' => Q .non H', rt := Q } (start N vs) H) :
    FnG P w K mg base CX (k + 1) f (PySem.W.fnOf name qual params body scope dV kV doc pm an cdv ct) ps sp := by
  constructor
  · exact many
  intro A gd outer s H args us vs Q E room env bind vals asked
  have n := many vs H Q E asked
  have inK : K.In s.heap := env.mod.kin.keeps fun b o h => (env.bs b o h).1
  have noLim : s.heap.NoLimit := env.mod.nolimit.keeps fun b o h => (env.bs b o h).1
  have kinds : ∀ y ∈ ps.zip us, scope.names.lookup y.1 = some .local ∨
      (scope.names.lookup y.1 = some .cell ∧ ((cellsFrom (s.heap.objs.size + 1) scope.names []).lookup y.1).isSome = true) := by
    rintro ⟨z, v⟩ hz
    have hz1 := (List.of_mem_zip hz).1
    cases sc.par z hz1 with
    | inl l => exact Or.inl l
    | inr c => exact Or.inr ⟨c, PySem.W.cellsFrom_some _ _ _ (Or.inl c)⟩
  apply codeAny_call_function room.depth (inK _ _ there) rfl sc.co sc.gen rfl (PySem.W.codeRec_of inK code)
  apply bind
  apply wpAny_newFunctionEnv_cells sc.kind kinds
  intro env' he s1 x
  cases he
  refine And.intro (noLim.keeps x.toInCall.keep) (codeAny_func ?_)
  rcases walk A gd outer s H vs Q E (room.deeper _) asked with ⟨t, ht, hq⟩
  have I0 := inv_start (CX := CX) (E := E) (f := f) (qual := qual) (cd := cdv) sc room.hd env n vals x
  apply wpAny_mono (ht.run [] s1 (start N vs) H _ I0 hq)
  · intro fl s' hs
    cases fl with
    | ret u =>
      rcases hs with ⟨v, _, H', J, rv, q⟩
      exact ⟨v, H', J.os, J.bare, J.base, J.hok, rv, q⟩
    | next =>
      rcases hs with ⟨_, H', J, q⟩
      exact ⟨V.non, H', J.os, J.bare, J.base, J.hok, rfl, q⟩
    | brk =>
      rcases hs with ⟨_, _, _, q⟩
      exact q.elim
    | cont =>
      rcases hs with ⟨_, _, _, q⟩
      exact q.elim
  · intro e s' hs
    exact hs

/-- .. of the text's def, none let out -/
theorem funG {x qual : Str} {st : Stmt} {f : Addr} {fd : FuncData} {N ps : List Str} {k : Nat} {sp : Sp} (F : Fun K x qual st f fd) (sc : FnScope N ps (defScope st))
    (many : ∀ vs H Q E, sp vs H Q E → vs.length = ps.length)
    (walk : ∀ (cdv : Value) (A : Around), A.guards = some [] → ∀ (outer : List Env) (s : Shared) (H : Hp) (vs : List V) (Q : VK) (E : XK),
      Room k (A.deeper (envOfC qual (defScope st) s.heap.objs.size f cdv)) → sp vs H Q E →
        ∃ t, PSs (cxOf CX0 P w K mg base N qual (defScope st) f cdv A outer s H E).nox (defBody st) t ∧ t { nx := fun _ H' => Q .non H', rt := Q } (start N vs) H) :
    FnG P w K mg base CX0 (k + 1) f fd ps sp := by
  rcases F.ex with ⟨_, _, _, _, _, _, cdv, _, _, rfl, there, code⟩
  exact fn_g there code sc many fun A gd outer s H vs Q E room asked =>
    let ⟨t, h, q⟩ := walk cdv A gd outer s H vs Q E room asked
    ⟨t, h.nox, q⟩
end

section
variable {X : Cx} {CX : CXT} {k : Nat} {f : Addr} {fd : FuncData} {ps : List Str} {sp : Sp} {dvs : List V} {ds : List Value} {E : XK} {x : Str} {p pos : Pos} {e : Expr} {es : List Expr} {t : TA}
theorem goG {pins : List (Addr × Obj)} {σ : L2.St} {H : Hp} {s : Shared} {Q : VK} {us : List Value} {vs : List V} (F : FnG X.prog X.w X.K X.mg X.base CX k f fd ps sp) (gd : X.A.guards = some []) (room : Room k X.A)
    (hb : Binds X.K fd ps ds) (hd : Vals dvs ds) (out : Passes CX X E) (I : Inv X pins σ H s) (r : Vals vs us) (asked : sp (vs ++ dvs) H Q E) :
    wpAny (model X.prog X.w) X.A (call (.ref f) us) (EP X pins σ Q) X.xe s := by
  have rr : Vals (vs ++ dvs) (us ++ ds) := r.append hd
  have ll : (us ++ ds).length = ps.length := rr.length.symm.trans (F.many _ _ _ _ asked)
  apply wpAny_call
  refine codeAny_mono (F.go X.A gd X.stack s H ⟨us, []⟩ (us ++ ds) (vs ++ dvs) Q E room I.env0 (hb s us I.kIn ll) rr asked) ?_
  intro res s' got
  match res, got with
  | .error e, got => exact out pins σ H s e s' I got
  | .ok (.ret u), got => exact I.after got
  | .ok .next, got => exact got.elim
  | .ok .brk, got => exact got.elim
  | .ok .cont, got => exact got.elim
/-- f(e, ..), f a def of the program that may show containers -/
theorem pe_callG (F : FnG X.prog X.w X.K X.mg X.base CX k f fd ps sp) (gd : X.A.guards = some []) (room : Room k X.A) (hg : Gl X x) (hm : X.mg x = some (.ref f)) (hk : PySem.W.keepIn X.K (.ref f) = true)
    (hb : Binds X.K fd ps ds) (hd : Vals dvs ds) (out : Passes CX X E) (args : PA X (e :: es) t) (hdb : (x == ("__debug__" : Str)) = false := by decide)
    (he : starEach (e :: es) X.env = (false, eval e X.env) :: starEach es X.env := by rfl) (hpl : (backTo pos (starEach es X.env)).any (·.1) = false := by rfl) :
    PE X (.Call (.Name x p) (e :: es) [] pos) (tCall sp dvs E t) := by
  constructor
  intro pins s σ H Q I h
  apply wpAny_Call_Name_kw (ld_glob I hg hm ?_ hdb)
  apply PySem.W.callWith_K (h₀ := X.base) I.ok.mod.kin hk _ he hpl
  apply thn (args.run pos pins s σ H _ I h)
  rintro us s1 ⟨vs, H1, I1, r, q⟩
  exact ⟨I1.kIn, goG F gd room hb hd out I1 r q⟩
end

/-! ### repr -/
/-- data as they lie in the heap: as Dp of the hand layer, and dicts of ints -/
theorem call_reprD {X : Cx} (gd : X.A.guards = some []) (hu : X.A.units + 64 < cLine) : CallR X (.builtin "repr") (fun xs H Q => ∃ (a : Addr) (d : PyData), xs = [.ref a] ∧ Dp X.K H (.ref a) d ∧ d.showable = true ∧ d.hasDict = false ∧ d.depth ≤ 60 ∧ d.shown.length ≤ sizeLine ∧ Q (.str d.shown) H) := by
  intro pins s σ H xs us Q I r h
  obtain ⟨a, d, rfl, hd, sh, nd, dd, sz, q⟩ := h
  obtain ⟨u, rfl, ru⟩ : ∃ u, us = [u] ∧ RelV (.ref a) u := by
    cases r with
    | cons r1 r2 => cases r2; exact ⟨_, rfl, r1⟩
  cases ru
  obtain ⟨as, rd⟩ := Dp.reads I d _ _ hd rfl
  refine repr_of_reads' rd sh (fun z => by rw [nd] at z; cases z) gd (by omega) (fun _ _ e => e) (fun h' u tk k => ?_) sz
  exact ⟨.str _, H, I.kept k, ⟨_, rfl⟩, q⟩
theorem call_repr_bl {X : Cx} : CallR X (.builtin "repr") (fun xs H Q => ∃ b, xs = [.bl b] ∧ Q (.str (if b then "True" else "False")) H) := by
  intro pins s σ H xs us Q I r h
  obtain ⟨b, rfl, q⟩ := h
  obtain ⟨u, rfl, ru⟩ : ∃ u, us = [u] ∧ RelV (.bl b) u := by
    cases r with
    | cons r1 r2 => cases r2; exact ⟨_, rfl, r1⟩
  cases ru
  exact PySem.P.repr_of_bool ⟨.str _, H, I.tok _, ⟨_, rfl⟩, q⟩
theorem call_repr_i {X : Cx} : CallR X (.builtin "repr") (fun xs H Q => ∃ i, xs = [.int i] ∧ i.natAbs.log2 < 1920 ∧ Q (.str (toString i)) H) := by
  intro pins s σ H xs us Q I r h
  obtain ⟨i, rfl, hz, q⟩ := h
  obtain ⟨u, rfl, t, rfl⟩ := vals1 r
  exact PySem.P.repr_of_int hz ⟨.str _, H, I.tok _, ⟨_, rfl⟩, q⟩
/-! ### sum of a tuple of ints -/
def rSumT (K : PySem.W.Frag) : List V → Hp → VK → Prop := fun vs H Q => ∃ (a : Addr) (ns : List Int), vs = [V.ref a] ∧ SqT K H a (ns.map V.int) ∧ Q (.int ns.sum) H
theorem cr_sumT {X : Cx} (hc : X.calm = true) : CallR X (.builtin "sum") (rSumT X.K) := by
  intro pins s σ H vs us Q I r h
  obtain ⟨a, ns, rfl, hs, q⟩ := h
  obtain ⟨its, rv, hl, _⟩ := I.tuple hs
  rw [Vals.ref1 r]
  have hi := rv.ints
  obtain ⟨xs, e⟩ := hi.allInts.items
  have hn : numsOf (intItems xs).toList = ns := by rw [← e]; exact hi.numsOf
  rw [nums_intItems] at hn
  have hl' : s.heap.IsTuple a its.toArray := hl
  rw [e] at hl'
  refine PySem.W.ktm_sumG (I.ok.hd hc) hl' fun h' tk t' hk => ?_
  have e2 : PySem.preSum (numAt xs) xs.size = ns.sum := by
    rw [preSum_eq, List.take_of_length_le (by simp), hn]
  rw [e2]
  exact ⟨.int _, H, I.kept hk, ⟨_, rfl⟩, q⟩
/-! ### a def of the program as its callers see it -/
structure Df (P : Program) (w : World) (K : PySem.W.Frag) (mg : Str → Option Value) (base : Heap) (k : Nat) (x : Str) (ps : List Str) (dvs : List V) (sp : Sp) : Prop where
  ex : ∃ (f : Addr) (fd : FuncData) (ds : List Value), FnOk P w K mg base CX0 k f fd ps sp ∧ mg x = some (.ref f) ∧ PySem.W.keepIn K (.ref f) = true ∧ Vals dvs ds ∧ Binds K fd ps ds
structure Dg (P : Program) (w : World) (K : PySem.W.Frag) (mg : Str → Option Value) (base : Heap) (k : Nat) (x : Str) (ps : List Str) (dvs : List V) (sp : Sp) : Prop where
  ex : ∃ (f : Addr) (fd : FuncData) (ds : List Value), FnG P w K mg base CX0 k f fd ps sp ∧ mg x = some (.ref f) ∧ PySem.W.keepIn K (.ref f) = true ∧ Vals dvs ds ∧ Binds K fd ps ds
/-- called by names alone, ks in the text's order -/
structure Dk (P : Program) (w : World) (K : PySem.W.Frag) (mg : Str → Option Value) (base : Heap) (k : Nat) (x : Str) (ps ks : List Str) (gV : List V → List V) (sp : Sp) : Prop where
  ex : ∃ (f : Addr) (fd : FuncData) (g : List Value → List Value), FnOk P w K mg base CX0 k f fd ps sp ∧ mg x = some (.ref f) ∧ PySem.W.keepIn K (.ref f) = true ∧
    (∀ {vs : List V} {us : List Value}, Vals vs us → Vals (gV vs) (g us)) ∧
    ∀ (s : Shared) (ws : List Value), K.In s.heap → ws.length = ks.length → BindsTo s fd ⟨[], ks.zip ws⟩ (ps.zip (g ws))
def tCallN0 (n : Nat) (sp : Sp) (gV : List V → List V) (tk : TA) : TE := fun σ H Q => tk σ H fun zs H2 => zs.length = n ∧ sp (gV zs) H2 Q E0
section
variable {X : Cx} {k : Nat} {x : Str} {ps ks : List Str} {sp : Sp} {dvs : List V} {p pos : Pos} {e : Expr} {es : List Expr} {t tk : TA} {kws : List Keyword} {gV : List V → List V}
theorem pe_df (D : Df X.prog X.w X.K X.mg X.base k x ps dvs sp) (hr : Room k X.A) (ha : PA X (e :: es) t) (hg : Gl X x := by rfl) (hdb : (x == ("__debug__" : Str)) = false := by decide)
    (he : starEach (e :: es) X.env = (false, eval e X.env) :: starEach es X.env := by rfl) (hpl : (backTo pos (starEach es X.env)).any (·.1) = false := by rfl) :
    PE X (.Call (.Name x p) (e :: es) [] pos) (tCall sp dvs E0 t) := by
  obtain ⟨f, fd, ds, F, m, kp, hv, b⟩ := D.ex
  exact pe_call F hr hg m kp b hv pass0 ha hdb he hpl
theorem pe_dg (D : Dg X.prog X.w X.K X.mg X.base k x ps dvs sp) (gd : X.A.guards = some []) (hr : Room k X.A) (ha : PA X (e :: es) t) (hg : Gl X x := by rfl) (hdb : (x == ("__debug__" : Str)) = false := by decide)
    (he : starEach (e :: es) X.env = (false, eval e X.env) :: starEach es X.env := by rfl) (hpl : (backTo pos (starEach es X.env)).any (·.1) = false := by rfl) :
    PE X (.Call (.Name x p) (e :: es) [] pos) (tCall sp dvs E0 t) := by
  obtain ⟨f, fd, ds, F, m, kp, hv, b⟩ := D.ex
  exact pe_callG F gd hr hg m kp b hv pass0 ha hdb he hpl
theorem pe_dk (D : Dk X.prog X.w X.K X.mg X.base k x ps ks gV sp) (hr : Room k X.A) (hkw : PK X kws tk) (hg : Gl X x := by rfl)
    (hall : (backToKw pos (keywordEach kws X.env)).all (·.1.isSome) = true := by rfl) (hks : (backToKw pos (keywordEach kws X.env)).filterMap (·.1) = ks := by rfl) (hdb : (x == ("__debug__" : Str)) = false := by decide)
    (hpl : ((backTo pos (starEach [] X.env)).any (·.1) || (backToKw pos (keywordEach kws X.env)).any (·.1.isNone)) = false := by rfl) :
    PE X (.Call (.Name x p) [] kws pos) (tCallN0 ks.length sp gV tk) := by
  obtain ⟨f, fd, g, F, m, kp, rel, b⟩ := D.ex
  constructor
  intro pins s σ H Q I h
  apply wpAny_Call_Name_kw (ld_glob I hg m ?_ hdb)
  apply PySem.W.callWith_KW0 (h₀ := X.base) I.ok.mod.kin kp hall ?_ hpl
  apply thn (hkw.run pos pins s σ H _ I h)
  rintro ws s2 ⟨zs, H2, I2, rz, ln, asked⟩
  refine ⟨I2.kIn, ?_⟩
  rw [hks]
  have ll : ws.length = ks.length := rz.length.symm.trans ln
  have rr := rel rz
  apply wpAny_call
  refine codeAny_mono (F.run X.A X.stack s2 H2 ⟨[], ks.zip ws⟩ (g ws) (gV zs) Q E0 hr I2.env0 (b s2 ws I2.kIn ll) rr asked) ?_
  intro res s' got
  match res, got with
  | .error e, got => exact (got : False).elim
  | .ok (.ret u), got => exact I2.after got
  | .ok .next, got => exact got.elim
  | .ok .brk, got => exact got.elim
  | .ok .cont, got => exact got.elim
end
/-! ### small things -/
theorem _root_.L2.Same.sqt {K : PySem.W.Frag} {H H' : Hp} {a : Addr} {xs : List V} (e : Same H H') (h : SqT K H a xs) : SqT K H' a xs := by
  rcases h with (h | ⟨o, h⟩) | h
  · exact .inl (.inl (e _ _ h))
  · exact .inl (.inr ⟨o, e _ _ h⟩)
  · exact .inr h
theorem _root_.L2.Same.new {H : Hp} {p : Addr} {o : HO} (h : H p = none) : Same H (upd H p o) := fun b u e => by rw [upd_ne (ne_of_none e h)]; exact e
theorem _root_.L2.Same.step {H0 H : Hp} {p : Addr} {o : HO} (s : Same H0 H) (h : H p = none) : Same H0 (upd H p o) := s.trans (Same.new h)
theorem _root_.L2.Same.wr {H0 H : Hp} {p : Addr} {o : HO} (s : Same H0 H) (h : H0 p = none) : Same H0 (upd H p o) := fun b u e => by rw [upd_ne (ne_of_none e h)]; exact s b u e
/-- all but the objects at p and q is as it was -/
def But (p q : Addr) (H H' : Hp) : Prop := ∀ b o, H b = some o → b ≠ p → b ≠ q → H' b = some o
theorem But.refl {p q : Addr} {H : Hp} : But p q H H := fun _ _ h _ _ => h
theorem But.trans {p q : Addr} {H H1 H2 : Hp} (a : But p q H H1) (b : But p q H1 H2) : But p q H H2 := fun c o h h1 h2 => b c o (a c o h h1 h2) h1 h2
theorem But.of {p q : Addr} {H H' : Hp} (a : Same H H') : But p q H H' := fun c o h _ _ => a c o h
theorem _root_.L2.Same.but {p q : Addr} {H0 H H' : Hp} (a : Same H0 H) (b : But p q H H') (hp : H0 p = none) (hq : H0 q = none) : Same H0 H' := fun c o h => b c o (a c o h) (ne_of_none h hp) (ne_of_none h hq)
theorem ints_get {ns : List Int} {i : Nat} {y : V} (h : (ns.map V.int)[i]? = some y) : ∃ z, ns[i]? = some z ∧ y = V.int z := by
  rw [List.getElem?_map] at h
  cases e : ns[i]? with
  | none => rw [e] at h; cases h
  | some z => rw [e] at h; exact ⟨z, rfl, (Option.some.inj h).symm⟩
theorem lt_of_get {α : Type} {l : List α} {i : Nat} {y : α} (h : l[i]? = some y) : i < l.length := (List.getElem?_eq_some_iff.mp h).1
theorem iteFF {A B : Prop} {b : Bool} (e : b = false) (h : B) : if b = true then A else B := by subst e; exact iteF h
theorem iteTT {A B : Prop} {b : Bool} (e : b = true) (h : A) : if b = true then A else B := by subst e; exact iteT h
end Cf
/-! The mathematics of the calendar, plain. -/
namespace Cf
def leapB (y : Int) : Bool := decide (y % 4 = 0) && (decide (y % 100 ≠ 0) || decide (y % 400 = 0))
def lyb (y : Int) : Int := (y - 1) / 4 - (y - 1) / 100 + (y - 1) / 400
def ysOf (y : Int) : Int := 365 * (y - 2000) + lyb y - lyb 2000
theorem leapB_iff (y : Int) : leapB y = true ↔ (y % 4 = 0 ∧ (y % 100 ≠ 0 ∨ y % 400 = 0)) := by
  unfold leapB
  simp only [Bool.and_eq_true, Bool.or_eq_true, decide_eq_true_eq]
def leapI (y : Int) : Int := if leapB y = true then 1 else 0
theorem ys_succ (y : Int) : ysOf (y + 1) = ysOf y + 365 + leapI y := by
  unfold ysOf lyb leapI
  have := leapB_iff y
  by_cases h : leapB y = true
  · rw [if_pos h]
    have h2 := this.mp h
    omega
  · rw [if_neg h]
    have h2 : ¬ (y % 4 = 0 ∧ (y % 100 ≠ 0 ∨ y % 400 = 0)) := fun z => h (this.mpr z)
    omega
theorem leapI_01 (y : Int) : leapI y = 0 ∨ leapI y = 1 := by
  unfold leapI
  by_cases h : leapB y = true
  · rw [if_pos h]; exact Or.inr rfl
  · rw [if_neg h]; exact Or.inl rfl
theorem ys_step (y : Int) : ysOf y + 365 ≤ ysOf (y + 1) ∧ ysOf (y + 1) ≤ ysOf y + 366 := by
  have := ys_succ y
  have := leapI_01 y
  omega
theorem ys_mono_nat (y : Int) : ∀ n : Nat, ysOf y + 365 * (n : Int) ≤ ysOf (y + n)
  | 0 => by simp
  | n + 1 => by
    have h1 := ys_mono_nat y n
    have h2 := (ys_step (y + n)).1
    have e : y + ((n + 1 : Nat) : Int) = y + (n : Int) + 1 := by omega
    rw [e]
    omega
theorem ys_lt {y z : Int} (h : y < z) : ysOf y < ysOf z := by
  have h1 := ys_mono_nat y (z - y).toNat
  have e : y + ((z - y).toNat : Int) = z := by omega
  rw [e] at h1
  omega
theorem ys_le {y z : Int} (h : y ≤ z) : ysOf y ≤ ysOf z := by
  by_cases e : y = z
  · rw [e]; exact Int.le_refl _
  · exact Int.le_of_lt (ys_lt (by omega))
theorem ys_le_iff {y z : Int} (h : ysOf y < ysOf (z + 1)) : y ≤ z := by
  by_cases q : y ≤ z
  · exact q
  · have := ys_le (y := z + 1) (z := y) (by omega)
    omega
/-- the law's own first day of a year -/
def lawNY (y : Int) : Int := 365 * (y - 2000) + (y - 2000 + 3) / 4 - (y - 2000 + 99) / 100 + (y - 2000 + 399) / 400
theorem lawNY_eq (y : Int) : lawNY y = ysOf y := by
  unfold lawNY ysOf lyb
  omega
/-- the first try of year_of is never too late -/
theorem first_try {d y : Int} (h1 : ysOf y ≤ d) (h2 : d < ysOf (y + 1)) : 2000 + 400 * (d / 146097) + (d % 146097) / 366 ≤ y := by
  refine ys_le_iff (z := y) ?_
  have : ysOf (2000 + 400 * (d / 146097) + (d % 146097) / 366) ≤ d := by
    unfold ysOf lyb
    omega
  omega
def ml (m : Int) : Int := match m with
  | 1 => 31 | 2 => 28 | 3 => 31 | 4 => 30 | 5 => 31 | 6 => 30 | 7 => 31 | 8 => 31 | 9 => 30 | 10 => 31 | 11 => 30 | 12 => 31 | _ => 0
def mlen (m : Int) (l : Bool) : Int := if m = 2 ∧ l = true then 29 else ml m
def MLs : List Int := [31, 28, 31, 30, 31, 30, 31, 31, 30, 31, 30, 31]
def mst (m : Int) (l : Bool) : Int := (MLs.take (m - 1).toNat).sum + (if l = true ∧ 2 < m then 1 else 0)
theorem m12 {m : Int} (h1 : 1 ≤ m) (h2 : m ≤ 12) : m = 1 ∨ m = 2 ∨ m = 3 ∨ m = 4 ∨ m = 5 ∨ m = 6 ∨ m = 7 ∨ m = 8 ∨ m = 9 ∨ m = 10 ∨ m = 11 ∨ m = 12 := by omega
theorem mst_succ {m : Int} (h1 : 1 ≤ m) (h2 : m ≤ 12) (l : Bool) : mst (m + 1) l = mst m l + mlen m l := by
  rcases m12 h1 h2 with rfl | rfl | rfl | rfl | rfl | rfl | rfl | rfl | rfl | rfl | rfl | rfl <;> cases l <;> decide
theorem mst_1 (l : Bool) : mst 1 l = 0 := by cases l <;> decide
theorem mst_13 (l : Bool) : mst 13 l = 365 + (if l = true then 1 else 0) := by cases l <;> decide
theorem mlen_bd {m : Int} (h1 : 1 ≤ m) (h2 : m ≤ 12) (l : Bool) : 28 ≤ mlen m l ∧ mlen m l ≤ 31 := by
  rcases m12 h1 h2 with rfl | rfl | rfl | rfl | rfl | rfl | rfl | rfl | rfl | rfl | rfl | rfl <;> cases l <;> decide
theorem mst_bd {m : Int} (h1 : 1 ≤ m) (h2 : m ≤ 13) (l : Bool) : 0 ≤ mst m l ∧ mst m l ≤ 366 := by
  have : m = 13 ∨ m ≤ 12 := by omega
  rcases this with rfl | h
  · cases l <;> decide
  · rcases m12 h1 h with rfl | rfl | rfl | rfl | rfl | rfl | rfl | rfl | rfl | rfl | rfl | rfl <;> cases l <;> decide
theorem mst_mono_nat (l : Bool) (m : Int) (h1 : 1 ≤ m) : ∀ n : Nat, m + n ≤ 13 → mst m l + 28 * (n : Int) ≤ mst (m + n) l
  | 0, _ => by simp
  | n + 1, h => by
    have h3 := mst_mono_nat l m h1 n (by omega)
    have h4 := mst_succ (m := m + n) (by omega) (by omega) l
    have h5 := mlen_bd (m := m + n) (by omega) (by omega) l
    have e : m + ((n + 1 : Nat) : Int) = m + (n : Int) + 1 := by omega
    rw [e, h4]
    omega
theorem mst_le {a b : Int} (h1 : 1 ≤ a) (h : a ≤ b) (h2 : b ≤ 13) (l : Bool) : mst a l ≤ mst b l := by
  have h3 := mst_mono_nat l a h1 (b - a).toNat (by omega)
  have e : a + ((b - a).toNat : Int) = b := by omega
  rw [e] at h3
  omega
/-- a date that exists -/
structure IsDate (y m d : Int) : Prop where
  m1 : 1 ≤ m
  m2 : m ≤ 12
  d1 : 1 ≤ d
  d2 : d ≤ mlen m (leapB y)
def dayOf (y m d : Int) : Int := ysOf y + mst m (leapB y) + d - 1
theorem IsDate.year {y m d : Int} (D : IsDate y m d) : ysOf y ≤ dayOf y m d ∧ dayOf y m d < ysOf (y + 1) := by
  have h1 := mst_bd D.m1 (by have := D.m2; omega) (leapB y)
  have h2 := mst_succ D.m1 D.m2 (leapB y)
  have h3 := mst_le (a := m + 1) (b := 13) (by have := D.m1; omega) (by have := D.m2; omega) (by omega) (leapB y)
  have h4 := mst_13 (leapB y)
  have h5 := ys_succ y
  have h6 : leapI y = (if leapB y = true then 1 else 0) := rfl
  have := D.d1
  have := D.d2
  unfold dayOf
  omega
theorem IsDate.month {y m d : Int} (D : IsDate y m d) : mst m (leapB y) ≤ dayOf y m d - ysOf y ∧ dayOf y m d - ysOf y < mst (m + 1) (leapB y) := by
  have h2 := mst_succ D.m1 D.m2 (leapB y)
  have := D.d1
  have := D.d2
  unfold dayOf
  omega
theorem dayOf_first (y m : Int) : dayOf y m 1 = ysOf y + mst m (leapB y) := by unfold dayOf; omega
theorem ys_as_day (y : Int) : ysOf y = dayOf y 1 1 := by rw [dayOf_first, mst_1]; omega
theorem ys_last (y : Int) : ysOf (y + 1) - 1 = dayOf y 12 31 := by
  have h5 := ys_succ y
  have h6 : leapI y = (if leapB y = true then 1 else 0) := rfl
  have h4 := mst_13 (leapB y)
  have h2 := mst_succ (m := 12) (by omega) (by omega) (leapB y)
  have h3 : mlen 12 (leapB y) = 31 := by cases leapB y <;> decide
  unfold dayOf
  have e : (12 : Int) + 1 = 13 := by omega
  rw [e] at h2
  omega
/-- the law's leap year -/
def isLong (y : Int) : Bool := decide (y % 400 = 0) || (decide (y % 4 = 0) && decide (y % 100 ≠ 0))
theorem isLong_eq (y : Int) : isLong y = leapB y := by
  have h1 := leapB_iff y
  have h2 : isLong y = true ↔ (y % 400 = 0 ∨ (y % 4 = 0 ∧ y % 100 ≠ 0)) := by
    unfold isLong
    simp only [Bool.and_eq_true, Bool.or_eq_true, decide_eq_true_eq]
  have h3 : isLong y = true ↔ leapB y = true := by rw [h1, h2]; omega
  cases a : isLong y <;> cases b : leapB y <;> simp_all
def lawSizes (l : Bool) : List Int := [31, if l = true then 29 else 28, 31, 30, 31, 30, 31, 31, 30, 31, 30, 31]
theorem lawSizes_get {m : Int} (h1 : 1 ≤ m) (h2 : m ≤ 12) (l : Bool) : (lawSizes l)[(m - 1).toNat]? = some (mlen m l) := by
  rcases m12 h1 h2 with rfl | rfl | rfl | rfl | rfl | rfl | rfl | rfl | rfl | rfl | rfl | rfl <;> cases l <;> decide
theorem MLs_get {m : Int} (h1 : 1 ≤ m) (h2 : m ≤ 12) : MLs[(m - 1).toNat]? = some (ml m) := by
  rcases m12 h1 h2 with rfl | rfl | rfl | rfl | rfl | rfl | rfl | rfl | rfl | rfl | rfl | rfl <;> decide
/-- the law's first day of a month -/
theorem lawMonth_eq {y m : Int} (h1 : 1 ≤ m) (h2 : m ≤ 12) :
    lawNY y + (([31, 28 + (lawNY (y + 1) - lawNY y - 365), 31, 30, 31, 30, 31, 31, 30, 31, 30, 31] : List Int).take (m - 1).toNat).sum = ysOf y + mst m (leapB y) := by
  rw [lawNY_eq, lawNY_eq]
  have e : ysOf (y + 1) - ysOf y - 365 = leapI y := by have := ys_succ y; omega
  rw [e]
  have h6 : leapI y = (if leapB y = true then 1 else 0) := rfl
  rw [h6]
  rcases m12 h1 h2 with rfl | rfl | rfl | rfl | rfl | rfl | rfl | rfl | rfl | rfl | rfl | rfl <;> cases leapB y <;> simp [mst, MLs] <;> omega
theorem prev_month {m : Int} (h1 : 2 ≤ m) (h2 : m ≤ 12) : (m + 10) % 12 + 1 = m - 1 := by omega
/-- bounds -/
theorem ys_bd {y B : Int} (h1 : -B ≤ y) (h2 : y ≤ B) (hB : 10000 ≤ B) : -(800 * B) ≤ ysOf y ∧ ysOf y ≤ 800 * B := by
  unfold ysOf lyb
  omega
end Cf
/-! Sets of days that repeat from some day on: the mathematics. -/
namespace Cf
abbrev Asc (l : List Int) : Prop := l.Pairwise (· < ·)
def seg (lo hi : Int) : List Int := (List.range (hi - lo).toNat).map fun (i : Nat) => lo + (i : Int)
def els (S : Int → Bool) (lo hi : Int) : List Int := (seg lo hi).filter S
theorem mem_seg {lo hi d : Int} : d ∈ seg lo hi ↔ lo ≤ d ∧ d < hi := by
  unfold seg
  rw [List.mem_map]
  constructor
  · rintro ⟨i, hi, rfl⟩
    rw [List.mem_range] at hi
    omega
  · intro h
    exact ⟨(d - lo).toNat, by rw [List.mem_range]; omega, by omega⟩
theorem asc_seg (lo hi : Int) : Asc (seg lo hi) := by
  unfold seg Asc
  rw [List.pairwise_map]
  exact List.Pairwise.imp (fun h => by omega) List.pairwise_lt_range
theorem mem_els {S : Int → Bool} {lo hi d : Int} : d ∈ els S lo hi ↔ (lo ≤ d ∧ d < hi) ∧ S d = true := by
  unfold els
  rw [List.mem_filter, mem_seg]
theorem asc_els (S : Int → Bool) (lo hi : Int) : Asc (els S lo hi) := List.Pairwise.filter _ (asc_seg lo hi)
theorem asc_ext : ∀ {a b : List Int}, Asc a → Asc b → (∀ d, d ∈ a ↔ d ∈ b) → a = b
  | [], [], _, _, _ => rfl
  | [], y :: b, _, _, h => absurd ((h y).mpr List.mem_cons_self) (by simp)
  | x :: a, [], _, _, h => absurd ((h x).mp List.mem_cons_self) (by simp)
  | x :: a, y :: b, ha, hb, h => by
    rw [Asc, List.pairwise_cons] at ha hb
    have e : x = y := by
      rcases List.mem_cons.mp ((h x).mp List.mem_cons_self) with e | m
      · exact e
      · rcases List.mem_cons.mp ((h y).mpr List.mem_cons_self) with e | m2
        · exact e.symm
        · have := hb.1 x m
          have := ha.1 y m2
          omega
    subst e
    congr 1
    refine asc_ext ha.2 hb.2 fun d => ?_
    constructor
    · intro m
      rcases List.mem_cons.mp ((h d).mp (List.mem_cons_of_mem _ m)) with e | m2
      · subst e; exact absurd (ha.1 d m) (Int.lt_irrefl d)
      · exact m2
    · intro m
      rcases List.mem_cons.mp ((h d).mpr (List.mem_cons_of_mem _ m)) with e | m2
      · subst e; exact absurd (hb.1 d m) (Int.lt_irrefl d)
      · exact m2
theorem asc_append {a b : List Int} (ha : Asc a) (hb : Asc b) (h : ∀ x ∈ a, ∀ y ∈ b, x < y) : Asc (a ++ b) := List.pairwise_append.mpr ⟨ha, hb, h⟩
theorem els_cut (S : Int → Bool) {lo m hi : Int} (h1 : lo ≤ m) (h2 : m ≤ hi) : els S lo hi = els S lo m ++ els S m hi := by
  refine asc_ext (asc_els _ _ _) (asc_append (asc_els _ _ _) (asc_els _ _ _) fun x hx y hy => ?_) fun d => ?_
  · rw [mem_els] at hx hy
    omega
  · rw [List.mem_append, mem_els, mem_els, mem_els]
    constructor
    · intro h
      by_cases c : d < m
      · exact .inl ⟨⟨h.1.1, c⟩, h.2⟩
      · exact .inr ⟨⟨by omega, h.1.2⟩, h.2⟩
    · rintro (h | h)
      · exact ⟨⟨h.1.1, by omega⟩, h.2⟩
      · exact ⟨⟨by omega, h.1.2⟩, h.2⟩
theorem els_congr {S T : Int → Bool} {lo hi : Int} (h : ∀ d, lo ≤ d → d < hi → S d = T d) : els S lo hi = els T lo hi := by
  refine asc_ext (asc_els _ _ _) (asc_els _ _ _) fun d => ?_
  rw [mem_els, mem_els]
  constructor
  · intro g; exact ⟨g.1, by rw [← h d g.1.1 g.1.2]; exact g.2⟩
  · intro g; exact ⟨g.1, by rw [h d g.1.1 g.1.2]; exact g.2⟩
theorem asc_map_add {l : List Int} (k : Int) (h : Asc l) : Asc (l.map (· + k)) := by
  unfold Asc
  rw [List.pairwise_map]
  exact h.imp fun h => by omega
theorem els_shift (S : Int → Bool) (lo hi k : Int) : els S (lo + k) (hi + k) = (els (fun d => S (d + k)) lo hi).map (· + k) := by
  refine asc_ext (asc_els _ _ _) (asc_map_add k (asc_els _ _ _)) fun d => ?_
  rw [mem_els, List.mem_map]
  constructor
  · intro g
    refine ⟨d - k, mem_els.mpr ⟨by omega, ?_⟩, by omega⟩
    show S (d - k + k) = true
    rw [Int.sub_add_cancel]
    exact g.2
  · rintro ⟨e, he, rfl⟩
    rw [mem_els] at he
    exact ⟨by omega, he.2⟩
theorem seg_length (lo hi : Int) : (seg lo hi).length = (hi - lo).toNat := by simp [seg]
theorem els_length_le (S : Int → Bool) (lo hi : Int) : (els S lo hi).length ≤ (hi - lo).toNat := by
  have h := List.length_filter_le S (seg lo hi)
  rw [seg_length] at h
  exact h
theorem els_nil (S : Int → Bool) {lo hi : Int} (h : hi ≤ lo) : els S lo hi = [] := by
  have := els_length_le S lo hi
  exact List.eq_nil_of_length_eq_zero (by omega)
/-! ### ascending lists by places -/
theorem asc_lt {l : List Int} (h : Asc l) {i j : Nat} (hij : i < j) (hj : j < l.length) : l.getD i 0 < l.getD j 0 := by
  have hi : i < l.length := by omega
  rw [List.getD_eq_getElem?_getD, List.getD_eq_getElem?_getD, List.getElem?_eq_getElem hi, List.getElem?_eq_getElem hj]
  exact (List.pairwise_iff_getElem.mp h) i j hi hj hij
theorem asc_le {l : List Int} (h : Asc l) {i j : Nat} (hij : i ≤ j) (hj : j < l.length) : l.getD i 0 ≤ l.getD j 0 := by
  rcases Nat.lt_or_ge i j with c | c
  · exact Int.le_of_lt (asc_lt h c hj)
  · have : i = j := by omega
    subst this
    exact Int.le_refl _
theorem getD_mem {l : List Int} {i : Nat} (h : i < l.length) : l.getD i 0 ∈ l := by
  rw [List.getD_eq_getElem?_getD, List.getElem?_eq_getElem h]
  exact List.getElem_mem h
theorem mem_getD {l : List Int} {d : Int} (h : d ∈ l) : ∃ i, i < l.length ∧ l.getD i 0 = d := by
  obtain ⟨i, hi, e⟩ := List.getElem_of_mem h
  exact ⟨i, hi, by rw [List.getD_eq_getElem?_getD, List.getElem?_eq_getElem hi]; exact e⟩
theorem getD_drop (l : List Int) (m i : Nat) : (l.drop m).getD i 0 = l.getD (m + i) 0 := by
  rw [List.getD_eq_getElem?_getD, List.getD_eq_getElem?_getD, List.getElem?_drop]
theorem getD_take {l : List Int} {m i : Nat} (h : i < m) : (l.take m).getD i 0 = l.getD i 0 := by
  rw [List.getD_eq_getElem?_getD, List.getD_eq_getElem?_getD, List.getElem?_take, if_pos h]
theorem getD_map {l : List Int} {i : Nat} (f : Int → Int) (h : i < l.length) : (l.map f).getD i 0 = f (l.getD i 0) := by
  rw [List.getD_eq_getElem?_getD, List.getD_eq_getElem?_getD, List.getElem?_map, List.getElem?_eq_getElem h]
  rfl
/-! ### frames -/
structure Fr (S : Int → Bool) (s p : Int) : Prop where
  s0 : 0 ≤ s
  p1 : 1 ≤ p
  per : ∀ d, s ≤ d → S (d + p) = S d
theorem Fr.mul {S : Int → Bool} {s p : Int} (F : Fr S s p) : ∀ (k : Nat) (d : Int), s ≤ d → S (d + k * p) = S d
  | 0, d, h => by rw [show d + ((0 : Nat) : Int) * p = d by simp]
  | k + 1, d, h => by
    have e : d + ((k + 1 : Nat) : Int) * p = (d + k * p) + p := by
      rw [show ((k + 1 : Nat) : Int) = (k : Int) + 1 by omega, Int.add_mul]
      omega
    have : 0 ≤ (k : Int) * p := Int.mul_nonneg (by omega) (by have := F.p1; omega)
    rw [e, F.per _ (by omega)]
    exact F.mul k d h
/-- the day of the first period that a day repeats -/
theorem Fr.mod {S : Int → Bool} {s p : Int} (F : Fr S s p) {d : Int} (h : s ≤ d) : S (s + (d - s) % p) = S d := by
  have p1 := F.p1
  have h1 := Int.emod_nonneg (d - s) (show p ≠ 0 by omega)
  have h3 : 0 ≤ (d - s) / p := Int.ediv_nonneg (by omega) (by omega)
  have h2 := Int.mul_ediv_add_emod (d - s) p
  have e : d = (s + (d - s) % p) + (((d - s) / p).toNat : Int) * p := by
    rw [show (((d - s) / p).toNat : Int) = (d - s) / p by omega, Int.mul_comm ((d - s) / p) p]
    omega
  conv => rhs; rw [e]
  exact (F.mul _ _ (by omega)).symm
theorem Fr.later {S : Int → Bool} {s s' p : Int} (F : Fr S s p) (h : s ≤ s') : Fr S s' p := ⟨by have := F.s0; omega, F.p1, fun d hd => F.per d (by omega)⟩
theorem Fr.times {S : Int → Bool} {s p : Int} (F : Fr S s p) {k : Nat} (h : 1 ≤ k) : Fr S s (k * p) := by
  refine ⟨F.s0, ?_, fun d hd => F.mul k d hd⟩
  have := F.p1
  have h2 : (1 : Int) * 1 ≤ (k : Int) * p := Int.mul_le_mul (by omega) this (by omega) (by omega)
  omega
/-- a period from anywhere on is one from s on -/
theorem Fr.also {S : Int → Bool} {s p s' p' : Int} (F : Fr S s p) (G : Fr S s' p') : Fr S s p' := by
  refine ⟨F.s0, G.p1, fun d hd => ?_⟩
  have hp := F.p1
  have hs := G.s0
  have big : s' ≤ d + (s'.toNat : Int) * p := by
    have : (s'.toNat : Int) * 1 ≤ (s'.toNat : Int) * p := Int.mul_le_mul_of_nonneg_left hp (by omega)
    have := F.s0
    omega
  have e1 := F.mul s'.toNat (d + p') (by have := G.p1; omega)
  have e2 := F.mul s'.toNat d hd
  have e3 := G.per _ big
  rw [← e1, ← e2, ← e3]
  congr 1
  omega
theorem Fr.gcd {S : Int → Bool} {s : Int} : ∀ (n : Nat) {p q : Int}, (p + q).toNat ≤ n → Fr S s p → Fr S s q → Fr S s (Int.gcd p q)
  | 0, p, q, h, F, G => by have := F.p1; have := G.p1; omega
  | n + 1, p, q, h, F, G => by
    have hp := F.p1
    have hq := G.p1
    rcases Int.lt_trichotomy p q with c | c | c
    · have K : Fr S s (q - p) := ⟨F.s0, by omega, fun d hd => by
        have e := F.per (d + (q - p)) (by omega)
        rw [← e, show d + (q - p) + p = d + q by omega]
        exact G.per d hd⟩
      have := Fr.gcd n (p := p) (q := q - p) (by omega) F K
      rw [Int.gcd_sub_self_right] at this
      exact this
    · subst c
      rw [Int.gcd_self]
      have : ((p.natAbs : Nat) : Int) = p := by omega
      rw [this]; exact F
    · have K : Fr S s (p - q) := ⟨F.s0, by omega, fun d hd => by
        have e := G.per (d + (p - q)) (by omega)
        rw [← e, show d + (p - q) + q = d + p by omega]
        exact F.per d hd⟩
      have := Fr.gcd n (p := p - q) (q := q) (by omega) K G
      rw [Int.gcd_sub_self_left] at this
      exact this
structure Can (S : Int → Bool) (s p : Int) : Prop where
  fr : Fr S s p
  lp : ∀ s' p', Fr S s' p' → p ≤ p'
  ls : ∀ s', Fr S s' p → s ≤ s'
theorem Can.eq {S : Int → Bool} {s p s' p' : Int} (A : Can S s p) (B : Can S s' p') : s = s' ∧ p = p' := by
  have e : p = p' := Int.le_antisymm (A.lp _ _ B.fr) (B.lp _ _ A.fr)
  subst e
  exact ⟨Int.le_antisymm (A.ls _ B.fr) (B.ls _ A.fr), rfl⟩
/-- two sets with one form are one set -/
theorem Fr.same {S T : Int → Bool} {s p : Int} (F : Fr S s p) (G : Fr T s p) (h1 : els S 0 s = els T 0 s) (h2 : els S s (s + p) = els T s (s + p)) {d : Int} (h : 0 ≤ d) : S d = T d := by
  have key : ∀ {lo hi d : Int}, els S lo hi = els T lo hi → lo ≤ d → d < hi → S d = T d := fun {lo hi d} e a b => by
    have m := @mem_els S lo hi d
    rw [e, mem_els] at m
    cases hs : S d <;> cases ht : T d <;> simp_all
  by_cases c : d < s
  · exact key h1 h c
  · have c' : s ≤ d := by omega
    rw [← F.mod c', ← G.mod c']
    have p1 := F.p1
    exact key h2 (by have := Int.emod_nonneg (d - s) (show p ≠ 0 by omega); omega) (by have := Int.emod_lt_of_pos (d - s) (show 0 < p by omega); omega)
end Cf
namespace Cf
/-! ### primes -/
structure Pr (q : Nat) : Prop where
  two : 2 ≤ q
  only : ∀ d, d ∣ q → d = 1 ∨ d = q
theorem Pr.or {q a b : Nat} (h : Pr q) (d : q ∣ a * b) : q ∣ a ∨ q ∣ b := by
  rcases h.only _ (Nat.gcd_dvd_left q a) with e | e
  · exact .inr (Nat.Coprime.dvd_of_dvd_mul_left e d)
  · exact .inl (by rw [← e]; exact Nat.gcd_dvd_right q a)
theorem pr_ex : ∀ (n m : Nat), m ≤ n → 2 ≤ m → ∃ q, Pr q ∧ q ∣ m
  | 0, m, h, h2 => by omega
  | n + 1, m, h, h2 => by
    by_cases c : ∃ d, d ∣ m ∧ d ≠ 1 ∧ d ≠ m
    · obtain ⟨d, hd, h1, hm⟩ := c
      have := Nat.le_of_dvd (by omega) hd
      have h0 : d ≠ 0 := by rintro rfl; have := Nat.zero_dvd.mp hd; omega
      obtain ⟨q, hq, hqd⟩ := pr_ex n d (by omega) (by omega)
      exact ⟨q, hq, Nat.dvd_trans hqd hd⟩
    · refine ⟨m, ⟨h2, fun d hd => ?_⟩, Nat.dvd_refl m⟩
      by_cases e1 : d = 1
      · exact .inl e1
      · by_cases e2 : d = m
        · exact .inr e2
        · exact absurd ⟨d, hd, e1, e2⟩ c
/-- what primes_of has found: n is rest times what is done -/
structure Pst (n : Nat) (ps : List Nat) (rest f : Nat) : Prop where
  f2 : 2 ≤ f
  r1 : 1 ≤ rest
  done : ∃ m, n = rest * m ∧ ∀ q, Pr q → q ∣ m → q ∈ ps
  low : ∀ q, Pr q → q < f → ¬ q ∣ rest
  mem : ∀ q ∈ ps, 2 ≤ q
/-- divided by the factor, if it is among those found -/
theorem Pst.div {n rest f : Nat} {ps : List Nat} (h : Pst n ps rest f) (hf : f ∈ ps) (hd : rest % f = 0) : Pst n ps (rest / f) f := by
  have f2 := h.f2
  have e : rest = f * (rest / f) := by
    have := Nat.div_add_mod rest f
    omega
  have r1 := h.r1
  have r0 : 1 ≤ rest / f := by
    rcases Nat.eq_zero_or_pos (rest / f) with z | z
    · rw [z] at e; omega
    · exact z
  have dv : rest / f ∣ rest := ⟨f, by rw [Nat.mul_comm]; exact e⟩
  refine ⟨f2, r0, ?_, fun q hq hl d => h.low q hq hl (Nat.dvd_trans d dv), h.mem⟩
  obtain ⟨m, e2, hm⟩ := h.done
  refine ⟨f * m, ?_, fun q hq d => ?_⟩
  · rw [← Nat.mul_assoc, Nat.mul_comm (rest / f) f, ← e]; exact e2
  · rcases hq.or d with d1 | d1
    · rcases Nat.lt_or_ge q f with c | c
      · exact absurd (Nat.dvd_trans d1 ⟨rest / f, e⟩) (h.low q hq c)
      · have := Nat.le_of_dvd (by omega) d1
        have : q = f := by omega
        rw [this]; exact hf
    · exact hm q hq d1
theorem Pst.found {n rest f : Nat} {ps : List Nat} (h : Pst n ps rest f) : Pst n (ps ++ [f]) rest f := by
  obtain ⟨m, e, hm⟩ := h.done
  refine ⟨h.f2, h.r1, ⟨m, e, fun q hq d => List.mem_append_left _ (hm q hq d)⟩, h.low, fun q hq => ?_⟩
  rcases List.mem_append.mp hq with g | g
  · exact h.mem q g
  · rw [List.mem_singleton] at g
    rw [g]; exact h.f2
theorem Pst.next {n rest f : Nat} {ps : List Nat} (h : Pst n ps rest f) (hd : rest % f ≠ 0) : Pst n ps rest (f + 1) := by
  refine ⟨by have := h.f2; omega, h.r1, h.done, fun q hq hl d => ?_, h.mem⟩
  rcases Nat.lt_or_ge q f with c | c
  · exact h.low q hq c d
  · have : q = f := by omega
    subst this
    exact hd (Nat.mod_eq_zero_of_dvd d)
/-- the end: the rest is 1 or the last prime -/
theorem Pst.fin {n rest f : Nat} {ps : List Nat} (h : Pst n ps rest f) (hl : rest < f * f) (q : Nat) (hq : Pr q) (d : q ∣ n) : q ∈ (if 1 < rest then ps ++ [rest] else ps) := by
  obtain ⟨m, e, hm⟩ := h.done
  rw [e] at d
  rcases hq.or d with d1 | d1
  · have q2 := hq.two
    have hle := Nat.le_of_dvd h.r1 d1
    rw [if_pos (by omega)]
    refine List.mem_append_right _ ?_
    rw [List.mem_singleton]
    obtain ⟨t, et⟩ := d1
    rcases Nat.lt_or_ge 1 t with c | c
    · exfalso
      obtain ⟨q', hq', d'⟩ := pr_ex t t (Nat.le_refl _) (by omega)
      have a1 : f ≤ q := by
        rcases Nat.lt_or_ge q f with c1 | c1
        · exact absurd ⟨t, et⟩ (h.low q hq c1)
        · exact c1
      have a2 : f ≤ q' := by
        rcases Nat.lt_or_ge q' f with c1 | c1
        · exact absurd (Nat.dvd_trans d' ⟨q, by rw [et, Nat.mul_comm]⟩) (h.low q' hq' c1)
        · exact c1
      have a3 := Nat.le_of_dvd (by omega) d'
      have a4 : f * f ≤ q * t := Nat.mul_le_mul a1 (Nat.le_trans a2 a3)
      omega
    · have : t = 1 := by
        have : t ≠ 0 := by rintro rfl; have := h.r1; simp at et; omega
        omega
      rw [this, Nat.mul_one] at et
      exact et.symm
  · have := hm q hq d1
    split
    · exact List.mem_append_left _ this
    · exact this
theorem Pst.start {n : Nat} (h : 1 ≤ n) : Pst n [] n 2 := ⟨Nat.le_refl _, h, ⟨1, by omega, fun q hq d => by have := Nat.le_of_dvd (by omega) d; have := hq.two; omega⟩, fun q hq hl => by have := hq.two; omega, fun q hq => by cases hq⟩
/-! ### a part of a period -/
section
variable {S : Int → Bool} {s p t : Int} {q : Nat}
theorem els_times (F : Fr S s t) (lo : Int) (hlo : s ≤ lo) : ∀ q : Nat, (els S lo (lo + q * t)).length = q * (els S lo (lo + t)).length
  | 0 => by rw [els_nil S (by simp)]; simp
  | q + 1 => by
    have p1 := F.p1
    have z : 0 ≤ (q : Int) * t := Int.mul_nonneg (by omega) (by omega)
    have e : lo + ((q + 1 : Nat) : Int) * t = (lo + t) + q * t := by
      rw [show ((q + 1 : Nat) : Int) = (q : Int) + 1 by omega, Int.add_mul]; omega
    have e2 : lo + (q : Int) * t + t = (lo + t) + q * t := by omega
    rw [e, els_cut S (show lo ≤ lo + t by omega) (by omega), List.length_append, ← e2, els_shift, List.length_map,
      els_congr (T := S) (fun d h1 h2 => F.per d (by omega)), els_times F lo hlo q, Nat.succ_mul]
    omega
/-- the days of a cycle repeat already after this part of the period -/
def Rep (c : List Int) (p : Int) (q : Nat) : Prop := c.length % q = 0 ∧ p % (q : Int) = 0 ∧ c.drop (c.length / q) = (c.take (c.length - c.length / q)).map (· + p / (q : Int))
theorem rep_of (q1 : 1 ≤ q) (e : p = q * t) (F : Fr S s t) : Rep (els S s (s + p)) p q := by
  have p1 := F.p1
  have hl := els_times F s (Int.le_refl _) q
  rw [← e] at hl
  have hq : (q : Int) ≠ 0 := by omega
  have ed : p / (q : Int) = t := by rw [e]; exact Int.mul_ediv_cancel_left _ hq
  have dm : (els S s (s + p)).length / q = (els S s (s + t)).length := by rw [hl]; exact Nat.mul_div_cancel_left _ q1
  have tp : t ≤ p := by
    have : (1 : Int) * t ≤ q * t := Int.mul_le_mul_of_nonneg_right (by omega) (by omega)
    omega
  refine ⟨by rw [hl]; exact Nat.mul_mod_right _ _, by rw [e]; exact Int.mul_emod_right _ _, ?_⟩
  rw [dm, ed]
  have c1 := els_cut S (show s ≤ s + t by omega) (show s + t ≤ s + p by omega)
  have c2 := els_cut S (show s ≤ s + (p - t) by omega) (show s + (p - t) ≤ s + p by omega)
  have sh : els S (s + t) (s + p) = (els S s (s + (p - t))).map (· + t) := by
    rw [show s + p = s + (p - t) + t by omega, els_shift, els_congr (T := S) (fun d h1 h2 => F.per d (by omega))]
  have l2 : (els S s (s + p)).length - (els S s (s + t)).length = (els S s (s + (p - t))).length := by
    have := congrArg List.length c1
    rw [List.length_append, sh, List.length_map] at this
    omega
  rw [l2]
  conv => lhs; rw [c1]
  conv => rhs; rw [c2]
  rw [List.drop_left, List.take_left, sh]
theorem rep_to (q1 : 1 ≤ q) (F : Fr S s p) (R : Rep (els S s (s + p)) p q) : ∃ t, p = q * t ∧ Fr S s t ∧ p / (q : Int) = t := by
  obtain ⟨r1, r2, r3⟩ := R
  have p1 := F.p1
  have A := asc_els S s (s + p)
  have M := @mem_els S s (s + p)
  generalize hc : els S s (s + p) = c at r1 r3 A M
  generalize ht : p / (q : Int) = t at r3
  have e : p = q * t := by
    have := Int.mul_ediv_add_emod p q
    rw [ht] at this
    omega
  have t1 : 1 ≤ t := by
    rcases Int.lt_or_le t 1 with z | z
    · have : (q : Int) * t ≤ q * 0 := Int.mul_le_mul_of_nonneg_left (by omega) (by omega)
      omega
    · exact z
  generalize hm : c.length / q = m at r3
  have el : c.length = q * m := by
    have := Nat.div_add_mod c.length q
    rw [hm] at this
    omega
  have qm : m ≤ q * m := by
    have := Nat.mul_le_mul_right m q1
    omega
  -- one step on
  have st : ∀ i, i + m < c.length → c.getD (i + m) 0 = c.getD i 0 + t := fun i hi => by
    have := congrArg (fun l => l.getD i 0) r3
    rw [getD_drop, getD_map _ (by rw [List.length_take]; omega), getD_take (by omega)] at this
    rw [Nat.add_comm] at this
    exact this
  have stj : ∀ (j i : Nat), i + j * m < c.length → c.getD (i + j * m) 0 = c.getD i 0 + j * t := by
    intro j
    induction j with
    | zero => intro i _; simp
    | succ j ih =>
      intro i hi
      have a : i + (j + 1) * m = (i + j * m) + m := by rw [Nat.succ_mul]; omega
      rw [a] at hi ⊢
      rw [st _ hi, ih i (by omega), show ((j + 1 : Nat) : Int) = (j : Int) + 1 by omega, Int.add_mul]
      omega
  have qs : ((q - 1 : Nat) : Int) * t = p - t := by
    rw [show ((q - 1 : Nat) : Int) = (q : Int) - 1 by omega, Int.sub_mul, e]; omega
  have qn : (q - 1) * m = c.length - m := by rw [el, Nat.sub_mul]; omega
  -- the first part
  have fst : ∀ i, i < m → c.getD i 0 < s + t := fun i hi => by
    have b : i + (q - 1) * m < c.length := by rw [qn]; omega
    have := stj (q - 1) i b
    have in_ := (M.mp (getD_mem b)).1.2
    rw [this, qs] at in_
    omega
  have key : ∀ d, s ≤ d → d < s + p - t → S (d + t) = S d := fun d h1 h2 => by
    have a : S d = true → S (d + t) = true := fun h => by
      obtain ⟨k, hk, ek⟩ := mem_getD (M.mpr ⟨⟨h1, by omega⟩, h⟩)
      by_cases c1 : k + m < c.length
      · have := M.mp (getD_mem c1)
        rw [st k c1, ek] at this
        exact this.2
      · exfalso
        have b : (k - (q - 1) * m) + (q - 1) * m < c.length := by rw [qn]; omega
        have g := stj (q - 1) (k - (q - 1) * m) b
        rw [show k - (q - 1) * m + (q - 1) * m = k by rw [qn]; omega, ek, qs] at g
        have g2 := (M.mp (getD_mem (show k - (q - 1) * m < c.length by omega))).1.1
        omega
    have b : S (d + t) = true → S d = true := fun h => by
      obtain ⟨k, hk, ek⟩ := mem_getD (M.mpr ⟨⟨by omega, by omega⟩, h⟩)
      by_cases c1 : k < m
      · have := fst k c1
        omega
      · have g := st (k - m) (by omega)
        rw [show k - m + m = k by omega, ek] at g
        have g2 := M.mp (getD_mem (show k - m < c.length by omega))
        rw [show c.getD (k - m) 0 = d by omega] at g2
        exact g2.2
    cases x : S d <;> cases y : S (d + t) <;> simp_all
  refine ⟨t, e, ⟨F.s0, t1, ?_⟩, rfl⟩
  -- within the first period
  have one : ∀ d, s ≤ d → d < s + p → S (d + t) = S d := fun d h1 h2 => by
    by_cases c1 : d < s + p - t
    · exact key d h1 c1
    · have it : ∀ (j : Nat) (e : Int), s ≤ e → e + j * t < s + p → S (e + j * t) = S e := by
        intro j
        induction j with
        | zero => intro e _ _; simp
        | succ j ih =>
          intro e h3 h4
          have a : ((j + 1 : Nat) : Int) * t = j * t + t := by rw [show ((j + 1 : Nat) : Int) = (j : Int) + 1 by omega, Int.add_mul]; omega
          have z : 0 ≤ (j : Int) * t := Int.mul_nonneg (by omega) (by omega)
          rw [a] at h4 ⊢
          rw [show e + ((j : Int) * t + t) = (e + j * t) + t by omega, key _ (by omega) (by omega)]
          exact ih e h3 (by omega)
      have g := it (q - 1) (d - (p - t)) (by omega) (by rw [qs]; omega)
      rw [qs, show d - (p - t) + (p - t) = d by omega] at g
      rw [g, show d + t = (d - (p - t)) + p by omega]
      exact F.per _ (by omega)
  intro d hd
  have m1 := Int.emod_nonneg (d - s) (show p ≠ 0 by omega)
  have m2 := Int.emod_lt_of_pos (d - s) (show 0 < p by omega)
  have h3 : 0 ≤ (d - s) / p := Int.ediv_nonneg (by omega) (by omega)
  have h2 := Int.mul_ediv_add_emod (d - s) p
  have ee : d = (s + (d - s) % p) + (((d - s) / p).toNat : Int) * p := by
    rw [show (((d - s) / p).toNat : Int) = (d - s) / p by omega, Int.mul_comm ((d - s) / p) p]
    omega
  have g1 := F.mul ((d - s) / p).toNat (s + (d - s) % p) (by omega)
  have g2 := F.mul ((d - s) / p).toNat (s + (d - s) % p + t) (by omega)
  rw [← ee] at g1
  rw [show s + (d - s) % p + t + (((d - s) / p).toNat : Int) * p = d + t by omega] at g2
  rw [g1, g2]
  exact one _ (by omega) (by omega)
/-- no prime part of the period is one: it is the least -/
theorem Fr.least (F : Fr S s p) (h : ∀ q, Pr q → ∀ t, p = q * t → ¬ Fr S s t) (s' p' : Int) (G : Fr S s' p') : p ≤ p' := by
  have p1 := F.p1
  have G2 := F.also G
  have g1 := G.p1
  have K := Fr.gcd _ (Nat.le_refl _) F G2
  have d1 : Int.gcd p p' ∣ p.natAbs := Nat.gcd_dvd_left _ _
  have d2 : Int.gcd p p' ∣ p'.natAbs := Nat.gcd_dvd_right _ _
  obtain ⟨k, ek⟩ := d1
  have le2 := Nat.le_of_dvd (by omega) d2
  rcases Nat.lt_or_ge 1 k with c | c
  · exfalso
    obtain ⟨q, hq, j, ej⟩ := pr_ex k k (Nat.le_refl _) (by omega)
    have j1 : 1 ≤ j := by
      rcases Nat.eq_zero_or_pos j with z | z
      · subst z; simp at ej; omega
      · exact z
    refine h q hq ((j : Int) * (Int.gcd p p' : Int)) ?_ (K.times j1)
    have : p = ((q * (j * Int.gcd p p') : Nat) : Int) := by
      rw [← Nat.mul_assoc, ← ej, Nat.mul_comm, ← ek]; omega
    exact this.trans (by simp [Int.natCast_mul])
  · have : Int.gcd p p' * k ≤ Int.gcd p p' * 1 := Nat.mul_le_mul_left _ c
    omega
end
end Cf
namespace Cf
/-! ### the cycle continued both ways -/
/-- the day with this number, counted from the first day of the cycle -/
def cdy (p : Int) (c : List Int) (i : Int) : Int := c.getD (i % (c.length : Int)).toNat 0 + i / (c.length : Int) * p
section
variable {S : Int → Bool} {s p : Int}
/-- the set as it would be, had it always repeated -/
def ext (S : Int → Bool) (s p d : Int) : Bool := S (s + (d - s) % p)
theorem ext_ge (F : Fr S s p) {d : Int} (h : s ≤ d) : ext S s p d = S d := F.mod h
theorem ext_per (d : Int) : ext S s p (d + p) = ext S s p d := by
  unfold ext
  rw [show d + p - s = (d - s) + p by omega, Int.add_emod_right]
theorem ext_mul (d : Int) : ∀ k : Nat, ext S s p (d + k * p) = ext S s p d
  | 0 => by simp
  | k + 1 => by
    rw [show d + ((k + 1 : Nat) : Int) * p = (d + k * p) + p by rw [show ((k + 1 : Nat) : Int) = (k : Int) + 1 by omega, Int.add_mul]; omega, ext_per]
    exact ext_mul d k
variable (F : Fr S s p) (hc : els S s (s + p) ≠ [])
include F hc
theorem cyc_pos : 0 < (els S s (s + p)).length := List.length_pos_iff.mpr hc
theorem cdy_mem (i : Int) : ∃ e, s ≤ e ∧ e < s + p ∧ S e = true ∧ cdy p (els S s (s + p)) i = e + i / ((els S s (s + p)).length : Int) * p := by
  have n0 := cyc_pos F hc
  have a := Int.emod_nonneg i (show ((els S s (s + p)).length : Int) ≠ 0 by omega)
  have b := Int.emod_lt_of_pos i (show 0 < ((els S s (s + p)).length : Int) by omega)
  have g := mem_els.mp (getD_mem (show (i % ((els S s (s + p)).length : Int)).toNat < (els S s (s + p)).length by omega))
  exact ⟨_, g.1.1, g.1.2, g.2, rfl⟩
theorem cdy_ext (i : Int) : ext S s p (cdy p (els S s (s + p)) i) = true := by
  obtain ⟨e, h1, h2, h3, h4⟩ := cdy_mem F hc i
  have p1 := F.p1
  rw [h4]
  unfold ext
  rw [show e + i / ((els S s (s + p)).length : Int) * p - s = (e - s) + i / ((els S s (s + p)).length : Int) * p by omega, Int.add_mul_emod_self_right, Int.emod_eq_of_lt (by omega) (by omega)]
  rw [show s + (e - s) = e by omega]
  exact h3
theorem cdy_step (i : Int) : cdy p (els S s (s + p)) (i + (els S s (s + p)).length) = cdy p (els S s (s + p)) i + p := by
  have n0 := cyc_pos F hc
  unfold cdy
  rw [Int.add_emod_right, Int.add_ediv_of_dvd_right (Int.dvd_refl _), Int.ediv_self (by omega), Int.add_mul]
  omega
theorem cdy_lt1 (i : Int) : cdy p (els S s (s + p)) i < cdy p (els S s (s + p)) (i + 1) := by
  have n0 := cyc_pos F hc
  have p1 := F.p1
  have A := asc_els S s (s + p)
  have M : ∀ k, k < (els S s (s + p)).length → s ≤ (els S s (s + p)).getD k 0 ∧ (els S s (s + p)).getD k 0 < s + p := fun k hk => (mem_els.mp (getD_mem hk)).1
  unfold cdy
  generalize els S s (s + p) = c at n0 A M
  have hn : (c.length : Int) ≠ 0 := by omega
  have a := Int.emod_nonneg i hn
  have b := Int.emod_lt_of_pos i (show 0 < (c.length : Int) by omega)
  have e := Int.mul_ediv_add_emod i c.length
  by_cases w : i % (c.length : Int) + 1 < c.length
  · have r : (i + 1) % (c.length : Int) = i % (c.length : Int) + 1 ∧ (i + 1) / (c.length : Int) = i / (c.length : Int) := by
      have e2 : i + 1 = (i % (c.length : Int) + 1) + i / (c.length : Int) * (c.length : Int) := by
        rw [Int.mul_comm (i / _)]; omega
      constructor
      · rw [e2, Int.add_mul_emod_self_right, Int.emod_eq_of_lt (by omega) w]
      · rw [e2, Int.add_mul_ediv_right _ _ hn, Int.ediv_eq_zero_of_lt (by omega) w]
        omega
    rw [r.1, r.2]
    have := asc_lt A (i := (i % (c.length : Int)).toNat) (j := (i % (c.length : Int) + 1).toNat) (by omega) (by omega)
    omega
  · have r : (i + 1) % (c.length : Int) = 0 ∧ (i + 1) / (c.length : Int) = i / (c.length : Int) + 1 := by
      have e2 : i + 1 = 0 + (i / (c.length : Int) + 1) * (c.length : Int) := by
        rw [Int.add_mul, Int.mul_comm (i / _)]; omega
      constructor
      · rw [e2, Int.add_mul_emod_self_right]; simp
      · rw [e2, Int.add_mul_ediv_right _ _ hn]; simp
    rw [r.1, r.2, Int.add_mul]
    have h1 := M (i % (c.length : Int)).toNat (by omega)
    have h2 := M (0 : Int).toNat (by omega)
    omega
theorem cdy_ltn (i : Int) : ∀ k : Nat, cdy p (els S s (s + p)) i < cdy p (els S s (s + p)) (i + (k + 1 : Nat))
  | 0 => cdy_lt1 F hc i
  | k + 1 => by
    have h1 := cdy_ltn i k
    have h2 := cdy_lt1 F hc (i + (k + 1 : Nat))
    rw [show i + ((k + 1 + 1 : Nat) : Int) = i + (k + 1 : Nat) + 1 by omega]
    omega
theorem cdy_lt {i j : Int} (h : i < j) : cdy p (els S s (s + p)) i < cdy p (els S s (s + p)) j := by
  have := cdy_ltn F hc i (j - i - 1).toNat
  rw [show i + (((j - i - 1).toNat + 1 : Nat) : Int) = j by omega] at this
  exact this
theorem cdy_le {i j : Int} (h : i ≤ j) : cdy p (els S s (s + p)) i ≤ cdy p (els S s (s + p)) j := by
  by_cases e : i = j
  · rw [e]; exact Int.le_refl _
  · exact Int.le_of_lt (cdy_lt F hc (by omega))
theorem cdy_of_lt {i j : Int} (h : cdy p (els S s (s + p)) i < cdy p (els S s (s + p)) j) : i < j := by
  rcases Int.lt_or_le i j with c | c
  · exact c
  · have := cdy_le F hc c; omega
theorem cdy_inj {i j : Int} (h : cdy p (els S s (s + p)) i = cdy p (els S s (s + p)) j) : i = j := by
  rcases Int.lt_trichotomy i j with c | c | c
  · have := cdy_lt F hc c; omega
  · exact c
  · have := cdy_lt F hc c; omega
theorem cdy_all {d : Int} (h : ext S s p d = true) : ∃ i, cdy p (els S s (s + p)) i = d := by
  have n0 := cyc_pos F hc
  have p1 := F.p1
  have a := Int.emod_nonneg (d - s) (show p ≠ 0 by omega)
  have b := Int.emod_lt_of_pos (d - s) (show 0 < p by omega)
  have e := Int.mul_ediv_add_emod (d - s) p
  obtain ⟨j, hj, ej⟩ := mem_getD (mem_els.mpr ⟨⟨by omega, by omega⟩, h⟩ : s + (d - s) % p ∈ els S s (s + p))
  refine ⟨(j : Int) + (d - s) / p * ((els S s (s + p)).length : Int), ?_⟩
  have hn : ((els S s (s + p)).length : Int) ≠ 0 := by omega
  unfold cdy
  rw [Int.add_mul_emod_self_right, Int.emod_eq_of_lt (by omega) (by omega), Int.add_mul_ediv_right _ _ hn, Int.ediv_eq_zero_of_lt (by omega) (by omega), Int.toNat_natCast, ej, Int.zero_add, Int.mul_comm ((d - s) / p)]
  omega
theorem cdy_nat {i : Nat} (h : i < (els S s (s + p)).length) : cdy p (els S s (s + p)) i = (els S s (s + p)).getD i 0 := by
  unfold cdy
  rw [Int.emod_eq_of_lt (by omega) (by omega), Int.ediv_eq_zero_of_lt (by omega) (by omega), Int.toNat_natCast]
  omega
theorem cdy_zero : s ≤ cdy p (els S s (s + p)) 0 := by
  have n0 := cyc_pos F hc
  have := cdy_nat F hc n0
  rw [show ((0 : Nat) : Int) = 0 from rfl] at this
  rw [this]
  exact (mem_els.mp (getD_mem n0)).1.1
theorem cdy_neg {i : Int} (h : i < 0) : cdy p (els S s (s + p)) i < s := by
  have n0 := cyc_pos F hc
  have hl : cdy p (els S s (s + p)) (((els S s (s + p)).length - 1 : Nat) : Int) < s + p := by
    rw [cdy_nat F hc (by omega)]
    exact (mem_els.mp (getD_mem (by omega))).1.2
  have h1 := cdy_step F hc (-1)
  have h2 := cdy_le F hc (show i ≤ -1 by omega)
  rw [show (-1 : Int) + ((els S s (s + p)).length : Int) = (((els S s (s + p)).length - 1 : Nat) : Int) by omega] at h1
  omega
end
/-! ### the least start -/
section
variable {S : Int → Bool} {s p : Int}
/-- what the walk back has found: so many days of the head are also days of the cycle, continued -/
structure Bak (S : Int → Bool) (s p : Int) (k : Nat) : Prop where
  le : k ≤ (els S 0 s).length
  same : ∀ j, j < k → (els S 0 s).getD ((els S 0 s).length - 1 - j) 0 = cdy p (els S s (s + p)) (-1 - (j : Int))
/-- the last day that is told apart -/
def apart (S : Int → Bool) (s p : Int) (k : Nat) : Int :=
  let u := cdy p (els S s (s + p)) (-1 - (k : Int))
  let r := (els S 0 s).take ((els S 0 s).length - k)
  if r ≠ [] ∧ u < r.getD (r.length - 1) 0 then r.getD (r.length - 1) 0 else u
structure Start (S : Int → Bool) (s p : Int) (k : Nat) (s' : Int) : Prop where
  can : Fr S s' p ∧ ∀ s'', Fr S s'' p → s' ≤ s''
  le : s' ≤ s
  head : (els S 0 s).take ((els S 0 s).length - k) = els S 0 s'
  cyc : (List.range (els S s (s + p)).length).map (fun (j : Nat) => cdy p (els S s (s + p)) ((j : Int) - k)) = els S s' (s' + p)
set_option maxHeartbeats 2000000 in
theorem start_of (F : Fr S s p) (hc : els S s (s + p) ≠ []) {k : Nat} (B : Bak S s p k) (stop : k = (els S 0 s).length ∨ (els S 0 s).getD ((els S 0 s).length - 1 - k) 0 ≠ cdy p (els S s (s + p)) (-1 - (k : Int))) :
    Start S s p k (if 0 < apart S s p k + 1 then apart S s p k + 1 else 0) := by
  have p1 := F.p1
  have s0 := F.s0
  have Ah := asc_els S 0 s
  have Mh := @mem_els S 0 s
  have hle := B.le
  have hsame := B.same
  have n0 := cyc_pos F hc
  have L := @cdy_lt S s p F hc
  have LE := @cdy_le S s p F hc
  have OL := @cdy_of_lt S s p F hc
  have IJ := @cdy_inj S s p F hc
  have EX := @cdy_ext S s p F hc
  have AL := @cdy_all S s p F hc
  have Z := cdy_zero F hc
  have NG := @cdy_neg S s p F hc
  have ST := @cdy_step S s p F hc
  generalize hh : els S 0 s = h at *
  -- the rest of the head
  have rl : (h.take (h.length - k)).length = h.length - k := by rw [List.length_take]; omega
  have rmem : ∀ {d}, d ∈ h.take (h.length - k) → ∃ i, i < h.length - k ∧ h.getD i 0 = d := fun {d} m => by
    obtain ⟨i, hi, e⟩ := mem_getD m
    rw [rl] at hi
    rw [getD_take hi] at e
    exact ⟨i, hi, e⟩
  have rin : ∀ i, i < h.length - k → h.getD i 0 ∈ h.take (h.length - k) := fun i hi => by
    have := getD_mem (l := h.take (h.length - k)) (i := i) (by rw [rl]; exact hi)
    rw [getD_take hi] at this
    exact this
  -- the last day apart
  have ap : apart S s p k = (if h.take (h.length - k) ≠ [] ∧ cdy p (els S s (s + p)) (-1 - (k : Int)) < h.getD (h.length - k - 1) 0 then h.getD (h.length - k - 1) 0 else cdy p (els S s (s + p)) (-1 - (k : Int))) := by
    unfold apart
    rw [hh]
    dsimp only
    rw [rl]
    by_cases c : h.take (h.length - k) = []
    · rw [if_neg (fun z => z.1 c), if_neg (fun z => z.1 c)]
    · have : 0 < h.length - k := by
        rcases Nat.eq_zero_or_pos (h.length - k) with z | z
        · rw [z] at c; exact absurd rfl c
        · exact z
      rw [getD_take (show h.length - k - 1 < h.length - k by omega)]
  generalize hu0 : cdy p (els S s (s + p)) (-1 - (k : Int)) = u0 at ap stop
  have u0s : u0 < s := by rw [← hu0]; exact NG (by omega)
  have u0e : ext S s p u0 = true := by rw [← hu0]; exact EX _
  generalize apart S s p k = u at ap
  have uu0 : u0 ≤ u := by rw [ap]; split <;> omega
  have rest_le : ∀ i, i < h.length - k → h.getD i 0 ≤ u := fun i hi => by
    have a := asc_le Ah (show i ≤ h.length - k - 1 by omega) (by omega)
    have ne : h.take (h.length - k) ≠ [] := List.ne_nil_of_mem (rin i hi)
    rw [ap]
    by_cases c : u0 < h.getD (h.length - k - 1) 0
    · rw [if_pos ⟨ne, c⟩]; exact a
    · rw [if_neg fun z => c z.2]; omega
  have us : u < s := by
    rw [ap]
    split
    · rename_i z
      have lt : h.length - k - 1 < h.length := by
        have : 0 < h.length - k := by
          rcases Nat.eq_zero_or_pos (h.length - k) with w | w
          · rw [w] at z; exact absurd rfl z.1
          · exact w
        omega
      exact (Mh.mp (getD_mem lt)).1.2
    · exact u0s
  -- the days of the head that are also days of the cycle
  have tail_gt : ∀ j, j < k → u < h.getD (h.length - 1 - j) 0 := fun j hj => by
    have g := hsame j hj
    have a : u0 < h.getD (h.length - 1 - j) 0 := by
      rw [g, ← hu0]
      exact L (by omega)
    rw [ap]
    split
    · rename_i z
      have : 0 < h.length - k := by
        rcases Nat.eq_zero_or_pos (h.length - k) with w | w
        · rw [w] at z; exact absurd rfl z.1
        · exact w
      exact asc_lt Ah (by omega) (by omega)
    · exact a
  have split_h : ∀ {d}, d ∈ h → d ∈ h.take (h.length - k) ∨ ∃ j, j < k ∧ d = h.getD (h.length - 1 - j) 0 := fun {d} m => by
    obtain ⟨i, hi, e⟩ := mem_getD m
    by_cases c : i < h.length - k
    · exact .inl (by rw [← e]; exact rin i c)
    · exact .inr ⟨h.length - 1 - i, by omega, by rw [show h.length - 1 - (h.length - 1 - i) = i by omega]; exact e.symm⟩
  generalize hs' : (if 0 < u + 1 then u + 1 else 0) = s'
  have s'0 : 0 ≤ s' := by rw [← hs']; split <;> omega
  have s's : s' ≤ s := by rw [← hs']; split <;> omega
  have s'u : u < s' := by rw [← hs']; split <;> omega
  have s'e : ∀ d, 0 ≤ d → d < s' → d ≤ u := fun d h1 h2 => by
    rw [← hs'] at h2
    split at h2 <;> omega
  -- from there on it is the cycle continued
  have agree : ∀ d, s' ≤ d → S d = ext S s p d := fun d hd => by
    by_cases c : s ≤ d
    · exact (ext_ge F c).symm
    · have a : S d = true → ext S s p d = true := fun q => by
        rcases split_h (Mh.mpr ⟨⟨by omega, by omega⟩, q⟩) with m | ⟨j, hj, e⟩
        · obtain ⟨i, hi, e⟩ := rmem m
          have := rest_le i hi
          omega
        · rw [e, hsame j hj]
          exact EX _
      have b : ext S s p d = true → S d = true := fun q => by
        obtain ⟨i, e⟩ := AL q
        have i0 : i < 0 := by
          rcases Int.lt_or_le i 0 with w | w
          · exact w
          · have := LE w; omega
        have ik : -1 - (k : Int) < i := OL (by rw [hu0, e]; omega)
        have g := hsame (-1 - i).toNat (by omega)
        rw [show -1 - (((-1 - i).toNat : Nat) : Int) = i by omega, e] at g
        have m := getD_mem (l := h) (i := h.length - 1 - (-1 - i).toNat) (by omega)
        rw [g] at m
        exact (Mh.mp m).2
      exact Bool.eq_iff_iff.mpr ⟨a, b⟩
  refine ⟨⟨⟨s'0, p1, fun d hd => ?_⟩, fun s'' G => ?_⟩, s's, ?_, ?_⟩
  · rw [agree _ (by omega), agree _ hd, ext_per]
  · -- the least start
    rcases Int.lt_or_le s'' s' with w | w
    · exfalso
      have g0 := G.s0
      have su : s' = u + 1 ∧ 0 ≤ u := by
        rw [← hs'] at w ⊢
        split at w <;> rename_i z
        · rw [if_pos z]; omega
        · omega
      have e1 : S u = ext S s p u := by
        have k1 : s ≤ u + ((s - u).toNat : Int) * p := by
          have : ((s - u).toNat : Int) * 1 ≤ ((s - u).toNat : Int) * p := Int.mul_le_mul_of_nonneg_left p1 (by omega)
          omega
        rw [← G.mul (s - u).toNat u (by omega), ← ext_ge F k1, ext_mul]
      rw [ap] at e1 su
      by_cases c : h.take (h.length - k) ≠ [] ∧ u0 < h.getD (h.length - k - 1) 0
      · rw [if_pos c] at e1 su
        have pos : 0 < h.length - k := by
          rcases Nat.eq_zero_or_pos (h.length - k) with w | w
          · rw [w] at c; exact absurd rfl c.1
          · exact w
        have m := Mh.mp (getD_mem (l := h) (i := h.length - k - 1) (by omega))
        rw [m.2] at e1
        obtain ⟨i, e⟩ := AL e1.symm
        have ik : -1 - (k : Int) < i := OL (by rw [hu0, e]; exact c.2)
        have i0 : i < 0 := by
          rcases Int.lt_or_le i 0 with w | w
          · exact w
          · have := LE w; omega
        have g := hsame (-1 - i).toNat (by omega)
        rw [show -1 - (((-1 - i).toNat : Nat) : Int) = i by omega, e] at g
        have := asc_lt Ah (show h.length - k - 1 < h.length - 1 - (-1 - i).toNat by omega) (by omega)
        omega
      · rw [if_neg c] at e1 su
        rw [u0e] at e1
        have m : u0 ∈ h := Mh.mpr ⟨⟨su.2, u0s⟩, e1⟩
        rcases split_h m with m | ⟨j, hj, e⟩
        · have ne := List.ne_nil_of_mem m
          obtain ⟨i, hi, e⟩ := rmem m
          have a := asc_le Ah (show i ≤ h.length - k - 1 by omega) (by omega)
          have b : ¬ u0 < h.getD (h.length - k - 1) 0 := fun z => c ⟨ne, z⟩
          rcases stop with st | st
          · omega
          · rw [show h.length - 1 - k = h.length - k - 1 by omega] at st
            omega
        · rw [hsame j hj, ← hu0] at e
          have := IJ e
          omega
    · exact w
  · -- the head
    rw [hh]
    refine asc_ext (Ah.sublist (List.take_sublist _ _)) (asc_els _ _ _) fun d => ?_
    rw [mem_els]
    constructor
    · intro m
      obtain ⟨i, hi, e⟩ := rmem m
      have g := Mh.mp (getD_mem (l := h) (i := i) (by omega))
      have := rest_le i hi
      rw [e] at g this
      exact ⟨⟨g.1.1, by omega⟩, g.2⟩
    · rintro ⟨⟨h1, h2⟩, h3⟩
      have := s'e d h1 h2
      rcases split_h (Mh.mpr ⟨⟨h1, by omega⟩, h3⟩) with m | ⟨j, hj, e⟩
      · exact m
      · have := tail_gt j hj
        omega
  · -- the cycle
    have first : s' ≤ cdy p (els S s (s + p)) (-(k : Int)) := by
      by_cases k0 : k = 0
      · subst k0
        exact Int.le_trans s's Z
      · have g := hsame (k - 1) (by omega)
        rw [show -1 - ((k - 1 : Nat) : Int) = -(k : Int) by omega] at g
        have t := tail_gt (k - 1) (by omega)
        have m := (Mh.mp (getD_mem (l := h) (i := h.length - 1 - (k - 1)) (by omega))).1.1
        rw [g] at t m
        rw [← hs']
        split <;> omega
    refine asc_ext ?_ (asc_els _ _ _) fun d => ?_
    · unfold Asc
      rw [List.pairwise_map]
      exact List.Pairwise.imp (fun q => L (by omega)) List.pairwise_lt_range
    · rw [List.mem_map, mem_els]
      constructor
      · rintro ⟨j, hj, rfl⟩
        rw [List.mem_range] at hj
        have a := LE (show -(k : Int) ≤ (j : Int) - k by omega)
        have b := LE (show (j : Int) - k ≤ (-1 - (k : Int)) + ((els S s (s + p)).length : Int) by omega)
        rw [ST, hu0] at b
        refine ⟨⟨by omega, by omega⟩, ?_⟩
        rw [agree _ (by omega)]
        exact EX _
      · rintro ⟨⟨h1, h2⟩, h3⟩
        rw [agree d h1] at h3
        obtain ⟨i, e⟩ := AL h3
        have a : -1 - (k : Int) < i := OL (by rw [hu0, e]; omega)
        have b : i < -(k : Int) + ((els S s (s + p)).length : Int) := OL (by rw [ST, e]; omega)
        refine ⟨(i + k).toNat, by rw [List.mem_range]; omega, ?_⟩
        rw [show (((i + k).toNat : Nat) : Int) - k = i by omega]
        exact e
end
end Cf
namespace Cf
/-! ### the days by their numbers -/
section
variable {S : Int → Bool} {s p : Int}
def dAt (S : Int → Bool) (s p : Int) (i : Nat) : Int := if i < (els S 0 s).length then (els S 0 s).getD i 0 else cdy p (els S s (s + p)) ((i - (els S 0 s).length : Nat) : Int)
def Val (S : Int → Bool) (s p : Int) (i : Nat) : Prop := i < (els S 0 s).length ∨ els S s (s + p) ≠ []
/-- so many days are before this one -/
structure Rk (S : Int → Bool) (s p day : Int) (c : Nat) : Prop where
  lo : ∀ i, i < c → Val S s p i ∧ dAt S s p i < day
  hi : ∀ i, c ≤ i → Val S s p i → day ≤ dAt S s p i
theorem dAt_mem (F : Fr S s p) {i : Nat} (h : Val S s p i) : S (dAt S s p i) = true ∧ 0 ≤ dAt S s p i := by
  unfold dAt
  by_cases c : i < (els S 0 s).length
  · rw [if_pos c]
    have := mem_els.mp (getD_mem c)
    exact ⟨this.2, this.1.1⟩
  · rw [if_neg c]
    have hc := h.resolve_left c
    have z := cdy_zero F hc
    have l := cdy_le F hc (show 0 ≤ ((i - (els S 0 s).length : Nat) : Int) by omega)
    have e := cdy_ext F hc ((i - (els S 0 s).length : Nat) : Int)
    rw [ext_ge F (by omega)] at e
    exact ⟨e, by have := F.s0; omega⟩
theorem dAt_lt (F : Fr S s p) {i j : Nat} (h : i < j) (v : Val S s p j) : dAt S s p i < dAt S s p j := by
  unfold dAt
  by_cases c : j < (els S 0 s).length
  · rw [if_pos c, if_pos (by omega)]
    exact asc_lt (asc_els S 0 s) h c
  · rw [if_neg c]
    have hc := v.resolve_left c
    have z := cdy_zero F hc
    by_cases d : i < (els S 0 s).length
    · rw [if_pos d]
      have := (mem_els.mp (getD_mem d)).1.2
      have l := cdy_le F hc (show 0 ≤ ((j - (els S 0 s).length : Nat) : Int) by omega)
      omega
    · rw [if_neg d]
      exact cdy_lt F hc (by omega)
theorem dAt_all (F : Fr S s p) {d : Int} (h : S d = true) (h0 : 0 ≤ d) : ∃ i, Val S s p i ∧ dAt S s p i = d := by
  by_cases c : d < s
  · obtain ⟨i, hi, e⟩ := mem_getD (mem_els.mpr ⟨⟨h0, c⟩, h⟩ : d ∈ els S 0 s)
    exact ⟨i, .inl hi, by unfold dAt; rw [if_pos hi]; exact e⟩
  · have hc : els S s (s + p) ≠ [] := by
      have p1 := F.p1
      have m0 := Int.emod_nonneg (d - s) (show p ≠ 0 by omega)
      have m1 := Int.emod_lt_of_pos (d - s) (show 0 < p by omega)
      refine List.ne_nil_of_mem (mem_els.mpr ⟨⟨?_, ?_⟩, (F.mod (by omega)).trans h⟩ : s + (d - s) % p ∈ _) <;> omega
    obtain ⟨i, e⟩ := cdy_all F hc ((ext_ge F (by omega)).trans h)
    have i0 : 0 ≤ i := by
      rcases Int.lt_or_le i 0 with z | z
      · have := cdy_neg F hc z; omega
      · exact z
    refine ⟨(els S 0 s).length + i.toNat, .inr hc, ?_⟩
    unfold dAt
    rw [if_neg (by omega), show (((els S 0 s).length + i.toNat - (els S 0 s).length : Nat) : Int) = i by omega]
    exact e
theorem Rk.uniq (F : Fr S s p) {day : Int} {c c' : Nat} (A : Rk S s p day c) (B : Rk S s p day c') : c = c' := by
  rcases Nat.lt_trichotomy c c' with h | h | h
  · have q := B.lo c h
    have := A.hi c (Nat.le_refl _) q.1
    omega
  · exact h
  · have q := A.lo c' h
    have := B.hi c' (Nat.le_refl _) q.1
    omega
end
end Cf
/-! Own layer: operators of own classes, their truth, an attribute as a target, a class held by a name. -/
namespace Cf
open PySem PySem.Spec PyProof.Rows L2
/-- the class at C has the def at f under this name -/
structure Own (K : PySem.W.Frag) (C : Addr) (nm : Str) (f : Addr) : Prop where
  at_ : PySem.W.findIn K (.ref C) nm = some (some (.ref f))
  fn : PySem.W.isFn K (.ref f) = true
/-- two instances of the class at C, as the def's promise says -/
def rOwn (C : Addr) (sp : Sp) : R2 := fun x y H Q => ∃ a b dx dy fs gs, x = .ref a ∧ y = .ref b ∧ H a = some (.ins C dx fs) ∧ H b = some (.ins C dy gs) ∧ sp [.ref a, .ref b] H Q E0
section
variable {X : Cx} {k : Nat} {C f : Addr} {fd : FuncData} {ps : List Str} {sp : Sp}
theorem back_of {X : Cx} {pins : List (Addr × Obj)} {σ : L2.St} {Q : VK} {v : Value} {s' : Shared} (h : EP X pins σ Q v s') : PySem.W.CmpBack (EP X pins σ Q) v s' := by
  obtain ⟨z, H', I, r, q⟩ := id h
  cases v <;> first | exact h | (cases z <;> first | exact r.elim | (obtain ⟨_, e⟩ := r; cases e) | cases r)
theorem op_own {op : Operator} (hc : PySem.W.selfFirst X.K C = true) (o : Own X.K C (PySem.dunder op.info.2) f) (F : FnOk X.prog X.w X.K X.mg X.base CX0 k f fd ps sp) (hb : Binds X.K fd ps []) (hr : Room k X.A) : OpR X (binaryOp op) (rOwn C sp) := by
  intro pins s σ H x y v u Q I rx ry h
  obtain ⟨a, b, dx, dy, fs, gs, rfl, rfl, ha, hb', q⟩ := h
  cases rx
  cases ry
  obtain ⟨mA, J, _⟩ := ins_get I.hok ha
  obtain ⟨mB, J', _⟩ := ins_get I.hok hb'
  obtain ⟨od, J, _⟩ := J.look
  obtain ⟨od', J', _⟩ := J'.look
  obtain ⟨m, hF⟩ := I.fr
  exact PySem.W.binop_K hF I.ok.mod.kin J J'.type hc o.at_ o.fn (thn (run_fn (us := [.ref a, .ref b]) (vs := [.ref a, .ref b]) F hr hb .nil pass0 I (.cons rfl (.cons rfl .nil)) q) fun v s' z => back_of z)
/-- x == y of two instances by the own __eq__ -/
theorem op_ownEq (hn : PySem.W.notFirst X.K C (.ref C) = true) (o : Own X.K C "__eq__" f) (F : FnOk X.prog X.w X.K X.mg X.base CX0 k f fd ps sp) (hb : Binds X.K fd ps []) (hr : Room k X.A) (hu : X.A.units < cLine) : OpR X (compareOp .Eq) (rOwn C sp) := by
  intro pins s σ H x y v u Q I rx ry h
  obtain ⟨a, b, dx, dy, fs, gs, rfl, rfl, ha, hb', q⟩ := h
  cases rx
  cases ry
  obtain ⟨mA, J, _⟩ := ins_get I.hok ha
  obtain ⟨mB, J', _⟩ := ins_get I.hok hb'
  obtain ⟨od, J, _⟩ := J.look
  obtain ⟨od', J', _⟩ := J'.look
  obtain ⟨m, hF⟩ := I.fr
  show wpAny (model X.prog X.w) X.A (richCompare .Eq (.ref a) (.ref b)) (EP X pins σ Q) X.xe s
  exact PySem.W.cmp_K (op := .Eq) (tb := .ref C) hu hF I.ok.mod.kin J J'.type hn o.at_ o.fn (thn (run_fn (us := [.ref a, .ref b]) (vs := [.ref a, .ref b]) F hr hb .nil pass0 I (.cons rfl (.cons rfl .nil)) q) fun v s' z => back_of z)
/-- an instance's truth by the own __bool__ -/
def rTru (C : Addr) (sp : Sp) : V → Hp → (Bool → Hp → Prop) → Prop := fun x H Q => ∃ a dx fs, x = .ref a ∧ H a = some (.ins C dx fs) ∧ sp [.ref a] H (fun v H' => ∃ b, v = .bl b ∧ Q b H') E0
theorem tru_own (o : Own X.K C "__bool__" f) (F : FnOk X.prog X.w X.K X.mg X.base CX0 k f fd ps sp) (hb : Binds X.K fd ps []) (hr : Room k X.A) : TruR X (rTru C sp) := by
  intro pins s σ H x v Q I rx h
  obtain ⟨a, dx, fs, rfl, ha, q⟩ := h
  cases rx
  obtain ⟨mA, J, _⟩ := ins_get I.hok ha
  obtain ⟨od, J, _⟩ := J.look
  obtain ⟨m, hF⟩ := I.fr
  refine PySem.W.truthy_K hF I.ok.mod.kin J o.at_ o.fn (thn (run_fn (us := [.ref a]) (vs := [.ref a]) F hr hb .nil pass0 I (.cons rfl .nil) q) fun v s' z => ?_)
  obtain ⟨z, H', I', r, b, rfl, q⟩ := z
  cases r
  exact ⟨H', I', q⟩
/-- not e, e an instance -/
def tNotO (r : V → Hp → (Bool → Hp → Prop) → Prop) (ta : TE) : TE := fun σ H Q => ta σ H fun x H1 => r x H1 fun b H2 => Q (.bl (!b)) H2
theorem pe_notO {r : V → Hp → (Bool → Hp → Prop) → Prop} {e : Expr} {ta : TE} {pos : Pos} (ht : TruR X r) (ha : PE X e ta) : PE X (.UnaryOp .Not e pos) (tNotO r ta) := by
  refine ⟨fun pins s σ H Q I h => ?_⟩
  refine UnaryOp_ (thn (ha.run pins s σ H _ I h) fun v s1 ⟨x, H1, I1, r1, q1⟩ => ?_)
  refine not_of (thn (ht pins s1 σ H1 x v _ I1 r1 q1) fun b s2 ⟨H2, I2, q2⟩ => ⟨.bl (!b), H2, I2, rfl, q2⟩)
/-- o.f as one of several targets -/
def gFld (K : PySem.W.Frag) (ta : TE) (f : Str) : TG := fun v σ H Q => ta σ H fun x H1 => ∃ a C dx fs, x = .ref a ∧ H1 a = some (.ins C dx fs) ∧ Cls K C ∧ NoAttr K C f ∧ fs.length < 1000 ∧ Q σ (upd H1 a (.ins C dx (putF f v fs)))
theorem pg_fld {o : Expr} {fn : Str} {pos : Pos} {ta : TE} (ho : PE X o ta)
    (ha : ∀ v, assign (.Attribute o fn pos) X.env v = (do
      let ov ← holding [v] (eval o X.env)
      standAt pos.atName
      holding [v, ov] (setAttr ov fn v)
      release [v, ov] []) := by intro _; rfl) : PG X (.Attribute o fn pos) (gFld X.K ta fn) := by
  refine ⟨fun pins s σ H v u Q I r h => ?_⟩
  rw [ha]
  refine wpAny_bind (wpAny_holding (thn (ho.run pins s σ H _ I h) fun ov s1 ⟨x, H1, I1, r1, a, C, dx, fs, ex, ea, c, n, l, q⟩ => ?_))
  subst ex
  obtain rfl : ov = Value.ref a := r1
  refine wpAny_bind (wpAny_standAt (wpAny_bind (wpAny_holding (setattr_ok I1 ea c n l r fun s3 I3 => ?_))))
  exact wpAny_release ⟨σ, _, I3, q⟩
/-- x(..), x a local name that holds the class at C -/
def tMakeL (i : Nat) (C : Addr) (sp : Sp) (t : TA) : TE := fun σ H Q => σ[i]? = some (some (.ref C)) ∧ tMake C sp [] E0 t σ H Q
theorem pe_makeL {i : Nat} {fI : Addr} {x : Str} {p pos : Pos} {e : Expr} {es : List Expr} {t : TA} (M : Mk X.K C fI) (F : FnOk X.prog X.w X.K X.mg X.base CX0 k fI fd ps sp) (hr : Room (k + 1) X.A) (hN : X.N[i]? = some x) (hv : Vis X.env.scope x) (hb : Binds X.K fd ps []) (ha : PA X (e :: es) t)
    (hdb : (x == ("__debug__" : Str)) = false := by decide) (hcd : (x == ("__classdict__" : Str)) = false := by decide)
    (he : starEach (e :: es) X.env = (false, eval e X.env) :: starEach es X.env := by rfl) (hpl : (backTo pos (starEach es X.env)).any (·.1) = false := by rfl) : PE X (.Call (.Name x p) (e :: es) [] pos) (tMakeL i C sp t) := by
  refine ⟨fun pins s σ H Q I h => ?_⟩
  obtain ⟨hs, ht⟩ := h
  refine wpAny_Call_Name_kw (thn ((pe_var (pos := p) hN hv hdb hcd).run pins s σ H (fun v H1 => v = .ref C ∧ H1 = H) I ⟨.ref C, hs, rfl, rfl⟩) fun u s1 ⟨v, H1, I1, r1, q1⟩ => ?_)
  obtain ⟨rfl, rfl⟩ := q1
  cases r1
  refine PySem.W.callWith_K (h₀ := X.base) I.ok.mod.kin M.kp (thn (ha.run pos pins s1 σ _ _ I1 ht) fun us s2 ⟨vs, H2, I2, r, q⟩ => ⟨I2.kIn, ?_⟩) he hpl
  exact run_make M F hr hb .nil pass0 I2 r q
end
/-! ### math.lcm -/
def rLcm : List V → Hp → VK → Prop := fun vs H Q => ∃ a b : Int, vs = [.int a, .int b] ∧ a.natAbs < 1000000 ∧ b.natAbs < 1000000 ∧ Q (.int ((Nat.lcm a.natAbs b.natAbs : Nat) : Int)) H
theorem cr_lcm {X : Cx} : CallR X (.builtin "math.lcm") rLcm := by
  intro pins s σ H vs us Q I r h
  obtain ⟨a, b, rfl, ha, hb, q⟩ := h
  obtain ⟨t, u, rfl⟩ := Vals.int2 r
  have small : (Nat.lcm a.natAbs b.natAbs).log2 < bitsLine := by
    have h1 : Nat.lcm a.natAbs b.natAbs ≤ a.natAbs * b.natAbs := Nat.div_le_self _ _
    have h2 : a.natAbs * b.natAbs ≤ 1000000 * 1000000 := Nat.mul_le_mul (by omega) (by omega)
    by_cases z : Nat.lcm a.natAbs b.natAbs = 0
    · rw [z]; decide
    · exact Nat.lt_trans ((Nat.log2_lt z).mpr (Nat.lt_of_le_of_lt (Nat.le_trans h1 h2) (by decide +kernel : 1000000 * 1000000 < 2 ^ 64))) (by decide +kernel)
  refine PySem.W.mg_lcm (by omega) (by omega) (by rw [Nat.lcm_one_left]; exact small) ?_
  rw [Nat.lcm_one_left]
  exact ⟨.int _, H, I.tok _, ⟨_, rfl⟩, q⟩
end Cf
/-! Own layer: a set made of a list of ints, of any length below the scan bound; sorted of such. -/
namespace Cf
open PySem PySem.Spec PyProof.Rows L2
section
variable {prog : Program} {w : World} {A : Around} {R : Result → Shared → Prop} {I : Addr} {fp wr : List Addr} {G : Array GenState → Array GenState → Prop} {n : Nat} {P : Nat → Value → Prop} {St : Nat → Shared → Prop}
/-- the loop of an update, the set's table known to rise -/
theorem upd_loop (W : WalksS prog w A.in1 I fp wr G n P St) (Z : Addr) (nZ : Z ∉ fp) (val : Nat → Int) (hval : ∀ i v, P i v → ∃ t, v = .int (val i) t) (room : n + 1 < scanBound) :
    ∀ (k i : Nat) (s : Shared) (S : Int → Bool) (c : Nat), n - i = k → i ≤ n → c ≤ i → St i s → SetR w s.heap Z S c →
      (∀ s' S' c', Moved (Z :: wr) G s s' → c' ≤ n → (∀ z, S' z = true ↔ (S z = true ∨ ∃ j, i ≤ j ∧ j < n ∧ val j = z)) → SetR w s'.heap Z S' c' → R (.ok (.ret .none)) s') →
      codeAny (model prog w) A (.builtin "set.update.loop" ⟨[.ref Z, .ref I], []⟩) R s := by
  have nZw : Z ∉ wr := fun q => nZ (W.sub _ q)
  have sub2 : ∀ b ∈ wr, b ∈ Z :: wr := fun b q => List.mem_cons_of_mem _ q
  intro k; induction k with
  | zero =>
    intro i s S c ek li lc st rs fin
    have e : i = n := by omega
    subst e
    refine codeAny_builtin F.entry_set_update_loop ?_; rw [Around.under_plainId F.plain_set_update_loop _]
    show wpAny _ A.in1 (pyNext (.ref I) >>= _) _ _ s; refine wpAny_bind (W.done s _ _ st fun s' mv => ?_)
    show wpAny _ A.in1 (ret Value.none) _ _ s'; refine wpAny_pure (fin s' S c (mv.mono sub2) (by omega) (fun z => ?_) (rs.at fun o q => mv.heap Z _ nZw q))
    exact ⟨.inl, fun q => q.elim id fun ⟨j, a, b, _⟩ => by omega⟩
  | succ k ih =>
    intro i s S c ek li lc st rs fin
    have lt : i < n := by omega
    refine codeAny_builtin F.entry_set_update_loop ?_; rw [Around.under_plainId F.plain_set_update_loop _]
    show wpAny _ A.in1 (pyNext (.ref I) >>= _) _ _ s; refine wpAny_bind (W.item i s _ _ lt st fun v s' pv' st' mv => ?_)
    obtain ⟨t, rfl⟩ := hval i v pv'
    have rs' : SetR w s'.heap Z S c := rs.at fun o q => mv.heap Z _ nZw q
    show wpAny _ A.in1 (holding [Value.int (val i) t] (setAdd Z (.int (val i) t)) >>= _) _ _ s'; refine wpAny_bind (wpAny_holding ?_)
    unfold setAdd; refine wpAny_holding ?_; refine wpAny_bind ((intKind prog w).pyHash (k := val i) (intKind_is _ _ _ _) ?_)
    refine setR_add_hashed (s := { s' with toks := s'.toks + 1 }) rs' (by omega) fun h' sb r2 => ?_
    refine wpAny_pure ⟨plainId_quiet F.plain_set_update_loop _, ih (i + 1) _ _ _ (by omega) lt (by split <;> omega) (W.frame _ s' _ _ st' (Nat.le_succ _) fun b hb o e => ?_) r2 fun s'' S'' c'' mv2 lc2 mem r3 => ?_⟩
    · rw [sb.2 b (fun q : b = Z => nZ (by rw [← q]; exact hb))]; exact e
    · refine fin s'' S'' c'' (Moved.trans W.gtrans ((mv.mono sub2).then_heap (Nat.le_succ _) fun b o hb e => ?_) mv2) lc2 (fun z => ?_) r3
      · rw [sb.2 b (fun q : b = Z => hb (by rw [q]; exact List.mem_cons_self))]; exact e
      · rw [mem z]
        constructor
        · rintro (q | ⟨j, a, b, e⟩)
          · rcases Bool.or_eq_true_iff.mp q with q | q
            · exact .inl q
            · exact .inr ⟨i, Nat.le_refl _, lt, (of_decide_eq_true q).symm⟩
          · exact .inr ⟨j, by omega, b, e⟩
        · rintro (q | ⟨j, a, b, e⟩)
          · exact .inl (Bool.or_eq_true_iff.mpr (.inl q))
          · by_cases ej : j = i
            · subst ej; exact .inl (Bool.or_eq_true_iff.mpr (.inr (decide_eq_true e.symm)))
            · exact .inr ⟨j, by omega, b, e⟩
end
section
variable {prog : Program} {w : World} {A : Around} {E : Value → Shared → Prop} {s : Shared}
theorem new_set1 (a : Value) {Q₁ : Value → Shared → Prop}
    (h : Q₁ (.ref s.heap.objs.size) { s with heap := s.heap.push { cls := .type "set", dict := none, data := .set #[] 0 (.fresh 0 0 (!w.params.followText "set-order")) } }) :
    codeAny (model prog w) A (.call (.builtin "set.__new__") ⟨[.type "set", a], []⟩) (wants Q₁ E) s := by
  refine codeAny_of_tree ?_; show wpAny _ A.in1 (do checkBuiltinCall "set.__new__" ⟨[.type "set", a], []⟩; again (.builtin "set.__new__" ⟨[.type "set", a], []⟩)) _ _ s
  refine wpAny_bind (wpAny_of_eq (F.newCall_set_1 a) (wpAny_pure ⟨plainId_quiet F.plain_set_new _, codeAny_builtin F.entry_set_new ?_⟩)); rw [Around.under_plainId F.plain_set_new _]
  unfold Builtin.«set.__new__» Builtin.Frozenset.newClass; have sb := sub_set_self; obtain ⟨hp, g, d, tk, os⟩ := s; dsimp only
  wp_walk
  refine wpAny_askSetting (wpAny_pure ?_); dsimp only; simp only [newObj]; refine wpAny_bind (wpAny_alloc (wpAny_pure ?_))
  exact wpAny_pure h
set_option maxHeartbeats 3200000 in
/-- set(l), l a list of ints -/
theorem call_setL {l : Addr} {items : Array Value} {ns : List Int} {Q : Value → Shared → Prop} (hh : A.handled = none) (hl : s.heap.IsList l items) (hi : PyProof.Rows.IntsAre items.toList ns) (room : items.size + 1 < scanBound)
    (fin : ∀ (h' : Heap) (tk : Nat) (S : Int → Bool) (c : Nat), c ≤ items.size → (∀ z, S z = true ↔ z ∈ ns) → SetR w h' s.heap.objs.size S c → (∀ b o, b < s.heap.objs.size → s.heap.get? b = some o → h'.get? b = some o) → Q (.ref s.heap.objs.size) { s with heap := h', toks := tk }) :
    wpAny (model prog w) A (call (.type "set") [.ref l]) Q E s := by
  obtain ⟨cM, tM, eM⟩ := F.called_set.mro; have m1 := F.called_set.made; have m2 := F.called_set.sub
  refine wpAny_call (codeAny_of_tree ?_); show wpAny _ _ (callAny (.type "set") _) _ _ _
  refine wpAny_pure ⟨Code.quiet_builtin _ (by decide +kernel), codeAny_builtin F.entry_type_call ?_⟩; rw [Around.under_plain (weight_type_call_type "set" [.ref l] []) rfl]
  have m3 := F.called_set.notType; have m4 := F.called_set.canCreate; have m5 := F.typeCall_set_1 (.ref l)
  repeat (any_goals (first | assumption | wp_step))
  refine codeAny_mono (new_set1 (.ref l) (E := E) (Q₁ := fun obj s₁ => obj = .ref s.heap.objs.size ∧ s₁ = { s with heap := s.heap.push { cls := .type "set", dict := none, data := .set #[] 0 (.fresh 0 0 (!w.params.followText "set-order")) } }) ⟨rfl, rfl⟩) fun r s₁ hr => ?_
  cases r with
  | error e => exact hr
  | ok fl => cases fl with
    | ret obj =>
      obtain ⟨rfl, rfl⟩ := hr
      have gS : (s.heap.push { cls := .type "set", dict := none, data := .set #[] 0 (.fresh 0 0 (!w.params.followText "set-order")) }).get? s.heap.objs.size = some { cls := .type "set", dict := none, data := .set #[] 0 (.fresh 0 0 (!w.params.followText "set-order")) } := Heap.get?_push_size _ rfl
      have tS : Shared.TypeIs { s with heap := s.heap.push { cls := .type "set", dict := none, data := .set #[] 0 (.fresh 0 0 (!w.params.followText "set-order")) } } (.ref s.heap.objs.size) "set" := ⟨_, gS, rfl⟩
      have i1 := F.called_set.init.lookup; have i2 := F.called_set.init.bind (.ref s.heap.objs.size)
      repeat (any_goals (first | assumption | wp_step))
      refine codeAny_mono (codeAny_call_builtin (R := wants (fun r s₂ => r = .none ∧ ∃ h' tk S c, s₂ = { s with heap := h', toks := tk } ∧ c ≤ items.size ∧ (∀ z, S z = true ↔ z ∈ ns) ∧ SetR w h' s.heap.objs.size S c ∧
          (∀ b o, b < s.heap.objs.size → s.heap.get? b = some o → h'.get? b = some o)) E) F.called_set.init.plain F.entry_set_init (check_set_init_1 tS ?_)) fun r₂ s₂ hr₂ => ?_
      · obtain ⟨ol, gl, cl, nl, dl⟩ := hl; obtain ⟨ocls, odict, odata, oslots⟩ := ol; simp only at cl dl; subst cl; subst dl
        have gl' : (s.heap.push { cls := .type "set", dict := none, data := .set #[] 0 (.fresh 0 0 (!w.params.followText "set-order")) }).get? l = some { cls := .type "list", dict := odict, data := .seq items nl, slots := oslots } := Heap.get?_push_of_some _ gl
        have q1 := F.sub_list_set; have q2 := F.sub_list_frozenset; have q3 : (Value.type "list" == Value.type "dict") = false := by decide
        have il : (s.heap.push { cls := .type "set", dict := none, data := .set #[] 0 (.fresh 0 0 (!w.params.followText "set-order")) }).IsList l items := ⟨_, gl', rfl, nl, rfl⟩
        unfold Builtin.«set.__init__» noKeywords Builtin.Frozenset.updateFrom; generalize ePI : pyIter = PI
        wp_walk
        subst ePI
        refine wpAny_pyIter_list il ?_; refine wpAny_bind (wpAny_runValue ?_)
        have lS : l < s.heap.objs.size := Heap.lt_size gl
        have h3 : A.in1.in1.in1.handled = none := by simp [hh]
        have nI : l ≠ (s.heap.push { cls := .type "set", dict := none, data := .set #[] 0 (.fresh 0 0 (!w.params.followText "set-order")) }).objs.size := by rw [Heap.size_push]; exact Nat.ne_of_lt (Nat.lt_succ_of_lt lS)
        have nF : s.heap.objs.size ∉ [(s.heap.push { cls := .type "set", dict := none, data := .set #[] 0 (.fresh 0 0 (!w.params.followText "set-order")) }).objs.size, l] := by
          rw [Heap.size_push]; simp only [List.mem_cons, List.mem_singleton, List.not_mem_nil, or_false, not_or]; exact ⟨Nat.ne_of_lt (Nat.lt_succ_self _), Nat.ne_of_gt lS⟩
        have hval : ∀ (i : Nat) (v : Value), items[i]? = some v → ∃ t, v = .int ((fun i => ns.getD i 0) i) t := fun i v hv => PyProof.Rows.IntsAre.int_at hi i v (by rw [Array.getElem?_toList]; exact hv)
        have hn : items.size = ns.length := by have := IntsAre.length hi; simpa using this
        refine upd_loop ((Walks.list h3 _ l nI items).toS) s.heap.objs.size nF (fun i => ns.getD i 0) hval room (items.size - 0) 0 _ (fun _ => false) 0 (by omega) (Nat.zero_le _) (Nat.le_refl _) ⟨⟨_, Heap.get?_push_size _ rfl, rfl, rfl⟩, (il.push _)⟩ ?_ ?_
        · exact (setR_fresh w).at fun o q => Heap.get?_push_of_some _ q
        · intro s' S' c' hm hc' mem hS'; obtain ⟨h', g', d', tk', os'⟩ := s'
          have eg : g' = s.gens := hm.gens
          have ed : d' = s.drawn := hm.drawn
          have eo : os' = s.os := hm.os
          subst eg; subst ed; subst eo; show wpAny _ _ _ _ _ _; refine wpAny_pure ?_; show wpAny _ _ (ret Value.none) _ _ _
          refine wpAny_pure ⟨rfl, h', tk', S', c', rfl, hc', fun z => ?_, hS', fun b o hb e => ?_⟩
          · rw [mem z]
            constructor
            · rintro (q | ⟨j, _, b, e⟩)
              · cases q
              · rw [← e, List.getD_eq_getElem?_getD, List.getElem?_eq_getElem (by omega)]
                exact List.getElem_mem _
            · intro q
              obtain ⟨j, hj, e⟩ := List.getElem_of_mem q
              exact .inr ⟨j, Nat.zero_le _, by omega, by rw [List.getD_eq_getElem?_getD, List.getElem?_eq_getElem hj]; exact e⟩
          · have b1 : b ≠ s.heap.objs.size := Nat.ne_of_lt hb
            have b2 : b ≠ (s.heap.push { cls := .type "set", dict := none, data := .set #[] 0 (.fresh 0 0 (!w.params.followText "set-order")) }).objs.size := by rw [Heap.size_push]; exact Nat.ne_of_lt (Nat.lt_succ_of_lt hb)
            refine hm.heap b o ?_ (Heap.get?_push_of_some _ (Heap.get?_push_of_some _ e)); simp only [List.mem_cons, List.mem_singleton, List.not_mem_nil, or_false, not_or]; exact ⟨b1, b2⟩
      · cases r₂ with
        | error e => exact hr₂
        | ok fl₂ => cases fl₂ with
          | ret r =>
            obtain ⟨rfl, h', tk, S, c, rfl, k1, k2, k3, k4⟩ := hr₂
            repeat (any_goals (first | assumption | wp_step))
            exact fin _ _ S c k1 k2 k3 k4
          | _ => exact hr₂.elim
    | _ => exact hr.elim
/-- sorted(found), any number of members -/
theorem sortedR {a : Addr} {S : Int → Bool} {n : Nat} {Q : Value → Shared → Prop} (R : SetR w s.heap a S n) (hh : A.handled = none)
    (fin : ∀ s' p (out : Array Value) (c : Nat) (ns : List Int), (∀ b o, s.heap.get? b = some o → s'.heap.get? b = some o) → s'.gens = s.gens → s'.os = s.os → s.heap.objs.size ≤ p →
      s'.heap.get? p = some (seqObj "list" out c) → IntsAre out.toList ns → ns.Pairwise (· < ·) → (∀ k, k ∈ ns ↔ S k = true) → ns.length = n → Q (.ref p) s') :
    wpAny (model prog w) A (call (.builtin "sorted") [.ref a]) Q E s := by
  obtain ⟨o, es, ep, t, ho, hex, hd, g, nd, hm, hb, hf, hn, hr, hl⟩ := R
  have nb : n < scanBound := by rw [← hn]; exact hb
  refine Calls.call_function_entry kind_sorted plain_sorted entry_sorted (args_sorted1 _) ?_; unfold Builtin.«sorted»; refine wpAny_bind (m := checkCount "sorted" 1 1 _) (wpAny_pure ?_)
  refine wpAny_bind (collect_set (A := A.in1) hh ⟨o, ho, hex.1, hd⟩ hf hb hr hl fun s1 vs k1 hz g1 o1 pm => ?_)
  have vl : vs.length = n := by rw [pm.length_eq, List.length_map, Array.length_toList]; exact hn
  have vz : vs.length ≤ sizeLine := by rw [vl, sizeLine_eq]; unfold scanBound at nb; omega
  have hI : IntsAre vs (vs.map Builtin.Re.reRawOf) := ints_of vs fun v hv => by
    obtain ⟨e, he, q⟩ := List.mem_map.mp (pm.mem_iff.mp hv); obtain ⟨k, tk, h1, _⟩ := g e he
    exact ⟨k, tk, by rw [← q]; exact h1⟩
  have pk : (vs.map Builtin.Re.reRawOf).Perm (es.toList.map keyOf) := by
    have q := pm.map Builtin.Re.reRawOf; rw [List.map_map] at q; exact q
  refine wpAny_bind (wpAny_newList ?_ vz)
  have oL : (s1.heap.push (seqObj "list" vs.toArray 0)).get? s1.heap.objs.size = some (seqObj "list" vs.toArray 0) := Heap.get?_push_size _ rfl
  refine wpAny_bind (wpAny_holding (wpAny_call_entry slot_list_sort ⟨_, oL, rfl⟩ entry_list_sort (SrtO.list_sort_ord SrtO.swo_int oL vz (fun h2 => SrtO.ints_sortable hI h2) fun out b1 b2 => ⟨_, rfl, ?_⟩) (args_list_sort _)))
  obtain ⟨j1, j2, j3⟩ := SrtO.ints_out hI b1 b2
  obtain ⟨c, hc⟩ := sortedHeap_at (vs := vs) (out := out.toArray) oL
  have pn := j2.trans pk
  refine wpAny_pure ⟨_, rfl, fin _ s1.heap.objs.size out.toArray c (out.map SrtO.iv) (fun b u e => ?_) g1 o1 hz hc (by simpa using j1) (lt_of_le_nodup _ j3 (pn.nodup_iff.mpr nd)) (fun k => by rw [pn.mem_iff, ← hm k]) ?_⟩
  · have q := k1 b u e; have lt := Heap.lt_size q
    show (sortedHeap (s1.heap.push (seqObj "list" vs.toArray 0)) s1.heap.objs.size vs out.toArray).get? b = some u
    rw [sortedHeap_old (Nat.ne_of_lt lt) (by rw [size_push']; exact Nat.lt_succ_of_lt lt)]; exact Heap.get?_push_of_some _ q
  · rw [pn.length_eq, List.length_map, Array.length_toList]; exact hn
end
/-- set(ns) -/
def rSetL (K : PySem.W.Frag) (w : World) : List V → Hp → VK → Prop := fun vs H Q => ∃ (l : Addr) (ns : List Int), vs = [.ref l] ∧ SqL K H l (ns.map V.int) ∧ ns.length + 1 < 4096 ∧ ∀ (c : Nat) (p : Addr), c ≤ ns.length → H p = none → Q (.ref p) (upd H p (SetO w p (fun z => decide (z ∈ ns)) c))
theorem cr_setL {X : Cx} (hc : X.calm = true) : CallR X (.type "set") (rSetL X.K X.w) := by
  intro pins s σ H vs us Q I r h
  obtain ⟨l, ns, rfl, hs, room, q⟩ := h
  obtain ⟨its, rv, hl, hz⟩ := I.list hs
  rw [Vals.ref1 r]
  have hi := rv.ints
  have ln : its.toArray.size = ns.length := by rw [List.size_toArray, ← rv.length, List.length_map]
  refine call_setL (I.ok.hd hc) hl.isList (by simpa using hi) (by rw [ln]; exact room) fun h' tk S c lc mem hS keep => ?_
  have R2 : SetR X.w h' s.heap.objs.size (fun z => decide (z ∈ ns)) c := hS.congr fun z => by
    by_cases e : z ∈ ns
    · rw [(mem z).mpr e, decide_eq_true e]
    · rw [decide_eq_false e]; cases q : S z with
      | false => rfl
      | true => exact absurd ((mem z).mp q) e
  exact ⟨.ref _, _, I.laid (t' := tk) (fun b u e => keep b u (Heap.lt_size e) e) (Nat.le_refl _) (setO_new R2), rfl, q c _ (by omega) (I.hok.fresh (Nat.le_refl _))⟩
/-- sorted(found) -/
def rSortedS (w : World) : List V → Hp → VK → Prop := fun vs H Q => ∃ (a : Addr) (S : Int → Bool) (n : Nat), vs = [V.ref a] ∧ H a = some (SetO w a S n) ∧ n < 4096 ∧
  ∀ (ns : List Int) (p : Addr), ns.Pairwise (· < ·) → (∀ k : Int, k ∈ ns ↔ S k = true) → H p = none → Q (.ref p) (upd H p (.lst (ns.map V.int)))
theorem cr_sortedS2 {X : Cx} (hc : X.calm = true) : CallR X (.builtin "sorted") (rSortedS X.w) := by
  intro pins s σ H vs us Q I r h
  obtain ⟨a, S, n, rfl, ha, room, q⟩ := h
  have R := setO_get I ha
  rw [Vals.ref1 r]
  refine sortedR R (I.ok.hd hc) fun s' p out c ns k g o hp hg hi hs hm hl => ?_
  have hlen : (ns.map V.int).length ≤ sizeLine := by rw [List.length_map, hl, sizeLine_eq]; omega
  have hn : H p = none := I.hok.fresh hp
  have J : Inv X pins σ (upd H p (.lst (ns.map V.int))) { s with heap := s'.heap, gens := s'.gens, drawn := s'.drawn, toks := s'.toks } := I.call (ch := []) (Un.laid k hp hn) (I.hok.laid k hp ⟨hlen, out.toList, c, vals_of_ints hi, hg⟩) (by rw [g]; exact I.bare) (fun _ z => nomatch z)
  have e : s' = { s with heap := s'.heap, gens := s'.gens, drawn := s'.drawn, toks := s'.toks } := by cases s'; cases s; cases o; rfl
  rw [e]
  exact ⟨.ref p, _, J, rfl, q ns p hs hm hn⟩
end Cf
/-! Own layer: a range with a step, held by a name and walked later. -/
namespace Cf
open PySem PySem.Spec PyProof.Rows L2
/-- the range object i, j, c at p -/
def RgO (p : Addr) (i j c : Int) : HO := .ext fun h => ∃ t u v, IsRange h p i j c t u v
/-- range(i, j, c) with ends of any size -/
def RgW (i j c : Int) (n : Nat) : Prop := c ≠ 0 ∧ c.natAbs < 1073741824 ∧ Builtin.Range.rangeSize i j c = n
theorem RgC.wide {i j c : Int} {n : Nat} (h : RgC i j c n) : RgW i j c n := ⟨h.1, h.2.1, h.2.2.2⟩
theorem turn_longC {P : Program} {w : World} {K : PySem.W.Frag} {tg : Expr} (it : Addr) (lo c : Int) (n : Nat) : Turn P w K tg (Itc lo c n) [it] it (fun i h => IsLongIter h it (lo + (i : Nat) * c) ((n : Int) - (i : Nat)) c) where
  mem := by simp
  obj := fun i h st b hb => by
    have e : b = it := by simpa using hb
    subst e
    exact ⟨_, st, fun v z => nomatch z⟩
  keep := fun i h h' st k => k it (by simp) _ st
  item := by
    intro X hP hw hK hc i pins s σ H E I hf st hg
    subst hP hw hK
    obtain ⟨f0, f1, f2, f3, f4, f5⟩ := hf it (by simp)
    have W := Walks.longrange (prog := X.prog) (w := X.w) (I.ok.hd hc) it lo c n
    refine W.item i s _ _ hg st fun v h' tk hv st' kk => ?_
    obtain ⟨t, rfl⟩ := hv
    have I1 : Inv X pins σ H { s with heap := h', toks := tk } := I.turned (fun b o hb e => kk b o (by simpa using hb) e) f0 f1 f3 f4 f5
    exact ⟨_, rfl, go_of (s := { s with heap := h', toks := tk }) (n := "longrange_iterator") st' rfl rfl (by decide) ⟨.int (lo + (i : Nat) * c), H, I1, ⟨t, rfl⟩, ⟨rfl, rfl⟩, st', fun b hb => (hf b hb).1⟩⟩
  done := by
    intro X hP hw hK hc i pins s σ H E I hf st hg
    subst hP hw hK
    obtain ⟨f0, f1, f2, f3, f4, f5⟩ := hf it (by simp)
    exact wpAny_pyNext_long_end (I.ok.hd hc) st (by have : n ≤ i := hg; omega) fun h' eb => ⟨rfl, I.turned (t' := s.toks) (fun b o hb e => eb b o hb e) f0 f1 f3 f4 f5⟩
  self := fun A i s Q E st h => wpAny_pyIter_longiter st h
section
variable {X : Cx}
/-- a range object walked, whatever its ends -/
theorem it_range {pins : List (Addr × Obj)} {σ : L2.St} {H : Hp} {s : Shared} {R : It → Hp → Prop} {tg : Expr} {E : Value → Shared → Prop} {p : Addr} {i j k : Int} {n : Nat} {t t' t'' : Tok} (I1 : Inv X pins σ H s) (hr : IsRange s.heap p i j k t t' t'') (c3 : Builtin.Range.rangeSize i j k = n) (q : R (Itc i k n) H) :
    wpAny (model X.prog X.w) X.A (pyIter (.ref p)) (PIE X pins σ tg R) E s := by
  have e1 : i + ((0 : Nat) : Int) * k = i := by simp
  have e2 : (n : Int) - ((0 : Nat) : Int) = Builtin.Range.rangeSize i j k := by rw [c3]; simp
  cases c2 : Builtin.Range.small i j k with
  | true =>
    refine wpAny_pyIter_range hr c2 ?_
    refine pi_one (tk := s.toks) I1 _ (turn_rangeC _ i k n) ?_ q
    show IsRangeIter _ _ (i + ((0 : Nat) : Int) * k) ((n : Int) - ((0 : Nat) : Int)) k
    rw [e1, e2]
    exact Heap.get?_push_size _ rfl
  | false =>
    refine wpAny_pyIter_longrange hr c2 ?_
    refine pi_one (tk := s.toks) I1 _ (turn_longC _ i k n) ?_ q
    show IsLongIter _ _ (i + ((0 : Nat) : Int) * k) ((n : Int) - ((0 : Nat) : Int)) k
    rw [e1, e2]
    exact Heap.get?_push_size _ rfl
theorem cr_range3 : CallR X (.type "range") (fun vs H Q => ∃ i j c n, vs = [.int i, .int j, .int c] ∧ RgW i j c n ∧ ∀ p, H p = none → Q (.ref p) (upd H p (RgO p i j c))) := by
  intro pins s σ H vs us Q I r h
  obtain ⟨i, j, c, n, rfl, ⟨c0, c1, c3⟩, q⟩ := h
  cases r with
  | cons r rr =>
    cases rr with
    | cons r' rr =>
      cases rr with
      | cons r'' rr =>
        cases rr
        obtain ⟨t, rfl⟩ := r
        obtain ⟨t', rfl⟩ := r'
        obtain ⟨t'', rfl⟩ := r''
        refine call_range_3 c0 ?_ (.inl (PyProof.noPylong_small c1))
        refine ⟨.ref s.heap.objs.size, upd H s.heap.objs.size (RgO s.heap.objs.size i j c), I.laid (t' := s.toks) (fun b o e => Heap.get?_push_of_some _ e) (Nat.le_refl _) ?_, rfl, q _ (I.hok.fresh (Nat.le_refl _))⟩
        exact ⟨⟨t, t', t'', Heap.get?_push_size _ rfl⟩, ⟨_, Heap.get?_push_size _ rfl⟩, fun h1 h2 ⟨a, b, d, e⟩ k => ⟨a, b, d, k _ e⟩⟩
def iRgV (te : TE) : TI := fun σ H R => te σ H fun x H1 => ∃ p i j c n, x = .ref p ∧ H1 p = some (RgO p i j c) ∧ RgW i j c n ∧ R (Itc i c n) H1
theorem pi_rgV {tg e : Expr} {te : TE} (he : PE X e te) : PI X tg e (iRgV te) := by
  refine ⟨fun pins s σ H R I h => ?_⟩
  refine thn (he.run pins s σ H _ I h) fun v s1 ⟨x, H1, I1, r1, q1⟩ => ?_
  obtain ⟨p, i, j, k, n, rfl, hp, ⟨c0, c1, c3⟩, q⟩ := q1
  cases r1
  obtain ⟨⟨t, t', t'', hr⟩, _⟩ := I1.hok p _ hp
  exact it_range I1 hr c3 q
/-- range(a, b), whatever the ends -/
def iRng2W (ta : TA) : TI := fun σ H R => ta σ H fun vs H1 => ∃ (i j : Int) (n : Nat), vs = [.int i, .int j] ∧ Builtin.Range.rangeSize i j 1 = n ∧ R (Itc i 1 n) H1
theorem pi_range2W {tg a b : Expr} {ta : TA} {p pos : Pos} (hg : Gl X "range") (hm : X.mg "range" = none) (ha : PA X [a, b] ta) (hs : starEach [a, b] X.env = [(false, eval a X.env), (false, eval b X.env)] := by rfl) (hs2 : starEach [b] X.env = [(false, eval b X.env)] := by rfl) :
    PI X tg (.Call (.Name "range" p) [a, b] [] pos) (iRng2W ta) := by
  refine ⟨fun pins s σ H R I h => ?_⟩
  refine Call_ (ld_blt I hg hm boot_range (PyProof.Rows.callWith_type1 (thn (ha.run pos pins s σ H _ I h) fun us s1 ⟨vs, H1, I1, r1, q1⟩ => ?_) (by rw [hs, hs2]) (by rw [hs2]; rfl)))
  obtain ⟨i, j, n, e, c3, q⟩ := q1
  subst e
  cases r1 with
  | cons r rr =>
    cases rr with
    | cons r' rr =>
      cases rr
      obtain ⟨t, rfl⟩ := r
      obtain ⟨t', rfl⟩ := r'
      refine call_range_2 ?_
      refine it_range (I1.kept fun b o e => Heap.get?_push_of_some _ e) (IsRange.new ..) c3 q
end
end Cf
/-! Days: lists of ints in the heap, places, whiles. -/
namespace Cf
open PySem PySem.Spec PyProof.Rows L2
/-- a list of ints at a -/
abbrev LI (K : PySem.W.Frag) (H : Hp) (a : Addr) (l : List Int) : Prop := SqL K H a (l.map V.int)
theorem while_d {c : TT} {tb : TS} {D : Ends} {σ : L2.St} {H : Hp} (Pv : L2.St → Hp → Prop) (μ : L2.St → Hp → Nat) (h0 : Pv σ H)
    (hs : ∀ σ H, Pv σ H → c σ H fun b H1 => if b = true then ∃ N : L2.St → Hp → Prop, (∀ σ' H', N σ' H' → ∃ m', m' < μ σ H ∧ (m' = μ σ' H' ∧ Pv σ' H')) ∧ tb { D with nx := N, ct := N, bk := D.nx } σ H1 else D.nx σ H1) : tWhile c tb D σ H :=
  ⟨fun m σ H => m = μ σ H ∧ Pv σ H, ⟨_, rfl, h0⟩, by rintro m σ H ⟨rfl, p⟩; exact hs σ H p⟩
/-- how many of the days are before a bound -/
def cnt (l : List Int) (b : Int) : Nat := (l.filter fun d => decide (d < b)).length
theorem cnt_le (l : List Int) (b : Int) : cnt l b ≤ l.length := List.length_filter_le _ _
theorem cnt_iff : ∀ {l : List Int} {b : Int} {i : Nat}, Asc l → i < l.length → (l.getD i 0 < b ↔ i < cnt l b)
  | [], b, i, _, h => absurd h (Nat.not_lt_zero _)
  | x :: l, b, i, A, h => by
    rw [Asc, List.pairwise_cons] at A
    by_cases c : x < b
    · have e : cnt (x :: l) b = cnt l b + 1 := by unfold cnt; rw [List.filter_cons, if_pos (decide_eq_true c)]; rfl
      rw [e]
      cases i with
      | zero => exact ⟨fun _ => Nat.succ_pos _, fun _ => c⟩
      | succ i =>
        rw [List.length_cons] at h
        have := cnt_iff (b := b) A.2 (show i < l.length by omega)
        rw [List.getD_cons_succ, this]
        omega
    · have e : cnt (x :: l) b = 0 := by
        unfold cnt
        rw [List.length_eq_zero_iff, List.filter_eq_nil_iff]
        intro y hy
        rcases List.mem_cons.mp hy with rfl | hy
        · simpa using c
        · have := A.1 y hy
          simp; omega
      rw [e]
      constructor
      · intro q
        cases i with
        | zero => exact absurd q c
        | succ i =>
          rw [List.length_cons] at h
          rw [List.getD_cons_succ] at q
          have := A.1 _ (getD_mem (show i < l.length by omega))
          omega
      · intro q; exact absurd q (Nat.not_lt_zero _)
theorem take_cnt {l : List Int} (A : Asc l) (b : Int) : l.take (cnt l b) = l.filter fun d => decide (d < b) := by
  refine asc_ext (A.sublist (List.take_sublist _ _)) (List.Pairwise.filter _ A) fun d => ?_
  rw [List.mem_filter]
  constructor
  · intro m
    obtain ⟨i, hi, e⟩ := mem_getD m
    rw [List.length_take] at hi
    rw [getD_take (by omega)] at e
    refine ⟨List.mem_of_mem_take m, decide_eq_true ?_⟩
    rw [← e, cnt_iff A (by omega)]; omega
  · rintro ⟨m, q⟩
    obtain ⟨i, hi, e⟩ := mem_getD m
    have lt := (cnt_iff A hi).mp (by rw [e]; exact of_decide_eq_true q)
    have := getD_mem (l := l.take (cnt l b)) (i := i) (by rw [List.length_take]; omega)
    rw [getD_take lt, e] at this
    exact this
theorem drop_cnt {l : List Int} (A : Asc l) (b : Int) : l.drop (cnt l b) = l.filter fun d => decide (b ≤ d) := by
  refine asc_ext (A.sublist (List.drop_sublist _ _)) (List.Pairwise.filter _ A) fun d => ?_
  rw [List.mem_filter]
  constructor
  · intro m
    obtain ⟨i, hi, e⟩ := mem_getD m
    rw [List.length_drop] at hi
    rw [getD_drop] at e
    refine ⟨List.mem_of_mem_drop m, decide_eq_true ?_⟩
    have := cnt_iff (b := b) A (show cnt l b + i < l.length by omega)
    omega
  · rintro ⟨m, q⟩
    obtain ⟨i, hi, e⟩ := mem_getD m
    have ge : cnt l b ≤ i := by
      rcases Nat.lt_or_ge i (cnt l b) with c | c
      · have := (cnt_iff A hi).mpr c
        have := of_decide_eq_true q
        omega
      · exact c
    have := getD_mem (l := l.drop (cnt l b)) (i := i - cnt l b) (by rw [List.length_drop]; omega)
    rw [getD_drop, show cnt l b + (i - cnt l b) = i by omega, e] at this
    exact this
theorem els_filter_lt (S : Int → Bool) {lo hi b : Int} (h : b ≤ hi) : (els S lo hi).filter (fun d => decide (d < b)) = els S lo b := by
  refine asc_ext (List.Pairwise.filter _ (asc_els _ _ _)) (asc_els _ _ _) fun d => ?_
  rw [List.mem_filter, mem_els, mem_els, decide_eq_true_iff]
  constructor
  · rintro ⟨⟨a, b⟩, c⟩; exact ⟨⟨a.1, c⟩, b⟩
  · rintro ⟨a, b⟩; exact ⟨⟨⟨a.1, by omega⟩, b⟩, a.2⟩
theorem els_filter_ge (S : Int → Bool) {lo hi b : Int} (h : lo ≤ b) : (els S lo hi).filter (fun d => decide (b ≤ d)) = els S b hi := by
  refine asc_ext (List.Pairwise.filter _ (asc_els _ _ _)) (asc_els _ _ _) fun d => ?_
  rw [List.mem_filter, mem_els, mem_els, decide_eq_true_iff]
  constructor
  · rintro ⟨⟨a, b⟩, c⟩; exact ⟨⟨c, a.2⟩, b⟩
  · rintro ⟨a, b⟩; exact ⟨⟨⟨by omega, a.2⟩, b⟩, a.1⟩
/-! ### items by index -/
theorem atI_int {l : List Int} {i : Int} (h0 : 0 ≤ i) (h1 : i < l.length) : atI (l.map V.int) i = some (V.int (l.getD i.toNat 0)) := by
  have e : (l.map V.int)[i.toNat]? = some (V.int (l.getD i.toNat 0)) := by
    rw [List.getElem?_map, List.getD_eq_getElem?_getD, List.getElem?_eq_getElem (by omega)]; rfl
  have := atI_nat e
  rwa [Int.toNat_of_nonneg h0] at this
theorem atI_neg {l : List Int} {i : Int} (h0 : i < 0) (h1 : -(l.length : Int) ≤ i) : atI (l.map V.int) i = some (V.int (l.getD (l.length - (-i).toNat) 0)) := by
  unfold atI
  have e : ixN (l.map V.int).length i = some (l.length - (-i).toNat) := by
    unfold ixN
    rw [List.length_map, if_neg (by omega), if_pos (by omega)]
    congr 1
    omega
  rw [e]
  show (l.map V.int)[l.length - (-i).toNat]? = _
  rw [List.getElem?_map, List.getD_eq_getElem?_getD, List.getElem?_eq_getElem (by omega)]
  rfl
theorem cut_to {l : List Int} {k : Int} (h0 : 0 ≤ k) : cutV (l.map V.int) none (some k) = (l.take k.toNat).map V.int := by
  unfold cutV
  have e : HT.sIx (l.map V.int).length (l.map V.int).length (some k) = min k.toNat l.length := by
    have := HT.sIx_nat (l.map V.int).length (l.map V.int).length k.toNat
    rw [Int.toNat_of_nonneg h0] at this
    rw [this, List.length_map]
  rw [HT.sIx_none, e, List.drop_zero, Nat.sub_zero, ← List.map_take]
  congr 1
  rcases Nat.le_total k.toNat l.length with c | c
  · rw [Nat.min_eq_left c]
  · rw [Nat.min_eq_right c, List.take_length, List.take_of_length_le c]
theorem cut_from {l : List Int} {k : Int} (h0 : 0 ≤ k) : cutV (l.map V.int) (some k) none = (l.drop k.toNat).map V.int := by
  unfold cutV
  have e : HT.sIx (l.map V.int).length 0 (some k) = min k.toNat l.length := by
    have := HT.sIx_nat (l.map V.int).length 0 k.toNat
    rw [Int.toNat_of_nonneg h0] at this
    rw [this, List.length_map]
  rw [HT.sIx_none, e, List.length_map, ← List.map_drop, List.take_of_length_le (by rw [List.length_map, List.length_drop]; omega)]
  congr 1
  rcases Nat.le_total k.toNat l.length with c | c
  · rw [Nat.min_eq_left c]
  · rw [Nat.min_eq_right c, List.drop_length, List.drop_of_length_le c]
theorem cut_mid {l : List Int} {j k : Int} (h0 : 0 ≤ j) (h1 : j ≤ k) (h2 : k ≤ l.length) : cutV (l.map V.int) (some j) (some k) = ((l.take k.toNat).drop j.toNat).map V.int := by
  unfold cutV
  have e1 : HT.sIx (l.map V.int).length 0 (some j) = j.toNat := by
    have := HT.sIx_nat (l.map V.int).length 0 j.toNat
    rw [Int.toNat_of_nonneg h0] at this
    rw [this, List.length_map]; omega
  have e2 : HT.sIx (l.map V.int).length (l.map V.int).length (some k) = k.toNat := by
    have := HT.sIx_nat (l.map V.int).length (l.map V.int).length k.toNat
    rw [Int.toNat_of_nonneg (by omega)] at this
    rw [this, List.length_map]; omega
  rw [e1, e2, ← List.map_drop, ← List.map_take, List.drop_take]
/-! ### lists of ints compared -/
def pdL (l : List Int) : PyData := .list (l.map PyData.int)
theorem dpAll_ints {K : PySem.W.Frag} {H : Hp} : ∀ l : List Int, DpAll K H (l.map V.int) (l.map PyData.int)
  | [] => .nil
  | x :: l => .cons (.int x) (dpAll_ints l)
theorem dpL {K : PySem.W.Frag} {H : Hp} {a : Addr} {l : List Int} (h : LI K H a l) : Dp K H (.ref a) (pdL l) := .lst h (dpAll_ints l)
theorem eqvAll_ints : ∀ a b : List Int, PyData.eqvAll (a.map PyData.int) (b.map PyData.int) = decide (a = b)
  | [], [] => rfl
  | [], _ :: _ => rfl
  | _ :: _, [] => rfl
  | x :: a, y :: b => by
    show (PyData.eqv (.int x) (.int y) && PyData.eqvAll (a.map PyData.int) (b.map PyData.int)) = _
    rw [eqvAll_ints a b]
    have e : PyData.eqv (.int x) (.int y) = decide (x = y) := by simp [PyData.eqv]; rfl
    rw [e, Bool.eq_iff_iff]
    simp
theorem eqvL (a b : List Int) : PyData.eqv (pdL a) (pdL b) = decide (a = b) := by
  unfold pdL
  rw [PyData.eqv]
  exact eqvAll_ints a b
theorem canAll_ints : ∀ l : List Int, PyData.canLayAll0 (l.map PyData.int) = true
  | [] => rfl
  | x :: l => by
    show (PyData.canLay0 (.int x) && PyData.canLayAll0 (l.map PyData.int)) = true
    rw [canAll_ints l]
    rfl
theorem depthAll_ints : ∀ l : List Int, PyData.depthAll (l.map PyData.int) ≤ 1
  | [] => by decide
  | x :: l => by
    have h := depthAll_ints l
    show max (PyData.depth (.int x)) (PyData.depthAll (l.map PyData.int)) ≤ 1
    have : PyData.depth (.int x) ≤ 1 := by simp [PyData.depth]
    omega
theorem shapedL (l : List Int) : SeqAt.shaped (pdL l) = true := by
  unfold SeqAt.shaped pdL
  rw [Bool.and_eq_true]
  refine ⟨?_, decide_eq_true ?_⟩
  · rw [PyData.canLay0]; exact canAll_ints l
  · rw [PyData.depth]; have := depthAll_ints l; omega
/-! ### one more item of a list that grows -/
theorem acc_step {H1 H4 : Hp} {D : Addr} {l l' : List V} {y : V} (s : Same H1 H4) (hD : H1 D = none) (h : H4 D = some (.lst l)) (hz : l.length < sizeLine) (e : l ++ [y] = l') :
    ∃ acc, H4 D = some (.lst acc) ∧ acc.length < sizeLine ∧ (Same H1 (upd H4 D (.lst (acc ++ [y]))) ∧ upd H4 D (.lst (acc ++ [y])) D = some (.lst l')) :=
  ⟨l, h, hz, s.wr hD, by rw [upd_same, e]⟩
theorem take_map_succ {l : List Int} {i : Nat} {z : Int} {f : Int → V} (h : l[i]? = some z) : (l.take i).map f ++ [f z] = (l.take (i + 1)).map f := by
  rw [List.take_succ, h]
  simp
theorem LI.new {K : PySem.W.Frag} {H : Hp} {p : Addr} {l : List Int} (h : H p = some (.lst (l.map V.int))) : LI K H p l := SqL.of h
theorem bool_dec {p : Prop} [Decidable p] {b : Bool} (h : b = true ↔ p) : b = decide p := by
  cases b <;> simp_all
theorem mod_z (a b : Nat) : decide (V.int ((a : Int) % (b : Int)) = V.int 0) = decide (a % b = 0) := by
  rw [dec_int, Bool.eq_iff_iff, beq_iff_eq, decide_eq_true_iff]
  omega
/-- the empty cycle: a finite set -/
theorem start_nil {S : Int → Bool} {s : Int} (F : Fr S s 1) (hc : els S s (s + 1) = []) {s' : Int} (hs : (els S 0 s = [] ∧ s' = 0) ∨ (els S 0 s ≠ [] ∧ s' = (els S 0 s).getD ((els S 0 s).length - 1) 0 + 1)) :
    (Fr S s' 1 ∧ ∀ s'', Fr S s'' 1 → s' ≤ s'') ∧ s' ≤ s ∧ els S 0 s = els S 0 s' ∧ els S s' (s' + 1) = [] := by
  have s0 := F.s0
  have off : ∀ d, s ≤ d → S d = false := fun d hd => by
    rw [← F.mod hd, Int.emod_one, Int.add_zero]
    cases e : S s with
    | false => rfl
    | true =>
      have : s ∈ els S s (s + 1) := mem_els.mpr ⟨⟨by omega, by omega⟩, e⟩
      rw [hc] at this; cases this
  have A := asc_els S 0 s
  have key : 0 ≤ s' ∧ s' ≤ s ∧ (∀ d, s' ≤ d → S d = false) ∧ (0 < s' → S (s' - 1) = true) := by
    rcases hs with ⟨e, rfl⟩ | ⟨e, es⟩
    · refine ⟨by omega, s0, fun d hd => ?_, fun h => absurd h (by omega)⟩
      by_cases c : s ≤ d
      · exact off d c
      · cases x : S d with
        | false => rfl
        | true =>
          have : d ∈ els S 0 s := mem_els.mpr ⟨⟨hd, by omega⟩, x⟩
          rw [e] at this; cases this
    · have pos : 0 < (els S 0 s).length := List.length_pos_iff.mpr e
      have m := mem_els.mp (getD_mem (l := els S 0 s) (i := (els S 0 s).length - 1) (by omega))
      refine ⟨by omega, by omega, fun d hd => ?_, fun _ => by rw [es, Int.add_sub_cancel]; exact m.2⟩
      by_cases c : s ≤ d
      · exact off d c
      · cases x : S d with
        | false => rfl
        | true =>
          obtain ⟨i, hi, ei⟩ := mem_getD (mem_els.mpr ⟨⟨by omega, by omega⟩, x⟩ : d ∈ els S 0 s)
          have := asc_le A (show i ≤ (els S 0 s).length - 1 by omega) (by omega)
          omega
  obtain ⟨k0, k1, k2, k3⟩ := key
  refine ⟨⟨⟨k0, by omega, fun d hd => by rw [k2 _ (by omega), k2 _ hd]⟩, fun s'' G => ?_⟩, k1, ?_, ?_⟩
  · have g0 := G.s0
    rcases Int.lt_or_le s'' s' with c | c
    · exfalso
      have h1 := k3 (by omega)
      have h2 := G.per (s' - 1) (by omega)
      rw [Int.sub_add_cancel, k2 s' (Int.le_refl _), h1] at h2
      cases h2
    · exact c
  · rw [els_cut S k0 k1]
    have : els S s' s = [] := by
      refine List.eq_nil_iff_forall_not_mem.mpr fun d hd => ?_
      have m := mem_els.mp hd
      rw [k2 d m.1.1] at m
      exact Bool.noConfusion m.2
    rw [this, List.append_nil]
  · refine List.eq_nil_iff_forall_not_mem.mpr fun d hd => ?_
    have m := mem_els.mp hd
    rw [k2 d m.1.1] at m
    exact Bool.noConfusion m.2
theorem szl {n : Nat} (h : n ≤ 8000000) : n < sizeLine := by rw [sizeLine_eq]; omega
theorem szle {n : Nat} (h : n ≤ 8000000) : n ≤ sizeLine := Nat.le_of_lt (szl h)
theorem cnt_mono (l : List Int) {a b : Int} (h : a ≤ b) : cnt l a ≤ cnt l b := by
  unfold cnt
  induction l with
  | nil => exact Nat.le_refl _
  | cons x l ih =>
    rw [List.filter_cons, List.filter_cons]
    by_cases c : x < a
    · rw [if_pos (decide_eq_true c), if_pos (decide_eq_true (show x < b by omega)), List.length_cons, List.length_cons]; omega
    · rw [if_neg (by simpa using c)]
      split
      · rw [List.length_cons]; omega
      · exact ih
theorem filter_cnt (l : List Int) {a b : Int} (h : a ≤ b) : cnt (l.filter fun d => decide (d < b)) a = cnt l a := by
  unfold cnt
  rw [List.filter_filter]
  congr 1
  refine List.filter_congr fun d _ => ?_
  rw [← Bool.decide_and]
  refine decide_eq_decide.mpr ?_
  omega
theorem drop_sub {l : List Int} (A : Asc l) {a b : Int} (h : a ≤ b) : (l.filter fun d => decide (d < b)).drop (cnt l a) = (l.filter fun d => decide (d < b)).filter fun d => decide (a ≤ d) := by
  rw [← filter_cnt l h]
  exact drop_cnt (List.Pairwise.filter _ A) a
theorem rk_head {S : Int → Bool} {s p day : Int} (F : Fr S s p) (h : day ≤ s) : Rk S s p day (cnt (els S 0 s) day) := by
  have A := asc_els S 0 s
  have cl := cnt_le (els S 0 s) day
  refine ⟨fun i hi => ⟨.inl (by omega), ?_⟩, fun i hi v => ?_⟩
  · unfold dAt
    rw [if_pos (by omega)]
    exact (cnt_iff A (by omega)).mpr hi
  · unfold dAt
    by_cases c : i < (els S 0 s).length
    · rw [if_pos c]
      have := cnt_iff (b := day) A c
      omega
    · rw [if_neg c]
      have hc := v.resolve_left c
      have z := cdy_zero F hc
      have l := cdy_le F hc (show 0 ≤ ((i - (els S 0 s).length : Nat) : Int) by omega)
      omega
theorem rk_tail {S : Int → Bool} {s p day : Int} (F : Fr S s p) (h : s < day) :
    Rk S s p day ((els S 0 s).length + (((day - s) / p).toNat * (els S s (s + p)).length + cnt (els S s (s + p)) (s + (day - s) % p))) := by
  have p1 := F.p1
  have A := asc_els S s (s + p)
  have M := fun k (hk : k < (els S s (s + p)).length) => (mem_els.mp (getD_mem hk)).1
  have m0 := Int.emod_nonneg (day - s) (show p ≠ 0 by omega)
  have m1 := Int.emod_lt_of_pos (day - s) (show 0 < p by omega)
  have dm := Int.mul_ediv_add_emod (day - s) p
  have t0 : 0 ≤ (day - s) / p := Int.ediv_nonneg (by omega) (by omega)
  generalize hT : ((day - s) / p).toNat = T
  have eT : (day - s) / p = (T : Int) := by omega
  rw [eT] at dm
  generalize hr : (day - s) % p = r at *
  have cl := cnt_le (els S s (s + p)) (s + r)
  -- a day of the cycle by its turn and place
  have at_ : ∀ (hc : els S s (s + p) ≠ []) (j : Nat), cdy p (els S s (s + p)) (j : Int) = (els S s (s + p)).getD (j % (els S s (s + p)).length) 0 + ((j / (els S s (s + p)).length : Nat) : Int) * p := fun hc j => by
    unfold cdy
    rw [← Int.natCast_emod, Int.toNat_natCast, ← Int.natCast_ediv]
  have key : ∀ (hc : els S s (s + p) ≠ []) (j : Nat), cdy p (els S s (s + p)) (j : Int) < day ↔ j < T * (els S s (s + p)).length + cnt (els S s (s + p)) (s + r) := fun hc j => by
    have n0 := cyc_pos F hc
    have jm := Nat.mod_lt j n0
    have jd := Nat.div_add_mod j (els S s (s + p)).length
    have mm := M _ jm
    rw [at_ hc j]
    have cI := cnt_iff (b := s + r) A jm
    rcases Nat.lt_trichotomy (j / (els S s (s + p)).length) T with q | q | q
    · have a1 : ((j / (els S s (s + p)).length : Nat) : Int) * p + p ≤ p * T := by
        have : (((j / (els S s (s + p)).length : Nat) : Int) + 1) * p ≤ (T : Int) * p := Int.mul_le_mul_of_nonneg_right (by omega) (by omega)
        rw [Int.add_mul, Int.one_mul] at this
        rw [Int.mul_comm p]
        exact this
      have a2 : (j / (els S s (s + p)).length + 1) * (els S s (s + p)).length ≤ T * (els S s (s + p)).length := Nat.mul_le_mul_right _ q
      rw [Nat.add_mul, Nat.mul_comm (j / _)] at a2
      omega
    · rw [q] at jd ⊢
      rw [Int.mul_comm (T : Int) p]
      rw [Nat.mul_comm T]
      omega
    · have a1 : p * T + p ≤ ((j / (els S s (s + p)).length : Nat) : Int) * p := by
        have : ((T : Int) + 1) * p ≤ ((j / (els S s (s + p)).length : Nat) : Int) * p := Int.mul_le_mul_of_nonneg_right (by omega) (by omega)
        rw [Int.add_mul, Int.one_mul] at this
        rw [Int.mul_comm p]
        exact this
      have a2 : (T + 1) * (els S s (s + p)).length ≤ (j / (els S s (s + p)).length) * (els S s (s + p)).length := Nat.mul_le_mul_right _ q
      rw [Nat.add_mul, Nat.mul_comm (j / _)] at a2
      omega
  refine ⟨fun i hi => ?_, fun i hi v => ?_⟩
  · by_cases c : i < (els S 0 s).length
    · refine ⟨.inl c, ?_⟩
      unfold dAt
      rw [if_pos c]
      have := (mem_els.mp (getD_mem c)).1.2
      omega
    · have hc : els S s (s + p) ≠ [] := fun e => by rw [e] at hi; simp [cnt] at hi; omega
      refine ⟨.inr hc, ?_⟩
      unfold dAt
      rw [if_neg c]
      exact (key hc _).mpr (by omega)
  · have c : ¬ i < (els S 0 s).length := by omega
    have hc := v.resolve_left c
    unfold dAt
    rw [if_neg c]
    have := key hc (i - (els S 0 s).length)
    omega
end Cf
/-! Own layer: a class's methods, properties, operators, its making, as their callers see them. -/
namespace Cf
open PySem PySem.Spec PyProof.Rows L2
section
variable (P : Program) (w : World) (K : PySem.W.Frag) (mg : Str → Option Value) (base : Heap) (k : Nat) (C : Addr)
structure Dm (m : Str) (ps : List Str) (sp : Sp) : Prop where
  ex : ∃ (f : Addr) (fd : FuncData), FnOk P w K mg base CX0 k f fd ps sp ∧ Meth K C m f ∧ Binds K fd ps []
structure Dpr (m : Str) (sp : Sp) : Prop where
  ex : ∃ (p g : Addr) (fd : FuncData), FnOk P w K mg base CX0 k g fd ["self"] sp ∧ PropOf K C m p g ∧ Binds K fd ["self"] []
structure Dmk (ps : List Str) (sp : Sp) : Prop where
  ex : ∃ (f : Addr) (fd : FuncData), FnOk P w K mg base CX0 k f fd ps sp ∧ Mk K C f ∧ Binds K fd ps []
structure Dow (m : Str) (ps : List Str) (sp : Sp) : Prop where
  ex : ∃ (f : Addr) (fd : FuncData), FnOk P w K mg base CX0 k f fd ps sp ∧ Own K C m f ∧ Binds K fd ps []
structure Dcm (m : Str) (ps : List Str) (sp : Sp) : Prop where
  ex : ∃ (p g : Addr) (fd : FuncData) (mc : Value), FnOk P w K mg base CX0 k g fd ps sp ∧ ClX.CRead K C mc ∧ ClX.CMet K C mc m p g ∧ Binds K fd ps []
end
section
variable {X : Cx} {k : Nat} {C : Addr} {m x : Str} {ps : List Str} {sp : Sp} {o e : Expr} {es : List Expr} {ta : TE} {t : TA} {pos apos p : Pos}
theorem pe_dm {pl : Sem Bool} (D : Dm X.prog X.w X.K X.mg X.base k C m ps sp) (c : Cls X.K C) (hr : Room k X.A) (he : PE X o ta) (ha : PA X (e :: es) t)
    (hst : starEach (e :: es) X.env = (false, eval e X.env) :: starEach es X.env := by rfl) (hpl : (backTo pos (starEach es X.env)).any (·.1) = false := by rfl)
    (ht : eval (.Call (.Attribute o m apos) (e :: es) [] pos) X.env = (do
      let ov ← eval o X.env
      standAt apos.atName
      let (f, first) ← holding [ov] (getMethod ov m pl)
      callWith pos f first (backTo pos (starEach (e :: es) X.env)) (backToKw pos (keywordEach [] X.env))) := by rfl) :
    PE X (.Call (.Attribute o m apos) (e :: es) [] pos) (tMeth C m sp [] E0 ta t) := by
  obtain ⟨f, fd, F, M, b⟩ := D.ex
  exact pe_meth he c M F hr b .nil pass0 ha hst hpl ht
theorem pe_dprop (D : Dpr X.prog X.w X.K X.mg X.base k C m sp) (c : Cls X.K C) (hr : Room (k + 1) X.A) (he : PE X o ta) (hab : attributeBase o m X.env (eval o X.env) = eval o X.env := by rfl) : PE X (.Attribute o m pos) (tProp C sp [] E0 ta) := by
  obtain ⟨p, g, fd, F, hp, b⟩ := D.ex
  exact pe_prop he c hp F hr b .nil pass0 hab
theorem pe_dmake (D : Dmk X.prog X.w X.K X.mg X.base k C ps sp) (hm : X.mg x = some (.ref C)) (hr : Room (k + 1) X.A) (ha : PA X (e :: es) t) (hg : Gl X x := by rfl) (hdb : (x == ("__debug__" : Str)) = false := by decide)
    (he : starEach (e :: es) X.env = (false, eval e X.env) :: starEach es X.env := by rfl) (hpl : (backTo pos (starEach es X.env)).any (·.1) = false := by rfl) : PE X (.Call (.Name x p) (e :: es) [] pos) (tMake C sp [] E0 t) := by
  obtain ⟨f, fd, F, M, b⟩ := D.ex
  exact pe_make M F hr hg hm b .nil pass0 ha hdb he hpl
theorem pe_dmakeL {i : Nat} (D : Dmk X.prog X.w X.K X.mg X.base k C ps sp) (hr : Room (k + 1) X.A) (hN : X.N[i]? = some x) (hv : Vis X.env.scope x) (ha : PA X (e :: es) t) (hdb : (x == ("__debug__" : Str)) = false := by decide) (hcd : (x == ("__classdict__" : Str)) = false := by decide)
    (he : starEach (e :: es) X.env = (false, eval e X.env) :: starEach es X.env := by rfl) (hpl : (backTo pos (starEach es X.env)).any (·.1) = false := by rfl) : PE X (.Call (.Name x p) (e :: es) [] pos) (tMakeL i C sp t) := by
  obtain ⟨f, fd, F, M, b⟩ := D.ex
  exact pe_makeL M F hr hN hv b ha hdb hcd he hpl
theorem op_d {op : Operator} (D : Dow X.prog X.w X.K X.mg X.base k C (PySem.dunder op.info.2) ps sp) (hc : PySem.W.selfFirst X.K C = true) (hr : Room k X.A) : OpR X (binaryOp op) (rOwn C sp) := by
  obtain ⟨f, fd, F, o, b⟩ := D.ex
  exact op_own hc o F b hr
theorem op_dEq (D : Dow X.prog X.w X.K X.mg X.base k C "__eq__" ps sp) (hn : PySem.W.notFirst X.K C (.ref C) = true) (hr : Room k X.A) : OpR X (compareOp .Eq) (rOwn C sp) := by
  obtain ⟨f, fd, F, o, b⟩ := D.ex
  exact op_ownEq hn o F b hr (by have := hr.units; omega)
theorem tru_d (D : Dow X.prog X.w X.K X.mg X.base k C "__bool__" ps sp) (hr : Room k X.A) : TruR X (rTru C sp) := by
  obtain ⟨f, fd, F, o, b⟩ := D.ex
  exact tru_own o F b hr
theorem pe_dcm {pl : Sem Bool} (D : Dcm X.prog X.w X.K X.mg X.base k C m ps sp) (hr : Room k X.A) (he : PE X o ta) (ha : PA X (e :: es) t)
    (hst : starEach (e :: es) X.env = (false, eval e X.env) :: starEach es X.env := by rfl) (hpl : (backTo pos (starEach es X.env)).any (·.1) = false := by rfl)
    (ht : eval (.Call (.Attribute o m apos) (e :: es) [] pos) X.env = (do
      let ov ← eval o X.env
      standAt apos.atName
      let (f, first) ← holding [ov] (getMethod ov m pl)
      callWith pos f first (backTo pos (starEach (e :: es) X.env)) (backToKw pos (keywordEach [] X.env))) := by rfl) :
    PE X (.Call (.Attribute o m apos) (e :: es) [] pos) (ClX.tCMeth C sp E0 ta t) := by
  obtain ⟨p, g, fd, mc, F, r, c, b⟩ := D.ex
  refine ClX.pe_cmeth he r c ((F.raw b .nil).imp fun vs H Q E h => ?_) hr pass0 ha hst hpl ht
  rw [List.append_nil]
  exact h
end
/-- what the text has of the class -/
structure Txd (K : PySem.W.Frag) (mg : Str → Option Value) (C : Addr) : Prop where
  cl : Cls K C
  nP : NoAttr K C "_period"
  nS : NoAttr K C "_start"
  nH : NoAttr K C "_head"
  nC : NoAttr K C "_cycle"
  mgC : mg "DaySet" = some (.ref C)
  sf : PySem.W.selfFirst K C = true
  nf : PySem.W.notFirst K C (.ref C) = true
  ha : PySem.W.findIn K (.ref C) "__class__" = some (some (.builtin "object.__class__"))
  hn : PySem.W.specialIn K (.builtin "object.__class__") "__get__" = some (some (.builtin "getset_descriptor.__get__"))
  htk : PySem.W.takesIn K (.builtin "object.__class__") = some true
  hm : PySem.W.mroIn K C (.type "object") = some true
  me : PySem.W.kitOne K (.ref C) (.ref C) = some true
theorem Txd.ty {K : PySem.W.Frag} {mg : Str → Option Value} {C : Addr} (T : Txd K mg C) {H : Hp} {a dx : Addr} {fs : List (Str × V)} (e : H a = some (.ins C dx fs)) : TyX K H (.ref a) (.ref C) := .base (.ins e T.cl T.ha T.hn T.htk T.hm)
end Cf
/-! Own layer: dicts whose keys are tuples of numbers and truths. -/
namespace Cf
open PySem PySem.Spec PyProof.Rows L2
/-- an entry: the tuple at hand, the numbers that it holds (a truth as 0 or 1), the value -/
abbrev Ent := Addr × List Int × V
def nkey (k : List Int) : NestedKey := .tup (k.map .num)
theorem nums_inj : ∀ {a b : List Int}, a.map NestedKey.num = b.map NestedKey.num → a = b
  | [], [], _ => rfl
  | [], _ :: _, h => nomatch h
  | _ :: _, [], h => nomatch h
  | x :: a, y :: b, h => by
    rw [List.map_cons, List.map_cons] at h
    injection h with h1 h2
    injection h1 with h1
    rw [h1, nums_inj h2]
theorem nkey_inj {a b : List Int} (h : nkey a = nkey b) : a = b := by
  unfold nkey at h
  injection h with h
  exact nums_inj h
inductive NumV : V → Int → Prop
  | int (i : Int) : NumV (.int i) i
  | bl (b : Bool) : NumV (.bl b) (if b = true then 1 else 0)
/-- a tuple of numbers and truths -/
def KeyAt (H : Hp) (q : Addr) (k : List Int) : Prop := k.length ≤ 8 ∧ ∃ vs : List V, H q = some (.tup vs) ∧ Paired NumV vs k
theorem KeyAt.same {H H' : Hp} {q : Addr} {k : List Int} (h : KeyAt H q k) (e : Same H H') : KeyAt H' q k := ⟨h.1, h.2.choose, e _ _ h.2.choose_spec.1, h.2.choose_spec.2⟩
def EntRel (x : Ent) (y : NestedKey × Addr × Value) : Prop := y.1 = nkey x.2.1 ∧ y.2.1 = x.1 ∧ RelV x.2.2 y.2.2
def KObj (P : Program) (w : World) (h : Heap) (a : Addr) (xs : List Ent) : Prop :=
  ∃ (o : Obj) (es : Array DictEntry) (ep : Nat) (ys : List (NestedKey × Addr × Value)), h.get? a = some o ∧ o.ExactDict ∧ o.data = .dict es ep ∧ es.toList = ys.map (entryOfKey (nestedKind P w)) ∧ Paired EntRel xs ys
def KDo (P : Program) (w : World) (a : Addr) (xs : List Ent) : HO := .ext fun h => (a == sysModules) = false ∧ (xs.map fun x => x.2.1).Nodup ∧ xs.length ≤ sizeLine ∧ KObj P w h a xs
def KeysAt (H : Hp) (xs : List Ent) : Prop := ∀ x ∈ xs, KeyAt H x.1 x.2.1
theorem KeysAt.same {H H' : Hp} {xs : List Ent} (h : KeysAt H xs) (e : Same H H') : KeysAt H' xs := fun x hx => (h x hx).same e
section
variable {P : Program} {w : World} {H : Hp} {h : Heap} {a : Addr} {xs : List Ent}
theorem kdo_new (n : (a == sysModules) = false) (nd : (xs.map fun x => x.2.1).Nodup) (sz : xs.length ≤ sizeLine) (k : KObj P w h a xs) : ObjOk P w H h a (KDo P w a xs) := by
  refine ⟨⟨n, nd, sz, k⟩, ?_, ?_⟩
  · obtain ⟨o, _, _, _, e, _⟩ := k
    exact ⟨o, e⟩
  · rintro h1 h2 ⟨n, nd, sz, o, es, ep, ys, e, r⟩ k
    exact ⟨n, nd, sz, o, es, ep, ys, k _ e, r⟩
end
theorem num_nested {h : Heap} {v : V} {i : Int} {u : Value} (n : NumV v i) (r : RelV v u) : NestedIs h (.num i) u := by
  cases n with
  | int i =>
    obtain ⟨t, rfl⟩ := (show ∃ t, u = Value.int i t from r)
    exact .int i t
  | bl b =>
    cases (show u = Value.bool b from r)
    exact .bool rfl
theorem nested_all {h : Heap} : ∀ {vs : List V} {k : List Int} {us : List Value}, Paired NumV vs k → Vals vs us → NestedAll h (k.map .num) us
  | _, _, _, .nil, .nil => .nil
  | _, _, _, .cons n ns, .cons r rs => .cons (num_nested n r) (nested_all ns rs)
theorem depthAll_nums : ∀ k : List Int, NestedKey.depthAll (k.map .num) = 0
  | [] => NestedKey.depthAll.eq_1
  | i :: k => by rw [List.map_cons, NestedKey.depthAll.eq_2, depthAll_nums k]; rfl
theorem depth_nums (k : List Int) : NestedKey.depth (nkey k) ≤ 8 := by
  unfold nkey
  rw [NestedKey.depth.eq_4, depthAll_nums]
  decide
theorem paired_mem {α β : Type} {R : α → β → Prop} : ∀ {xs : List α} {ys : List β}, Paired R xs ys → ∀ y ∈ ys, ∃ x ∈ xs, R x y
  | _, _, .nil, y, h => nomatch h
  | _, _, .cons r rs, y, h => by
    rcases List.mem_cons.mp h with h | h
    · subst h; exact ⟨_, List.mem_cons_self, r⟩
    · obtain ⟨x, hx, q⟩ := paired_mem rs y h
      exact ⟨x, List.mem_cons_of_mem _ hx, q⟩
theorem ent_keys : ∀ {xs : List Ent} {ys : List (NestedKey × Addr × Value)}, Paired EntRel xs ys → ys.map (·.1) = xs.map fun x => nkey x.2.1
  | _, _, .nil => rfl
  | _, _, .cons r rs => by rw [List.map_cons, List.map_cons, ent_keys rs, r.1]
theorem nodup_keys {xs : List Ent} (h : (xs.map fun x => x.2.1).Nodup) : (xs.map fun x => nkey x.2.1).Nodup := by
  induction xs with
  | nil => exact List.nodup_nil
  | cons x xs ih =>
    rw [List.map_cons, List.nodup_cons] at h ⊢
    refine ⟨fun m => h.1 ?_, ih h.2⟩
    obtain ⟨y, hy, e⟩ := List.mem_map.mp m
    exact List.mem_map.mpr ⟨y, hy, nkey_inj e⟩
theorem paired_snoc {α β : Type} {R : α → β → Prop} : ∀ {xs : List α} {ys : List β} {x : α} {y : β}, Paired R xs ys → R x y → Paired R (xs ++ [x]) (ys ++ [y])
  | _, _, _, _, .nil, r => .cons r .nil
  | _, _, _, _, .cons a b, r => .cons a (paired_snoc b r)
/-- the value at a key -/
def valK (xs : List Ent) (k : List Int) : Option V := (xs.find? fun x => decide (x.2.1 = k)).map fun x => x.2.2
theorem ent_find : ∀ {xs : List Ent} {ys : List (NestedKey × Addr × Value)} {k : List Int}, Paired EntRel xs ys → (valK xs k = none ∧ atKey ys (nkey k) = none) ∨ ∃ z p, valK xs k = some z ∧ atKey ys (nkey k) = some p ∧ RelV z p.2
  | _, _, k, .nil => .inl ⟨rfl, rfl⟩
  | x :: xs, y :: ys, k, .cons r rs => by
    have ih := ent_find (k := k) rs
    unfold valK atKey at ih ⊢
    by_cases c : x.2.1 = k
    · have c2 : y.1 = nkey k := by rw [r.1, c]
      rw [List.find?_cons_of_pos (by simpa using c), List.find?_cons_of_pos (by simpa using c2)]
      exact .inr ⟨_, _, rfl, rfl, r.2.2⟩
    · have c2 : ¬ y.1 = nkey k := fun e => c (nkey_inj (by rw [← r.1, e]))
      rw [List.find?_cons_of_neg (by simpa using c), List.find?_cons_of_neg (by simpa using c2)]
      exact ih
theorem valK_none {xs : List Ent} {k : List Int} (h : k ∉ xs.map fun x => x.2.1) : valK xs k = none := by
  unfold valK
  rw [List.find?_eq_none.mpr]
  · rfl
  · intro x hx e
    exact h (List.mem_map.mpr ⟨x, hx, by simpa using e⟩)
section
variable {X : Cx} {pins : List (Addr × Obj)} {σ : L2.St} {H : Hp} {s : Shared}
theorem KeyAt.is (I : Inv X pins σ H s) {q : Addr} {k : List Int} (h : KeyAt H q k) : (nestedKind X.prog X.w).is s.heap (nkey k) q := by
  obtain ⟨_, vs, hq, n⟩ := h
  obtain ⟨its, rv, ⟨o, e1, e2, m, e3⟩, _⟩ := I.tuple (SqT.of hq)
  exact ⟨.tup e1 e2 e3 (nested_all n rv), depth_nums k⟩
theorem kdo_get (I : Inv X pins σ H s) {a : Addr} {xs : List Ent} (ha : H a = some (KDo X.prog X.w a xs)) (hk : KeysAt H xs) :
    (a == sysModules) = false ∧ (xs.map fun x => x.2.1).Nodup ∧ xs.length ≤ sizeLine ∧ ∃ ys, Paired EntRel xs ys ∧ Heap.DictOfH (nestedKind X.prog X.w) s.heap a ys := by
  obtain ⟨n, nd, sz, o, es, ep, ys, e1, e2, e3, e4, e5⟩ := (I.hok a _ ha).1
  refine ⟨n, nd, sz, ys, e5, o, es, ep, e1, e2, e3, e4, ?_, ?_⟩
  · intro y hy
    obtain ⟨x, hx, r1, r2, _⟩ := paired_mem e5 y hy
    rw [r1, r2]
    exact (hk x hx).is I
  · rw [ent_keys e5]
    exact nodup_keys nd

theorem k_dictSet {E : Value → Shared → Prop} {D q : Addr} {xs : List Ent} {k : List Int} {z : V} {r : Value} {Q : Unit → Shared → Prop} (hu : X.A.units + 8 < cLine) (I : Inv X pins σ H s) (hD : H D = some (KDo X.prog X.w D xs)) (hk : KeysAt H xs) (hz : xs.length < sizeLine) (ky : KeyAt H q k) (new : k ∉ xs.map fun x => x.2.1) (rv : RelV z r)
    (h : ∀ s', Inv X pins σ (upd H D (KDo X.prog X.w D (xs ++ [(q, k, z)]))) s' → Q () s') : wpAny (model X.prog X.w) X.A (dictSet D (.ref q) r) Q E s := by
  obtain ⟨n, nd, sz, ys, e5, dd⟩ := kdo_get I hD hk
  have none : atKey ys (nkey k) = none := by
    rcases ent_find (k := k) e5 with ⟨_, q⟩ | ⟨z, p, q, _⟩
    · exact q
    · rw [valK_none new] at q; cases q
  have st : storedH ys (nkey k) q r = ys ++ [(nkey k, q, r)] := by
    unfold storedH
    rw [none]
    rfl
  refine wpAny_dictSet_heap (knd := nestedKind X.prog X.w) hu (ky.is I) dd (fun h' dd' hs => h _ ?_) (by rw [← e5.length]; exact sz)
  rw [st] at dd'
  obtain ⟨o, es, ep, e1, e2, e3, e4, _⟩ := dd'
  refine d_write I (by rw [hD]; exact trivial) hs ⟨o, e1⟩ (kdo_new n ?_ ?_ ⟨o, es, ep, _, e1, e2, e3, e4, paired_snoc e5 ⟨rfl, rfl, rv⟩⟩)
  · rw [List.map_append, List.nodup_append]
    refine ⟨nd, by simp, ?_⟩
    intro a ha b hb
    simp only [List.map_cons, List.map_nil, List.mem_singleton] at hb
    subst hb
    intro e
    subst e
    exact new ha
  · rw [List.length_append, List.length_singleton]; omega
end
/-! ### d[k] -/
def rIxK (P : Program) (w : World) : R2 := fun x y H Q => ∃ (a : Addr) (xs : List Ent) (q : Addr) (k : List Int) (z : V), x = .ref a ∧ y = .ref q ∧ H a = some (KDo P w a xs) ∧ KeysAt H xs ∧ KeyAt H q k ∧ valK xs k = some z ∧ Q z H
theorem k_getItem {X : Cx} {pins : List (Addr × Obj)} {σ : L2.St} {H : Hp} {s : Shared} {a q : Addr} {xs : List Ent} {k : List Int} {z : V} {Q : Value → Shared → Prop} {E : Value → Shared → Prop} (hu : X.A.units + 10 < cLine) (I : Inv X pins σ H s) (ha : H a = some (KDo X.prog X.w a xs)) (hk : KeysAt H xs) (ky : KeyAt H q k) (hv : valK xs k = some z)
    (h : ∀ u s', Inv X pins σ H s' → RelV z u → Q u s') : wpAny (model X.prog X.w) X.A (getItem (.ref a) (.ref q)) Q E s := by
  obtain ⟨n, nd, sz, ys, e5, dd⟩ := kdo_get I ha hk
  rcases ent_find (k := k) e5 with ⟨w, _⟩ | ⟨z', p, w, w2, rz⟩
  · rw [w] at hv; cases hv
  · rw [w] at hv
    cases hv
    refine wpAny_getItem_heap (knd := nestedKind X.prog X.w) (show X.A.in1.units + 8 < cLine by show X.A.units + 1 + 8 < cLine; omega) (ky.is I) dd w2 (h _ _ ?_ rz)
    exact I.tok _
end Cf
/-! Own layer: {k: v for ..} with such keys, and d[k]. -/
namespace Cf
open PySem PySem.Spec PyProof.Rows L2
def tDcK (P : Program) (w : World) (wi : TI) (g : TG) (tt : TT) (tk tv : TE) (vs : List Nat) : TE := fun σ H Q =>
  wi σ H fun J H1 => ∀ D, H1 D = none → ∃ W : Nat → Nat → Hp → Prop, (∃ m, W 0 m (upd H1 D (KDo P w D []))) ∧ ∀ i m H, W i m H →
    (J.stop i H ∧ Q (.ref D) H) ∨ (J.go i H ∧ ∃ Nx : Hp → Prop, (∀ H', Nx H' → ∃ m', m' < m ∧ W (i + 1) m' H') ∧ ∀ x H', J.yld i H x H' →
      g x (wipe σ vs) H' fun σ2 H2 => wipe σ2 vs = wipe σ vs ∧ tt σ2 H2 fun b H3 => if b = true then tk σ2 H3 fun y H4 => tv σ2 H4 fun z H5 =>
        ∃ (xs : List Ent) (q : Addr) (k : List Int), y = .ref q ∧ H5 D = some (KDo P w D xs) ∧ KeysAt H5 xs ∧ xs.length < sizeLine ∧ KeyAt H5 q k ∧ (k ∉ xs.map fun x => x.2.1) ∧ Nx (upd H5 D (KDo P w D (xs ++ [(q, k, z)]))) else Nx H3)
theorem kdo_nil {P : Program} {w : World} {H : Hp} (h : Heap) (n : sysModules < h.objs.size) : ObjOk P w H (h.push { cls := .type "dict", dict := none, data := .dict #[] 0 }) h.objs.size (KDo P w h.objs.size []) := by
  obtain ⟨o, es, ep, e1, e2, e3, e4, _⟩ := Heap.DictOfH.new (knd := nestedKind P w) h
  exact kdo_new (beq_eq_false_iff_ne.mpr (Nat.ne_of_gt n)) List.nodup_nil (Nat.zero_le _) ⟨o, es, ep, [], e1, e2, e3, e4, .nil⟩
set_option maxHeartbeats 1000000 in
theorem pe_dcK {X : Cx} {kx vx tg iter : Expr} {ifs : List Expr} {scope : Scope} {own : List (Str × Nat)} {pos : Pos} {wi : TI} {g : TG} {tt : TT} {tk tv : TE} (hu : X.A.units + 8 < cLine) (hc : X.calm = true) (hN : X.N.Nodup) (hi : PI X tg iter wi) (ok : BlkOk X.N X.env.scope scope own)
    (hg : ∀ (s : Shared) (H : Hp) (C : Addr) (cl : List (Str × Addr)) (fp : List Addr), PG (X.blk s H scope (compEnvC scope cl C X.env) fp) tg g)
    (ht : ∀ (s : Shared) (H : Hp) (C : Addr) (cl : List (Str × Addr)) (fp : List Addr), PTs (X.blk s H scope (compEnvC scope cl C X.env) fp) ifs tt)
    (hk : ∀ (s : Shared) (H : Hp) (C : Addr) (cl : List (Str × Addr)) (fp : List Addr), PE (X.blk s H scope (compEnvC scope cl C X.env) fp) kx tk)
    (he : ∀ (s : Shared) (H : Hp) (C : Addr) (cl : List (Str × Addr)) (fp : List Addr), PE (X.blk s H scope (compEnvC scope cl C X.env) fp) vx tv)
    (hs : ∀ x, foldedSetIterable iter X.env x = pure x := by intro _; rfl) :
    PE X (.DictComp kx vx [⟨tg, iter, ifs, 0⟩] scope pos) (tDcK X.prog X.w wi g tt tk tv (own.map (·.2))) := by
  constructor
  intro pins s σ H Q I h
  rw [arm_eval_DictComp]
  refine wpAny_comprehension_free rfl hs (closure_ok fun y hy e => (ok.free y hy e).elim (fun k => I.ok.has y.1 (.inl k)) fun k => I.ok.has y.1 (.inr k)) ok.kind (fun y hy e => by rw [ok.uniq y hy, e]) (thn (hi.run pins s σ H _ I h) fun xv s1 hx => thn hx fun itv s2 h2 => ?_)
  obtain ⟨it, fp, tn, J, H2, rfl, I2, T, st2, f2, q⟩ := h2
  refine wpAny_newObj_type (newEnv_comp ?_) (by show #[].size ≤ sizeLine + 1; simp)
  have hDn := HOk.fresh I2.hok (Nat.le_refl s2.heap.objs.size)
  obtain ⟨W, ⟨m0, w0⟩, turn⟩ := q s2.heap.objs.size hDn
  have I3 : Inv X pins σ (upd H2 s2.heap.objs.size (KDo X.prog X.w s2.heap.objs.size [])) { s2 with heap := s2.heap.push { cls := .type "dict", dict := none, data := .dict #[] 0 } } :=
    I2.laid (fun b o e => Heap.get?_push_of_some _ e) (Nat.le_refl _) (kdo_nil s2.heap (Inv.big I2))
  generalize eS : ({ s2 with heap := s2.heap.push { cls := .type "dict", dict := none, data := .dict #[] 0 } } : Shared) = S3 at I3 ⊢
  have h3 : S3.heap = s2.heap.push { cls := .type "dict", dict := none, data := .dict #[] 0 } := by rw [← eS]
  have f3 : ∀ b ∈ fp, FpOk X pins (upd H2 s2.heap.objs.size (KDo X.prog X.w s2.heap.objs.size [])) b ∧ b < S3.heap.objs.size := fun b hb => by
    obtain ⟨o, e, _⟩ := T.obj 0 s2.heap st2 b hb
    have hlt := Heap.lt_size e
    refine ⟨⟨by rw [upd_ne (Nat.ne_of_lt hlt)]; exact (f2 b hb).1, (f2 b hb).2⟩, ?_⟩
    rw [h3, Heap.size_push]
    exact Nat.lt_succ_of_lt hlt
  have st3 := T.keep 0 s2.heap S3.heap st2 fun b _ o e => by rw [h3]; exact Heap.get?_push_of_some _ e
  have I4 := block_start I3 ok hN f3
  have pg := hg S3 (upd H2 s2.heap.objs.size (KDo X.prog X.w s2.heap.objs.size [])) S3.heap.objs.size (cellsFrom (S3.heap.objs.size + 1) scope.names (cloFrom X.env.cells scope.names [])) fp
  have pt := ht S3 (upd H2 s2.heap.objs.size (KDo X.prog X.w s2.heap.objs.size [])) S3.heap.objs.size (cellsFrom (S3.heap.objs.size + 1) scope.names (cloFrom X.env.cells scope.names [])) fp
  have pk := hk S3 (upd H2 s2.heap.objs.size (KDo X.prog X.w s2.heap.objs.size [])) S3.heap.objs.size (cellsFrom (S3.heap.objs.size + 1) scope.names (cloFrom X.env.cells scope.names [])) fp
  have pe := he S3 (upd H2 s2.heap.objs.size (KDo X.prog X.w s2.heap.objs.size [])) S3.heap.objs.size (cellsFrom (S3.heap.objs.size + 1) scope.names (cloFrom X.env.cells scope.names [])) fp
  generalize eH : upd H2 s2.heap.objs.size (KDo X.prog X.w s2.heap.objs.size []) = H3 at *
  have hH3 : H3 s2.heap.objs.size = some (KDo X.prog X.w s2.heap.objs.size []) := by rw [← eH, upd_same]
  generalize s2.heap.objs.size = D at *
  obtain ⟨CE, eCE⟩ : ∃ CE, CE = compEnvC scope (cellsFrom (S3.heap.objs.size + 1) scope.names (cloFrom X.env.cells scope.names [])) S3.heap.objs.size X.env := ⟨_, rfl⟩
  have cL : CE.locals = S3.heap.objs.size := by rw [eCE]; rfl
  show codeAny (model X.prog X.w) X.A (Code.compStart (.DictComp kx vx [⟨tg, iter, ifs, 0⟩] scope pos) 0 (.ref it) (.ref D) (compEnvC scope (cellsFrom (S3.heap.objs.size + 1) scope.names (cloFrom X.env.cells scope.names [])) S3.heap.objs.size X.env))
    (compPost (model X.prog X.w) X.A X.xe none (EP X pins σ Q) (.ref D) S3.heap.objs.size) _
  rw [← eCE] at I4 pg pt pk pe ⊢
  obtain ⟨S4, eS4⟩ : ∃ S4 : Shared, S4 = { heap := pushCells (S3.heap.push { cls := .type "dict", dict := none, data := .dict #[] 0 }) scope.names, gens := S3.gens, drawn := S3.drawn, toks := S3.toks, os := S3.os } := ⟨_, rfl⟩
  have nfp : ∀ b ∈ fp, H3 b = none := fun b hb => (f3 b hb).1.1
  have st4 := T.keep 0 S3.heap S4.heap st3 fun b _ o e => by rw [eS4]; exact pushCells_keeps scope.names _ b o (Heap.get?_push_of_some _ e)
  rw [← eS4] at I4 ⊢
  have stat : ∀ {σ' : L2.St} {H' : Hp} {s' : Shared}, Inv (X.blk S3 H3 scope CE fp) [] σ' H' s' → (∀ b ∈ fp, H' b = none) → ∀ b ∈ fp, FpOk (X.blk S3 H3 scope CE fp) [] H' b := fun I' hn b hb =>
    ⟨hn b hb, (I'.ok.exf b hb).1, I'.ok.exfs b hb, .inl hb, fun x c e => (I'.ok.exf b hb).2 x c e, fun p hp => absurd (show p ∈ [] from by simpa using hp) List.not_mem_nil⟩
  have loop := compLoop_anyD (prog := X.prog) (w := X.w) (A := X.A) (R := compPost (model X.prog X.w) X.A X.xe none (EP X pins σ Q) (.ref D) S3.heap.objs.size) (kx := kx) (vx := vx) (target := tg) (iter := iter) (ifs := ifs) (scope := scope) (pos := pos) (it := .ref it) (D := D) (env := CE)
    (fun n s' => ∃ i H', Inv (X.blk S3 H3 scope CE fp) [] (wipe σ (own.map (·.2))) H' s' ∧ tn i s'.heap ∧ (∀ b ∈ fp, H' b = none) ∧ W i n H') ?_ m0 (s := S4) ⟨0, H3, I4, st4, nfp, w0⟩
  · exact codeAny_compStart_dict loop (T.self X.A 0 S4 _ _ st4 loop)
  rintro n s5 ⟨i, H5, I5, st5, n5, w5⟩
  rcases turn i n H5 w5 with ⟨stop, qq⟩ | ⟨go, Nx, hNx, step⟩
  · have td := T.done (X.blk S3 H3 scope CE fp) rfl rfl rfl hc i [] s5 (wipe σ (own.map (·.2))) H5 (fun _ _ => False) I5 (stat I5 n5) st5 stop
    refine thnF td ?_
    rintro r s6 ⟨rfl, I6⟩
    have I7 := Inv.call' I3 I6.os I6.base I6.hok I6.bare fun b hb => ⟨(f3 b hb).1.2.2.2.1, (f3 b hb).1.2.1, (f3 b hb).1.2.2.2.2.1, (f3 b hb).1.2.2.2.2.2⟩
    have nC : H5 S3.heap.objs.size = none := by
      have z := I6.free
      rw [← cL]
      exact z
    obtain ⟨m, hn, _⟩ := I6.loc
    have hn2 : s6.heap.Ns S3.heap.objs.size m := by rw [← cL]; exact hn
    have f := Inv.fpOk I3 (Nat.le_refl S3.heap.objs.size) nC
    exact ⟨m, hn2, fun h'' sb => ⟨.ref D, H5, Inv.turned I7 (fun b o hb e => (sb.2 b hb).trans e) f.1 f.2.1 f.2.2.2.1 f.2.2.2.2.1 f.2.2.2.2.2, rfl, qq⟩⟩
  · have ti := T.item (X.blk S3 H3 scope CE fp) rfl rfl rfl hc i [] s5 (wipe σ (own.map (·.2))) H5 (fun _ _ => False) I5 (stat I5 n5) st5 go
    refine thnF ti ?_
    rintro r s6 ⟨u, rfl, h6⟩
    refine thnF h6 ?_
    rintro _ s7 ⟨x, H7, I7, r7, y7, st7, n7⟩
    have I7' := Inv.pinned I7 (stat I7 n7) (T.obj (i + 1) s7.heap st7)
    refine thnF (pg.run ([] ++ pinsAt fp s7.heap) s7 _ H7 x u _ I7' r7 (step x H7 y7)) ?_
    rintro _ s8 ⟨σ8, H8, I8, hw8, q8⟩
    refine thnF (pt.run ([] ++ pinsAt fp s7.heap) s8 σ8 H8 _ I8 q8) ?_
    rintro b s9 ⟨H9, I9, q9⟩
    have fin : ∀ {s' : Shared} {H' : Hp}, Inv (X.blk S3 H3 scope CE fp) ([] ++ pinsAt fp s7.heap) σ8 H' s' → Nx H' → ∃ m', m' < n ∧ ∃ i H', Inv (X.blk S3 H3 scope CE fp) [] (wipe σ (own.map (·.2))) H' s' ∧ tn i s'.heap ∧ (∀ b ∈ fp, H' b = none) ∧ W i m' H' := by
      intro s' H' I' nx
      obtain ⟨m', hm, w'⟩ := hNx H' nx
      have pin' : ∀ b ∈ fp, ∀ o, s7.heap.get? b = some o → s'.heap.get? b = some o ∧ H' b = none := fun b hb o e =>
        let z := I'.pin (b, o) (List.mem_append_right (X.blk S3 H3 scope CE fp).pn (List.mem_append_right [] (mem_pinsAt hb e)))
        ⟨z.1, z.2.1⟩
      have hl : (wipe σ (own.map (·.2))).length = σ8.length := by rw [← hw8, wipe_length]
      refine ⟨m', hm, i + 1, H', Inv.weak (Inv.unpinned I') hl fun j v e => (wipe_some (by rw [← hw8] at e; exact e)).1, T.keep (i + 1) s7.heap s'.heap st7 fun b hb o e => (pin' b hb o e).1, fun b hb => ?_, w'⟩
      obtain ⟨o, e, _⟩ := T.obj (i + 1) s7.heap st7 b hb
      exact (pin' b hb o e).2
    cases b with
    | false =>
      rw [if_neg (by decide)] at q9
      rw [if_neg (by decide)]
      exact fin I9 q9
    | true =>
      rw [if_pos rfl] at q9
      rw [if_pos rfl]
      refine thnF (pk.run ([] ++ pinsAt fp s7.heap) s9 σ8 H9 _ I9 q9) ?_
      rintro z s10 ⟨yk, H10, I10, r10, q10⟩
      refine thnF (pe.run ([] ++ pinsAt fp s7.heap) s10 σ8 H10 _ I10 q10) ?_
      rintro z2 s11 ⟨yv, H11, I11, r11, xs, qa, k, rfl, hD11, hks, hz11, ky, new, nx⟩
      cases r10
      exact k_dictSet (X := X.blk S3 H3 scope CE fp) hu I11 hD11 hks hz11 ky new r11 fun s12 I12 => fin I12 nx
/-- d[k] -/
theorem pe_dgetK {X : Cx} {o i : Expr} {pos : Pos} {td ty : TE} (hu : X.A.units + 10 < cLine) (ho : PE X o td) (hi : PE X i ty) (hs : NoSl i) : PE X (.Subscript o i pos) (tOp (rIxK X.prog X.w) td ty) := by
  constructor
  intro pins s σ H Q I h
  refine subD_of F.slot_dict_getitem.lookup hs (thn (ho.run pins s σ H _ I h) ?_)
  rintro u s1 ⟨x, H1, I1, rx, q1⟩
  refine thn (hi.run pins s1 σ H1 _ I1 q1) ?_
  rintro iv s2 ⟨y, H2, I2, ry, a, xs, q, k, z, rfl, rfl, ha, hk, ky, hv, qq⟩
  cases rx
  cases ry
  obtain ⟨_, _, _, ys, _, dd⟩ := kdo_get I2 ha hk
  exact ⟨dd.typeIs, k_getItem hu I2 ha hk ky hv fun w' s3 I3 rw' => ⟨z, H2, I3, rw', qq⟩⟩
/-- k in d -/
def rInK (P : Program) (w : World) : R2 := fun y x H Q => ∃ (a : Addr) (xs : List Ent) (q : Addr) (k : List Int), x = .ref a ∧ y = .ref q ∧ H a = some (KDo P w a xs) ∧ KeysAt H xs ∧ KeyAt H q k ∧ Q (.bl (valK xs k).isSome) H
theorem op_inK {X : Cx} (hu : X.A.units + 10 < cLine) : OpR X (compareOp .In) (rInK X.prog X.w) := by
  intro pins s σ H y x v u Q I ry rx h
  obtain ⟨a, xs, q, k, rfl, rfl, ha, hk, ky, qq⟩ := h
  cases rx
  cases ry
  obtain ⟨n, _, _, ys, e5, dd⟩ := kdo_get I ha hk
  refine in_keyed (knd := nestedKind X.prog X.w) (kvs := pairsH ys) (show X.A.in1.units + 8 < cLine by show X.A.units + 1 + 8 < cLine; omega) (ky.is I) n ⟨ys, dd, rfl⟩ ⟨.bl _, H, I.tok _, rfl, ?_⟩
  have e : (valueAt (pairsH ys) (nkey k)).isSome = (valK xs k).isSome := by
    have e2 : valueAt (pairsH ys) (nkey k) = (atKey ys (nkey k)).map fun p => p.2 := by
      unfold valueAt pairsH atKey
      rw [List.find?_map, Option.map_map, Option.map_map]
      rfl
    rw [e2]
    rcases ent_find (k := k) e5 with ⟨a1, a2⟩ | ⟨z, p, a1, a2, _⟩
    · rw [a1, a2]; rfl
    · rw [a1, a2]; rfl
  rw [e]
  exact qq
end Cf
/-! Own layer: kinds of years, yearly days. -/
namespace Cf
inductive Yd where
  | nth (m k w : Int) | last (m w : Int) | frm (m n w : Int) | unt (m n w : Int) | date (m n : Int) | day (n : Int)
deriving DecidableEq
def LeDec (m n : Int) : Prop := m < 12 ∨ (m = 12 ∧ n ≤ 25)
def GeJan (m n : Int) : Prop := 1 < m ∨ (m = 1 ∧ 7 ≤ n)
def MD (m n : Int) : Prop := 1 ≤ m ∧ m ≤ 12 ∧ 1 ≤ n ∧ n ≤ mlen m false
def WD (w : Int) : Prop := 0 ≤ w ∧ w ≤ 6
def Yd.Ok : Yd → Prop
  | .nth m k w => 1 ≤ m ∧ m ≤ 12 ∧ 1 ≤ k ∧ k ≤ 4 ∧ WD w
  | .last m w => 1 ≤ m ∧ m ≤ 12 ∧ WD w
  | .frm m n w => MD m n ∧ LeDec m n ∧ WD w
  | .unt m n w => MD m n ∧ GeJan m n ∧ WD w
  | .date m n => MD m n
  | .day n => 0 ≤ n ∧ n ≤ 364
def onAfter (n w f : Int) : Int := n + (w - f - n) % 7
def onBefore (n w f : Int) : Int := n - (f + n - w) % 7
def numIn : Yd → Int → Bool → Int
  | .nth m k w, f, l => onAfter (mst m l + 7 * (k - 1)) w f
  | .last m w, f, l => onBefore (mst m l + mlen m l - 1) w f
  | .frm m n w, f, l => onAfter (mst m l + n - 1) w f
  | .unt m n w, f, l => onBefore (mst m l + n - 1) w f
  | .date m n, _, l => mst m l + n - 1
  | .day n, _, _ => n
def k1 (y : Int) : Int := (ysOf y + 5) % 7
def dayIn (q : Yd) (y : Int) : Int := ysOf y + numIn q (k1 y) (leapB y)
theorem k1_bd (y : Int) : 0 ≤ k1 y ∧ k1 y < 7 := by unfold k1; omega
theorem ys_400 (y : Int) : ysOf (y + 400) = ysOf y + 146097 := by unfold ysOf lyb; omega
theorem leap_400 (y : Int) : leapB (y + 400) = leapB y := by
  have h1 : (y + 400) % 4 = y % 4 := by omega
  have h2 : (y + 400) % 100 = y % 100 := by omega
  have h3 : (y + 400) % 400 = y % 400 := by omega
  unfold leapB; rw [h1, h2, h3]
theorem k1_400 (y : Int) : k1 (y + 400) = k1 y := by unfold k1; rw [ys_400]; omega
theorem per_nat {α : Type} {f : Int → α} (h : ∀ y, f (y + 400) = f y) (y : Int) : ∀ n : Nat, f (y + 400 * (n : Int)) = f y
  | 0 => by simp
  | n + 1 => by
    have e : y + 400 * ((n + 1 : Nat) : Int) = (y + 400 * (n : Int)) + 400 := by omega
    rw [e, h, per_nat h y n]
theorem per_int {α : Type} {f : Int → α} (h : ∀ y, f (y + 400) = f y) (y z : Int) (e : (z - y) % 400 = 0) : f z = f y := by
  rcases Int.le_total y z with c | c
  · have := per_nat h y ((z - y) / 400).toNat
    rw [← this]; congr 1; omega
  · have := per_nat h z ((y - z) / 400).toNat
    rw [← this]; congr 1; omega
theorem all_kinds_nat : ∀ f : Fin 7, ∀ l : Bool, ∃ y : Fin 400, k1 (2000 + (y.val : Int)) = (f.val : Int) ∧ leapB (2000 + (y.val : Int)) = l := by decide +kernel
/-- every kind of year comes in 400 years from any year on -/
theorem kind_comes (y0 f : Int) (l : Bool) (h0 : 0 ≤ f) (h7 : f < 7) : ∃ y, y0 ≤ y ∧ y < y0 + 400 ∧ k1 y = f ∧ leapB y = l := by
  obtain ⟨y, e1, e2⟩ := all_kinds_nat ⟨f.toNat, by omega⟩ l
  refine ⟨y0 + (2000 + (y.val : Int) - y0) % 400, by omega, by omega, ?_, ?_⟩
  · rw [per_int k1_400 (2000 + (y.val : Int)) _ (by omega), e1]; simp; omega
  · rw [per_int leap_400 (2000 + (y.val : Int)) _ (by omega), e2]
/-- two yearly days differ in a year -/
def Apart (p q : Yd) (y : Int) : Prop := numIn p (k1 y) (leapB y) ≠ numIn q (k1 y) (leapB y)
instance (p q : Yd) (y : Int) : Decidable (Apart p q y) := inferInstanceAs (Decidable (_ ≠ _))
theorem apart_day (p q : Yd) (y : Int) : Apart p q y ↔ dayIn p y ≠ dayIn q y := by unfold Apart dayIn; omega
theorem apart_comm (p q : Yd) (y : Int) : Apart p q y ↔ Apart q p y := by unfold Apart; exact ne_comm
theorem apart_self (p : Yd) (y : Int) : ¬ Apart p p y := by unfold Apart; simp
theorem apart_400 (p q : Yd) (y : Int) : Apart p q (y + 400) = Apart p q y := by unfold Apart; rw [k1_400, leap_400]
/-- the least year at or above y with a difference, told by what is found in 400 years -/
structure Fst (p q : Yd) (y : Int) (r : Option Int) : Prop where
  yes : ∀ z, r = some z → y ≤ z ∧ z < y + 400 ∧ Apart p q z ∧ ∀ x, y ≤ x → x < z → ¬ Apart p q x
  no : r = none → ∀ x, y ≤ x → x < y + 400 → ¬ Apart p q x
theorem Fst.uniq {p q : Yd} {y : Int} {r s : Option Int} (a : Fst p q y r) (b : Fst p q y s) : r = s := by
  cases hr : r with
  | none =>
    cases hs : s with
    | none => rfl
    | some z => obtain ⟨h1, h2, h3, _⟩ := b.yes z hs; exact absurd h3 (a.no hr z h1 h2)
  | some x =>
    cases hs : s with
    | none => obtain ⟨h1, h2, h3, _⟩ := a.yes x hr; exact absurd h3 (b.no hs x h1 h2)
    | some z =>
      obtain ⟨a1, a2, a3, a4⟩ := a.yes x hr
      obtain ⟨b1, b2, b3, b4⟩ := b.yes z hs
      rcases Int.lt_trichotomy x z with c | c | c
      · exact absurd a3 (b4 x a1 c)
      · rw [c]
      · exact absurd b3 (a4 z b1 c)
theorem Fst.comm {p q : Yd} {y : Int} {r : Option Int} (a : Fst p q y r) : Fst q p y r :=
  ⟨fun z e => by obtain ⟨h1, h2, h3, h4⟩ := a.yes z e; exact ⟨h1, h2, (apart_comm _ _ _).mp h3, fun x x1 x2 k => h4 x x1 x2 ((apart_comm _ _ _).mp k)⟩,
   fun e x x1 x2 k => a.no e x x1 x2 ((apart_comm _ _ _).mp k)⟩
theorem Fst.self (p : Yd) (y : Int) : Fst p p y none := ⟨fun _ e => (nomatch e), fun _ x _ _ => apart_self p x⟩
theorem Fst.at {p q : Yd} {y z : Int} (a : Fst p q y (some z)) : Fst p q z (some z) := by
  obtain ⟨h1, h2, h3, h4⟩ := a.yes z rfl
  exact ⟨fun x e => by cases e; exact ⟨Int.le_refl _, by omega, h3, fun x x1 x2 => absurd x2 (by omega)⟩, fun e => (nomatch e)⟩
/-- the kinds of years, ascending -/
def kinds : List (Int × Bool) := [(0, false), (0, true), (1, false), (1, true), (2, false), (2, true), (3, false), (3, true), (4, false), (4, true), (5, false), (5, true), (6, false), (6, true)]
theorem mem_kinds {f : Int} (l : Bool) (h0 : 0 ≤ f) (h7 : f < 7) : (f, l) ∈ kinds := by
  have : f = 0 ∨ f = 1 ∨ f = 2 ∨ f = 3 ∨ f = 4 ∨ f = 5 ∨ f = 6 := by omega
  rcases this with h | h | h | h | h | h | h <;> subst h <;> cases l <;> decide
theorem kinds_mem {f : Int} {l : Bool} (h : (f, l) ∈ kinds) : 0 ≤ f ∧ f < 7 := by
  simp [kinds] at h; omega
/-- no difference for ever: the tables are alike -/
theorem tables_alike {p q : Yd} {y : Int} {r : Option Int} (a : Fst p q y r) : r = none ↔ ∀ k ∈ kinds, numIn p k.1 k.2 = numIn q k.1 k.2 := by
  constructor
  · intro e k hk
    obtain ⟨f, l⟩ := k
    obtain ⟨h0, h7⟩ := kinds_mem hk
    obtain ⟨x, x1, x2, ef, el⟩ := kind_comes y f l h0 h7
    have := a.no e x x1 x2
    unfold Apart at this
    rw [ef, el] at this
    exact Decidable.not_not.mp this
  · intro h
    cases e : r with
    | none => rfl
    | some z =>
      obtain ⟨_, _, h3, _⟩ := a.yes z e
      exact absurd (h (k1 z, leapB z) (mem_kinds _ (k1_bd z).1 (k1_bd z).2)) h3
/-! The law's way through the days. -/
def mdays (b : Int) (n : Nat) (w : Int) : List Int := ((List.range n).map fun i : Nat => b + i).filter fun d => decide ((d + 5) % 7 = w)
theorem mdays_succ (b : Int) (n : Nat) (w : Int) : mdays b (n + 1) w = mdays b n w ++ (if (b + n + 5) % 7 = w then [b + n] else []) := by
  unfold mdays
  rw [List.range_succ, List.map_append, List.filter_append]
  congr 1
  by_cases h : (b + n + 5) % 7 = w <;> simp [h]
/-- the first day at or above b with a weekday -/
def fstW (b w : Int) : Int := b + (w - (b + 5)) % 7
theorem mdays_eq (b w : Int) (hw : WD w) : ∀ n : Nat, mdays b n w = (List.range ((n + 6 - (fstW b w - b).toNat) / 7)).map fun i : Nat => fstW b w + 7 * i
  | 0 => by
    have h : (0 + 6 - (fstW b w - b).toNat) / 7 = 0 := by unfold fstW; omega
    rw [h]; rfl
  | n + 1 => by
    rw [mdays_succ, mdays_eq b w hw n]
    obtain ⟨w0, w6⟩ := hw
    have hf : 0 ≤ fstW b w - b ∧ fstW b w - b < 7 := by unfold fstW; omega
    have hm : (fstW b w + 5) % 7 = w := by unfold fstW; omega
    by_cases h : (b + n + 5) % 7 = w
    · rw [if_pos h]
      have e : (n + 1 + 6 - (fstW b w - b).toNat) / 7 = (n + 6 - (fstW b w - b).toNat) / 7 + 1 := by omega
      rw [e, List.range_succ, List.map_append]
      congr 1
      simp; omega
    · rw [if_neg h, List.append_nil]
      have e : (n + 1 + 6 - (fstW b w - b).toNat) / 7 = (n + 6 - (fstW b w - b).toNat) / 7 := by omega
      rw [e]
theorem mdays_get {b w : Int} (hw : WD w) {n : Nat} (hn : 28 ≤ n) {k : Nat} (hk : k < 4) : (mdays b n w)[k]? = some (fstW b w + 7 * k) := by
  rw [mdays_eq b w hw n, List.getElem?_map, List.getElem?_range (by unfold fstW; omega)]; rfl
theorem mdays_len {b w : Int} (hw : WD w) {n : Nat} (hn : 28 ≤ n) : 4 ≤ (mdays b n w).length := by
  rw [mdays_eq b w hw n]; simp; unfold fstW; omega
theorem mdays_last {b w : Int} (hw : WD w) {n : Nat} (hn : 28 ≤ n) : (mdays b n w)[(mdays b n w).length - 1]? = some (b + n - 1 - (b + n + 4 - w) % 7) := by
  have hl : (mdays b n w).length = (n + 6 - (fstW b w - b).toNat) / 7 := by rw [mdays_eq b w hw n]; simp
  rw [hl, mdays_eq b w hw n, List.getElem?_map, List.getElem?_range (by unfold fstW; omega)]
  obtain ⟨w0, w6⟩ := hw
  simp; unfold fstW; omega
theorem dayIn_nth (m k w y : Int) : dayIn (.nth m k w) y = ysOf y + (mst m (leapB y) + 7 * (k - 1) + (w - (ysOf y + 5) % 7 - (mst m (leapB y) + 7 * (k - 1))) % 7) := rfl
theorem dayIn_last (m w y : Int) : dayIn (.last m w) y = ysOf y + (mst m (leapB y) + mlen m (leapB y) - 1 - ((ysOf y + 5) % 7 + (mst m (leapB y) + mlen m (leapB y) - 1) - w) % 7) := rfl
theorem dayIn_frm (m n w y : Int) : dayIn (.frm m n w) y = ysOf y + (mst m (leapB y) + n - 1 + (w - (ysOf y + 5) % 7 - (mst m (leapB y) + n - 1)) % 7) := rfl
theorem dayIn_unt (m n w y : Int) : dayIn (.unt m n w) y = ysOf y + (mst m (leapB y) + n - 1 - ((ysOf y + 5) % 7 + (mst m (leapB y) + n - 1) - w) % 7) := rfl
theorem dayIn_date (m n y : Int) : dayIn (.date m n) y = ysOf y + (mst m (leapB y) + n - 1) := rfl
theorem dayIn_day (n y : Int) : dayIn (.day n) y = ysOf y + n := rfl
theorem nth_day {m k w y : Int} (h : (Yd.nth m k w).Ok) : fstW (ysOf y + mst m (leapB y)) w + 7 * (k - 1) = dayIn (.nth m k w) y := by
  rw [dayIn_nth]; unfold fstW; omega
theorem last_day {m w y : Int} : ysOf y + mst m (leapB y) + mlen m (leapB y) - 1 - (ysOf y + mst m (leapB y) + mlen m (leapB y) + 4 - w) % 7 = dayIn (.last m w) y := by
  rw [dayIn_last]; omega
theorem date_day {m n y : Int} : ysOf y + mst m (leapB y) + n - 1 = dayIn (.date m n) y := by rw [dayIn_date]; omega
/-- going forth to a weekday -/
theorem from_step {d w y m n : Int} (hw : WD w) (h1 : ysOf y + mst m (leapB y) + n - 1 ≤ d) (h2 : d ≤ dayIn (.frm m n w) y) (h3 : (d + 5) % 7 = w) : d = dayIn (.frm m n w) y := by
  obtain ⟨w0, w6⟩ := hw
  rw [dayIn_frm] at *; omega
theorem from_more {d w y m n : Int} (hw : WD w) (h1 : ysOf y + mst m (leapB y) + n - 1 ≤ d) (h2 : d ≤ dayIn (.frm m n w) y) (h3 : (d + 5) % 7 ≠ w) : d + 1 ≤ dayIn (.frm m n w) y := by
  obtain ⟨w0, w6⟩ := hw
  rw [dayIn_frm] at *; omega
theorem from_first {w y m n : Int} : ysOf y + mst m (leapB y) + n - 1 ≤ dayIn (.frm m n w) y ∧ dayIn (.frm m n w) y ≤ ysOf y + mst m (leapB y) + n - 1 + 6 := by
  rw [dayIn_frm]; omega
theorem until_step {d w y m n : Int} (hw : WD w) (h1 : d ≤ ysOf y + mst m (leapB y) + n - 1) (h2 : dayIn (.unt m n w) y ≤ d) (h3 : (d + 5) % 7 = w) : d = dayIn (.unt m n w) y := by
  obtain ⟨w0, w6⟩ := hw
  rw [dayIn_unt] at *; omega
theorem until_more {d w y m n : Int} (hw : WD w) (h1 : d ≤ ysOf y + mst m (leapB y) + n - 1) (h2 : dayIn (.unt m n w) y ≤ d) (h3 : (d + 5) % 7 ≠ w) : dayIn (.unt m n w) y ≤ d - 1 := by
  obtain ⟨w0, w6⟩ := hw
  rw [dayIn_unt] at *; omega
theorem until_first {w y m n : Int} : dayIn (.unt m n w) y ≤ ysOf y + mst m (leapB y) + n - 1 ∧ ysOf y + mst m (leapB y) + n - 1 - 6 ≤ dayIn (.unt m n w) y := by
  rw [dayIn_unt]; omega
end Cf
/-! Own layer: a target with a star: `word, *numbers = value`. -/
namespace Cf
open PySem PySem.Spec PyProof.Rows L2
theorem walks_shift {prog : Program} {w : World} {A : Around} {I : Addr} {fp wr : List Addr} {n : Nat} {Pv : Nat → Value → Prop} {St : Nat → Heap → Prop} (W : Walks prog w A I fp wr n Pv St) (k m : Nat) (hk : k + m = n) :
    Walks prog w A I fp wr m (fun i => Pv (k + i)) (fun i => St (k + i)) where
  sub := W.sub
  frame i h h' := W.frame (k + i) h h'
  item i s Q E hi hs hq := W.item (k + i) s Q E (by omega) hs hq
  done s Q E hs hq := W.done s Q E (by rw [← hk]; exact hs) hq
  self i s Q E hs hq := W.self (k + i) s Q E hs hq
theorem acc_drop {acc items : Array Value} {k m : Nat} (hk : k + m = items.size) (h : ItemsOf (fun i v => items[k + i]? = some v) acc m) : acc.toList = items.toList.drop k := by
  obtain ⟨hz, h⟩ := h
  apply List.ext_getElem?
  intro j
  rw [List.getElem?_drop, Array.getElem?_toList, Array.getElem?_toList]
  by_cases c : j < m
  · have e : acc[j]? = some acc[j] := Array.getElem?_eq_getElem (by omega)
    rw [e, h j _ e]
  · rw [Array.getElem?_eq_none (by omega), Array.getElem?_eq_none (by omega)]
theorem unpack_star {prog : Program} {w : World} {A : Around} {E : Value → Shared → Prop} {s : Shared} {t : Addr} {items : Array Value} {targets : List (Bool × (Value → Sem Unit))} {k : Nat} {Q : Unit → Shared → Prop}
    (hh : A.handled = none) (ht : PyProof.Rows.IsTup s.heap t items) (hn : targets.length = k + 1) (hs : targets.findIdx? (fun x => x.1) = some k) (hk : k ≤ items.size) (hz : items.size ≤ sizeLine)
    (h : ∀ (h' : Heap) (tk : Nat), (∀ (b : Addr) (u : Obj), s.heap.get? b = some u → h'.get? b = some u) →
      wpAny (model prog w) A (assignInOrder (targets.map fun x => x.2) (items.toList.take k ++ [.ref h'.objs.size])) Q E
        { heap := h'.push { cls := .type "list", dict := none, data := .seq (items.toList.drop k).toArray 0 }, gens := s.gens, drawn := s.drawn, toks := tk, os := s.os }) :
    wpAny (model prog w) A (unpack (.ref t) targets) Q E s := by
  have hlt : t ≠ s.heap.objs.size := by obtain ⟨o, ho, _⟩ := ht; exact Nat.ne_of_lt (Heap.lt_size ho)
  unfold unpack
  rw [hn, hs]
  refine wpAny_bind (wpAny_holding ?_)
  unfold unpackItems
  refine wpAny_bind ?_
  unfold notIterableAtAll
  refine wpAny_bind (wpAny_specialOf ht.typeIs slot_tuple_iter.lookup (wpAny_pure ?_))
  refine wpAny_bind (wpAny_holding (iter_tuple ht ?_))
  refine wpAny_bind (wpAny_holding (draw_tuple hlt k 0 _ _ ⟨{ cls := .type "tuple_iterator", data := .fields #[.ref t, .int 0 0] }, Heap.get?_push_size s.1 rfl, rfl, rfl⟩ (ht.push _) (by omega) fun h1 i1 b1 => ?_))
  have tk : (List.take k (List.drop 0 items.toList)).length = k := by rw [List.drop_zero, List.length_take]; simp; omega
  dsimp only
  rw [if_neg (by omega)]
  refine wpAny_bind (wpAny_holding (wpAny_collect_iter (.inr (.inr (.inr rfl))) (walks_shift (Walks.tuple (A := A.in1) hh s.heap.objs.size t hlt items) k (items.size - k) (by omega)).toS (fun i s' st => ?_) ?_ ?_ (List.mem_cons_self ..) (fun s2 acc mv ac => ?_) ?_))
  · obtain ⟨⟨o, e1, e2, _⟩, _⟩ := st
    exact ⟨o, e1, e2⟩
  · have e : k + 0 = 0 + k := by omega
    have ht1 : IsTup h1 t items := by
      obtain ⟨o, e1, e2, e3⟩ := ht.push { cls := .type "tuple_iterator", data := .fields #[.ref t, .int 0 0] }
      exact ⟨o, by rw [b1.2 t hlt]; exact e1, e2, e3⟩
    exact ⟨by rw [e]; exact i1, ht1⟩
  · intro b hb
    show b < h1.objs.size
    rw [b1.1]
    show b < (s.heap.push _).objs.size
    rw [Heap.size_push]
    obtain ⟨o, ho, _⟩ := ht
    have := Heap.lt_size ho
    rcases List.mem_cons.mp hb with e | e
    · exact e ▸ Nat.lt_succ_self _
    · exact (List.mem_singleton.mp e) ▸ Nat.lt_succ_of_lt this
  · have lz : acc.toList.length = items.size - k := by rw [Array.length_toList]; exact ac.1
    have ad := acc_drop (by omega) ac
    rw [if_neg (by omega)]
    have e0 : acc.toList.length - (k + 1 - 1 - k) = acc.toList.length := by omega
    rw [e0, List.take_length, List.drop_length, ad]
    refine wpAny_bind (wpAny_newList ?_ ?_)
    · refine wpAny_pure ?_
      have g := h s2.heap s2.toks (fun b u e => mv.heap b u (fun m => ?_) (by show h1.get? b = some u; rw [b1.2 b (Nat.ne_of_lt (Heap.lt_size e))]; exact Heap.get?_push_of_some _ e))
      · rw [List.append_nil, List.drop_zero]
        have e1 : s2.gens = s.gens := mv.gens
        have e2 : s2.drawn = s.drawn := mv.drawn
        have e3 : s2.os = s.os := mv.os
        rw [e1, e2, e3]
        exact g
      · exact absurd (List.mem_singleton.mp m) (Nat.ne_of_lt (Heap.lt_size e))
    · rw [List.length_drop]; simp; omega
  · omega
/-- `a, *b = xs`: at least n items; the rest becomes a new list -/
def gStar (K : W.Frag) (n : Nat) (t : TGs) : TG := fun v σ H Q => ∃ a xs, v = .ref a ∧ SqT K H a xs ∧ n ≤ xs.length ∧ ∀ L, H L = none → t (xs.take n ++ [.ref L]) σ (upd H L (.lst (xs.drop n))) Q
theorem pgs_star {X : Cx} {e : Expr} {pos : Pos} {es : List Expr} {u : TGs} (h : PGs X (e :: es) u) (hs : (assignEach (e.Starred pos :: es) X.env).map (fun x => x.2) = (assignEach (e :: es) X.env).map (fun x => x.2) := by rfl) : PGs X (e.Starred pos :: es) u :=
  ⟨fun pins s σ H vs us Q I r k => by rw [hs]; exact h.run pins s σ H vs us Q I r k⟩
theorem pg_star {X : Cx} {pos : Pos} {es : List Expr} {k : Nat} {t : TGs} {n : Nat} (hc : X.calm = true) (h : PGs X es t) (hn : (assignEach es X.env).length = n + 1 := by rfl) (hs : (assignEach es X.env).findIdx? (fun x => x.1) = some n := by rfl) :
    PG X (.Tuple es k pos) (gStar X.K n t) := by
  constructor
  intro pins s σ H v u Q I r hw
  obtain ⟨a, xs, rfl, hq, hl, hw⟩ := hw
  cases r
  obtain ⟨its, rv, ht, hz⟩ := I.tuple hq
  have el : its.length = xs.length := rv.length.symm
  rw [assign_Tuple]
  refine wpAny_bind (wpAny_standAt ?_)
  refine unpack_star (I.ok.hd hc) ht hn hs (by simp; omega) (by simp; omega) fun h' tk kp => ?_
  have I1 := I.kept (t' := tk) kp
  have hLn := HOk.fresh I1.hok (Nat.le_refl h'.objs.size)
  have I2 : Inv X pins σ (upd H h'.objs.size (.lst (xs.drop n))) { heap := h'.push { cls := .type "list", dict := none, data := .seq (its.drop n).toArray 0 }, gens := s.gens, drawn := s.drawn, toks := tk, os := s.os } := by
    refine I1.laid (fun b o e => Heap.get?_push_of_some _ e) (Nat.le_refl _) ?_
    unfold ObjOk
    exact ⟨by rw [List.length_drop]; omega, _, _, rv.drop n, Heap.get?_push_size h' rfl⟩
  exact h.run pins _ σ _ _ _ Q I2 ((rv.take n).append (.cons (show RelV (.ref h'.objs.size) (.ref h'.objs.size) from rfl) .nil)) (hw _ hLn)
end Cf
/-! Own layer: .get of a dict of the module with texts as keys; > of tuples of numbers. -/
namespace Cf
open PySem PySem.Spec PyProof.Rows L2
def tKGet (K : W.Frag) (d : Addr) (td ty : TE) : TE := fun σ H Q => td σ H fun x H1 => x = .ref d ∧ ty σ H1 fun y H2 => ∃ z r v0, y = .str z ∧ W.nsIn K d z = some r ∧ RelV v0 (r.getD .none) ∧ Q v0 H2
theorem pe_kget {X : Cx} {o e : Expr} {apos cpos : Pos} {d : Addr} {es : Array DictEntry} {n : Nat} {td ty : TE} (D : KDict X.K X.w d es n) (ho : PE X o td) (he : PE X e ty) (m : M1 X o (Str.ofString "get") apos e cpos) :
    PE X ((o.Attribute (Str.ofString "get") apos).Call [e] [] cpos) (tKGet X.K d td ty) := by
  constructor
  intro pins s σ H Q I h
  refine wpAny_Call_method m.base m.few m.line F.plainAttrs_dict F.slot_dict_get F.type_dict_get (thn (ho.run pins s σ H _ I h) fun u s1 hx => ?_)
  obtain ⟨x, H1, I1, rx, rfl, q1⟩ := hx
  cases rx
  refine ⟨kd_type D I1, fun a ea => ?_, ?_⟩
  · cases ea
    exact ⟨_, I1.kIn _ _ D.at_, rfl⟩
  · rw [m.trees]
    refine Calls.callWith_builtin rfl (Calls.evalArgs_plain (Calls.spliced_cons (thn (he.run pins s1 σ H1 _ I1 q1) fun iv s2 hy => Calls.spliced_nil ?_)))
    obtain ⟨y, H2, I2, ry, z, r, v0, rfl, en, rv, q2⟩ := hy
    obtain ⟨t, rfl⟩ := ry
    refine call_meetsIn F.slot_dict_get (kd_type D I2) F.entry_dict_get (F.args_dict_get_2 (.ref d) _) (meets_dict_get (strKind X.prog X.w) d (strKind_is X.prog X.w z t) D.low) ?_
    refine ⟨_, W.mapOf_K I2.kIn D.at_ D.lit, ?_⟩
    rw [W.find_K D.at_ en]
    exact ⟨v0, H2, I2.tok (s2.toks + 1), rv, q2⟩
/-- x > y, tuples of numbers -/
def gtL (ns ms : List Int) : Bool := Ob.lexAt (fun j => decide (ns.getD j 0 = ms.getD j 0)) (fun j => decide (ms.getD j 0 < ns.getD j 0)) (decide (ns.length > ms.length)) 0 (min ns.length ms.length)
theorem gtL_two (a b c d : Int) : gtL [a, b] [c, d] = (decide (c < a) || (decide (a = c) && decide (d < b))) := by
  simp [gtL, Ob.lexAt]
  by_cases h1 : a = c
  · subst h1
    by_cases h2 : d < b
    · have : ¬ b = d := by omega
      simp [h2, this]
    · simp [h2]
  · simp [h1]
def rGtT (K : W.Frag) : R2 := fun x y H Q => ∃ a b ns ms, x = .ref a ∧ y = .ref b ∧ SqT K H a (ns.map V.int) ∧ SqT K H b (ms.map V.int) ∧ Q (.bl (gtL ns ms)) H
theorem op_gtT {X : Cx} (hu : X.A.units < cLine) : OpR X (compareOp CmpOp.Gt) (rGtT X.K) := by
  intro pins s σ H x y v u Q I rx ry h
  obtain ⟨a, b, ns, ms, rfl, rfl, ha, hb, q⟩ := h
  cases rx
  cases ry
  obtain ⟨its, r1, p1, z1⟩ := I.tuple ha
  obtain ⟨its2, r2, p2, z2⟩ := I.tuple hb
  have i1 := Vals.ints r1
  have i2 := Vals.ints r2
  have e1 : its.toArray.size = ns.length := by rw [List.size_toArray]; exact i1.length
  have e2 : its2.toArray.size = ms.length := by rw [List.size_toArray]; exact i2.length
  have at1 : ∀ j (h : j < its.toArray.size), ∃ t, its.toArray[j] = .int (ns.getD j 0) t := fun j h => IntsAre.int_at i1 j _ (by simp)
  have at2 : ∀ j (h : j < its2.toArray.size), ∃ t, its2.toArray[j] = .int (ms.getD j 0) t := fun j h => IntsAre.int_at i2 j _ (by simp)
  have R := Ob.RcOp.tuples_gt (e := fun j => decide (ns.getD j 0 = ms.getD j 0)) (r := fun j => decide (ms.getD j 0 < ns.getD j 0)) p1 p2 hu (fun j h1 h2 => by
      obtain ⟨t, et⟩ := at1 j h1
      obtain ⟨t', et'⟩ := at2 j h2
      rw [et, et']
      have z : ∀ x y : Int, (x == y) = decide (x = y) := fun x y => by rw [Bool.eq_iff_iff, beq_iff_eq, decide_eq_true_iff]
      rw [← z]
      exact SeqAt.EqAt.int_int _ t _ t') (fun j h1 h2 _ => by
      obtain ⟨t, et⟩ := at1 j h1
      obtain ⟨t', et'⟩ := at2 j h2
      rw [et, et']
      exact Ob.RcOp.gt_int _ _ t t')
  rw [e1, e2] at R
  exact R X.prog X.w X.xe (EP X pins σ Q) ⟨.bl _, H, I, rfl, q⟩
end Cf
/-! Own layer: == of dicts with tuples of numbers and truths as keys, and numbers as values. -/
namespace Cf
open PySem PySem.Spec PyProof.Rows L2
theorem same_pairs_h {prog : Program} {w : World} {K : Type} [DecidableEq K] {knd : HeapKind prog w K} {A : Around} {E : Value → Shared → Prop} {s : Shared} {nm : String} {a b : Addr} {ka kb : List (K × Addr × Value)} {e : Nat → Bool} {Q : Bool → Shared → Prop}
    (ha : (a == sysModules) = false) (hb : (b == sysModules) = false) (da : Heap.DictOfH knd s.heap a ka) (db : Heap.DictOfH knd s.heap b kb) (room : knd.room A) (hl : ka.length = kb.length)
    (hk : ∀ (i : Nat) (k : K) (q : Addr) (v : Value), ka[i]? = some (k, q, v) → (∃ (j : Nat) (p : Addr × Value), kb[j]? = some (k, p)) ∧ ∀ (j : Nat) (p : Addr) (u : Value), kb[j]? = some (k, p, u) → SeqAt.EqAt A s v u (e i))
    (h : Q (decide (∀ i < ka.length, e i = true)) s) : wpAny (model prog w) A (Builtin.Dict.samePairs nm a b) Q E s := by
  obtain ⟨oa, es, ep, a1, a2, a3, a4, a5, a6⟩ := da
  obtain ⟨ob, es', ep', b1, b2, b3, b4, b5, b6⟩ := db
  have na : es.size = ka.length := by rw [← Array.length_toList, a4, List.length_map]
  have nb : es'.size = kb.length := by rw [← Array.length_toList, b4, List.length_map]
  unfold Builtin.Dict.samePairs
  unfold Builtin.Dict.showsAll
  rw [if_neg (by rw [ha]; exact Bool.false_ne_true), if_neg (by rw [hb]; exact Bool.false_ne_true)]
  refine wpAny_bind (wpAny_pure (wpAny_bind (wpAny_pure (wpAny_bind (wpAny_dictEntries a1 a3 (wpAny_bind (wpAny_dictEntries b1 b3 ?_)))))))
  rw [if_neg (by rw [na, nb, hl]; simp)]
  refine wpAny_bind (wpAny_dictEpoch a1 a3 (wpAny_bind ?_))
  rw [Std.Legacy.Range.forIn_eq_forIn_range']
  refine wpAny_forIn_list _ (fun rest b s1 => s1 = s ∧ b = (none, ()) ∧ ∃ i, i + rest.length = es.size ∧ rest = List.range' i rest.length ∧ ∀ j < i, e j = true) _ (fun x rest b s1 inv => ?_) (fun b s1 inv => ?_) _ _ ?_
  · obtain ⟨rfl, rfl, i, e1, e2, e3⟩ := inv
    rw [List.length_cons, List.range'_succ] at e2
    injection e2 with e2 e4
    subst e2
    have hx : x < ka.length := by rw [List.length_cons] at e1; omega
    obtain ⟨⟨k, q, v⟩, hx2⟩ : ∃ y, ka[x]? = some y := ⟨_, List.getElem?_eq_getElem hx⟩
    have ex : es[x]? = some (entryOfKey knd (k, q, v)) := by rw [← Array.getElem?_toList, a4, List.getElem?_map, hx2]; rfl
    refine wpAny_bind (wpAny_dictEntries a1 a3 ?_)
    rw [ex]
    obtain ⟨⟨j0, p0, f0⟩, h2⟩ := hk x k q v hx2
    refine wpAny_bind (wpAny_holding (wpAny_bind (wpAny_dictFind_heap room (a5 _ (List.mem_of_getElem? hx2)) b1 b3 b4 b5 b6 (fun no => absurd f0 (no j0 p0)) fun j p hj => ?_)))
    obtain ⟨p, u⟩ := p
    have ej : es'[j]? = some (entryOfKey knd (k, p, u)) := by rw [← Array.getElem?_toList, b4, List.getElem?_map, hj]; rfl
    refine wpAny_bind (wpAny_dictEntries b1 b3 ?_)
    rw [ej]
    refine wpAny_holding (h2 j p u hj _ _ _ _ ?_)
    cases c : e x with
    | false =>
      have : decide (∀ i < ka.length, e i = true) = false := decide_eq_false fun g => by rw [g x hx] at c; cases c
      rw [this] at h
      exact wpAny_pure (wpAny_pure h)
    | true =>
      rw [if_neg (by simp)]
      refine wpAny_bind (wpAny_dictEpoch a1 a3 ?_)
      rw [if_neg (by simp)]
      refine wpAny_pure ⟨rfl, rfl, x + 1, by rw [List.length_cons] at e1; omega, e4, fun j hj => ?_⟩
      rcases Nat.lt_succ_iff_lt_or_eq.mp hj with g | g
      · exact e3 j g
      · rw [g]; exact c
  · obtain ⟨rfl, rfl, i, e1, e2, e3⟩ := inv
    refine wpAny_pure ?_
    have : decide (∀ i < ka.length, e i = true) = true := decide_eq_true fun j hj => e3 j (by rw [List.length_nil] at e1; omega)
    rw [this] at h
    exact h
  · refine ⟨rfl, rfl, 0, ?_, ?_, fun j hj => absurd hj (Nat.not_lt_zero _)⟩
    · rw [List.length_range']; simp [Std.Legacy.Range.size]
    · rw [List.length_range']
theorem keq_h {prog : Program} {w : World} {K : Type} [DecidableEq K] {knd : HeapKind prog w K} {A : Around} {E : Value → Shared → Prop} {s : Shared} {a b : Addr} {ka kb : List (K × Addr × Value)} {e : Nat → Bool} {Q : Value → Shared → Prop}
    (ha : (a == sysModules) = false) (hb : (b == sysModules) = false) (da : Heap.DictOfH knd s.heap a ka) (db : Heap.DictOfH knd s.heap b kb) (hu : A.units < cLine) (room : knd.room A.in1) (hl : ka.length = kb.length)
    (hk : ∀ (i : Nat) (k : K) (q : Addr) (v : Value), ka[i]? = some (k, q, v) → (∃ (j : Nat) (p : Addr × Value), kb[j]? = some (k, p)) ∧ ∀ (j : Nat) (p : Addr) (u : Value), kb[j]? = some (k, p, u) → SeqAt.EqAt A.in1 s v u (e i))
    (h : Q (.bool (decide (∀ i < ka.length, e i = true))) s) : wpAny (model prog w) A (compareOp CmpOp.Eq (.ref a) (.ref b)) Q E s := by
  show wpAny (model prog w) A (richCompare CmpOp.Eq (.ref a) (.ref b)) Q E s
  refine wpAny_richCompare_same_room (op := CmpOp.Eq) (T := "dict") (id := "dict.__eq__") da.typeIs db.typeIs F.slot_dict_eq ?_ hu
  refine wpAny_call_entry (T := "dict") F.slot_dict_eq da.typeIs F.entry_dict_eq ?_ (F.args_dict_eq_2 (.ref a) (.ref b))
  refine wpAny_bind ?_
  refine wpAny_bind ?_
  refine wpAny_notOrdered_dict da.typeIs ?_
  refine wpAny_pure ?_
  refine wpAny_bind ?_
  refine wpAny_isInstance db.typeIs F.sub_dict_dict ?_
  rw [if_neg (by decide)]
  refine wpAny_bind (wpAny_pure ?_)
  refine wpAny_bind (wpAny_pure ?_)
  refine wpAny_bind (same_pairs_h ha hb da db room hl hk ?_)
  refine wpAny_pure ⟨_, rfl, (fun z => nomatch z), ?_⟩
  rw [beq_true]
  exact h
theorem paired_get {α β : Type} {R : α → β → Prop} : ∀ {xs : List α} {ys : List β}, Paired R xs ys → ∀ (i : Nat) (y : β), ys[i]? = some y → ∃ x, xs[i]? = some x ∧ R x y
  | _, _, .nil, i, y, h => by simp at h
  | _, _, .cons r rs, 0, y, h => by
    simp at h; subst h; exact ⟨_, rfl, r⟩
  | _, _, .cons r rs, i + 1, y, h => by
    rw [List.getElem?_cons_succ] at h
    obtain ⟨x, e, q⟩ := paired_get rs i y h
    exact ⟨x, by rw [List.getElem?_cons_succ]; exact e, q⟩
theorem paired_get' {α β : Type} {R : α → β → Prop} : ∀ {xs : List α} {ys : List β}, Paired R xs ys → ∀ (i : Nat) (x : α), xs[i]? = some x → ∃ y, ys[i]? = some y ∧ R x y
  | _, _, .nil, i, y, h => by simp at h
  | _, _, .cons r rs, 0, y, h => by
    simp at h; subst h; exact ⟨_, rfl, r⟩
  | _, _, .cons r rs, i + 1, y, h => by
    rw [List.getElem?_cons_succ] at h
    obtain ⟨x, e, q⟩ := paired_get' rs i y h
    exact ⟨x, by rw [List.getElem?_cons_succ]; exact e, q⟩
theorem paired_len {α β : Type} {R : α → β → Prop} : ∀ {xs : List α} {ys : List β}, Paired R xs ys → xs.length = ys.length
  | _, _, .nil => rfl
  | _, _, .cons r rs => by rw [List.length_cons, List.length_cons, paired_len rs]
/-- x == y, two such dicts with the same keys in the same order -/
def rEqK (P : Program) (w : World) : R2 := fun x y H Q => ∃ (a b : Addr) (xs ys : List Ent) (ns ms : List Int), x = .ref a ∧ y = .ref b ∧ H a = some (KDo P w a xs) ∧ H b = some (KDo P w b ys) ∧ KeysAt H xs ∧ KeysAt H ys ∧
  (xs.map fun x => x.2.1) = (ys.map fun x => x.2.1) ∧ (xs.map fun x => x.2.2) = ns.map V.int ∧ (ys.map fun x => x.2.2) = ms.map V.int ∧ Q (.bl (decide (ns = ms))) H
theorem all_eq {ns ms : List Int} {n : Nat} (h1 : ns.length = n) (h2 : ms.length = n) : decide (∀ i < n, (ns.getD i 0 == ms.getD i 0) = true) = decide (ns = ms) := by
  rw [decide_eq_decide]
  constructor
  · intro h
    apply List.ext_getElem (by omega)
    intro i i1 i2
    have := h i (by omega)
    rw [beq_iff_eq] at this
    simpa [List.getD, List.getElem?_eq_getElem i1, List.getElem?_eq_getElem i2] using this
  · rintro rfl i _
    exact beq_iff_eq.mpr rfl
theorem op_eqK {X : Cx} (hu : X.A.units + 10 < cLine) : OpR X (compareOp CmpOp.Eq) (rEqK X.prog X.w) := by
  intro pins s σ H x y v u Q I rx ry h
  obtain ⟨a, b, xs, ys, ns, ms, rfl, rfl, ha, hb, ka, kb, ek, en, em, q⟩ := h
  cases rx
  cases ry
  obtain ⟨n1, nd1, sz1, as, p1, d1⟩ := kdo_get I ha ka
  obtain ⟨n2, nd2, sz2, bs, p2, d2⟩ := kdo_get I hb kb
  have l1 := paired_len p1
  have l2 := paired_len p2
  have l3 : xs.length = ys.length := by have := congrArg List.length ek; simpa using this
  have l4 : ns.length = xs.length := by have := congrArg List.length en; simpa using this.symm
  have l5 : ms.length = ys.length := by have := congrArg List.length em; simpa using this.symm
  refine keq_h (e := fun i => ns.getD i 0 == ms.getD i 0) n1 n2 d1 d2 (by omega) (show X.A.in1.units + 8 < cLine by show X.A.units + 1 + 8 < cLine; omega) (by omega) (fun i k p v hi => ?_) ?_
  · obtain ⟨x, hx, r1, r2, r3⟩ := paired_get p1 i _ hi
    dsimp only at r1 r2 r3
    have hil : i < ys.length := by have := (List.getElem?_eq_some_iff.mp hx).1; omega
    obtain ⟨y, hy⟩ : ∃ y, ys[i]? = some y := ⟨_, List.getElem?_eq_getElem hil⟩
    have exy : x.2.1 = y.2.1 := by
      have := congrArg (fun l => l[i]?) ek
      rw [List.getElem?_map, List.getElem?_map, hx, hy] at this
      simpa using this
    have exn : x.2.2 = V.int (ns.getD i 0) := by
      have := congrArg (fun l => l[i]?) en
      rw [List.getElem?_map, List.getElem?_map, hx, List.getElem?_eq_getElem (show i < ns.length by omega)] at this
      have g : ns.getD i 0 = ns[i] := by simp [List.getD, List.getElem?_eq_getElem (show i < ns.length by omega)]
      rw [g]
      simpa using this
    have eyn : y.2.2 = V.int (ms.getD i 0) := by
      have := congrArg (fun l => l[i]?) em
      rw [List.getElem?_map, List.getElem?_map, hy, List.getElem?_eq_getElem (show i < ms.length by omega)] at this
      have g : ms.getD i 0 = ms[i] := by simp [List.getD, List.getElem?_eq_getElem (show i < ms.length by omega)]
      rw [g]
      simpa using this
    obtain ⟨y', hy', t1, t2, t3⟩ := paired_get' p2 i y hy
    refine ⟨⟨i, y'.2, ?_⟩, fun j p' u hj => ?_⟩
    · rw [hy', ← (show y'.1 = k by rw [t1, ← exy, r1])]
    · obtain ⟨z, hz, w1, w2, w3⟩ := paired_get p2 j _ hj
      dsimp only at w1 w2 w3
      have ezy : z.2.1 = y.2.1 := by rw [← exy]; exact nkey_inj (by rw [← w1, r1])
      have eji : j = i := by
        have hz' : (ys.map fun x => x.2.1)[j]? = some y.2.1 := by rw [List.getElem?_map, hz]; simp [ezy]
        have hy' : (ys.map fun x => x.2.1)[i]? = some y.2.1 := by rw [List.getElem?_map, hy]; rfl
        have jl := (List.getElem?_eq_some_iff.mp hz').1
        have il := (List.getElem?_eq_some_iff.mp hy').1
        exact (List.getElem?_inj jl nd2).mp (by rw [hz', hy'])
      subst eji
      rw [hy] at hz
      cases hz
      rw [exn] at r3
      rw [eyn] at w3
      obtain ⟨t, rfl⟩ := (show ∃ t, v = Value.int (ns.getD j 0) t from r3)
      obtain ⟨t', rfl⟩ := (show ∃ t, u = Value.int (ms.getD j 0) t from w3)
      exact SeqAt.EqAt.int_int _ t _ t'
  · rw [all_eq (by omega) (by omega)]
    exact ⟨.bl _, H, I, rfl, q⟩
end Cf
/-! Own layer: {elt for ..} of numbers. -/
namespace Cf
open PySem PySem.Spec PyProof.Rows L2
def tScI (w : World) (wi : TI) (g : TG) (tt : TT) (te : TE) (vs : List Nat) : TE := fun σ H Q =>
  wi σ H fun J H1 => ∀ D, H1 D = none → ∃ W : Nat → Nat → Hp → Prop, (∃ m, W 0 m (upd H1 D (SetO w D (fun _ => false) 0))) ∧ ∀ i m H, W i m H →
    (J.stop i H ∧ Q (.ref D) H) ∨ (J.go i H ∧ ∃ Nx : Hp → Prop, (∀ H', Nx H' → ∃ m', m' < m ∧ W (i + 1) m' H') ∧ ∀ x H', J.yld i H x H' →
      g x (wipe σ vs) H' fun σ2 H2 => wipe σ2 vs = wipe σ vs ∧ tt σ2 H2 fun b H3 => if b = true then te σ2 H3 fun y H4 =>
        ∃ c S n, y = .int c ∧ H4 D = some (SetO w D S n) ∧ n + 1 < scanBound ∧ Nx (upd H4 D (SetO w D (fun j => S j || decide (j = c)) (if S c = true then n else n + 1))) else Nx H3)
set_option maxHeartbeats 1000000 in
theorem pe_scI {X : Cx} {elt tg iter : Expr} {ifs : List Expr} {scope : Scope} {own : List (Str × Nat)} {pos : Pos} {wi : TI} {g : TG} {tt : TT} {te : TE} (hc : X.calm = true) (hN : X.N.Nodup) (hi : PI X tg iter wi) (ok : BlkOk X.N X.env.scope scope own)
    (hg : ∀ (s : Shared) (H : Hp) (C : Addr) (cl : List (Str × Addr)) (fp : List Addr), PG (X.blk s H scope (compEnvC scope cl C X.env) fp) tg g)
    (ht : ∀ (s : Shared) (H : Hp) (C : Addr) (cl : List (Str × Addr)) (fp : List Addr), PTs (X.blk s H scope (compEnvC scope cl C X.env) fp) ifs tt)
    (he : ∀ (s : Shared) (H : Hp) (C : Addr) (cl : List (Str × Addr)) (fp : List Addr), PE (X.blk s H scope (compEnvC scope cl C X.env) fp) elt te)
    (hs : ∀ x, foldedSetIterable iter X.env x = pure x := by intro _; rfl) :
    PE X (.SetComp elt [⟨tg, iter, ifs, 0⟩] scope pos) (tScI X.w wi g tt te (own.map (·.2))) := by
  constructor
  intro pins s σ H Q I h
  rw [arm_eval_SetComp]
  refine wpAny_comprehension_free rfl hs (closure_ok fun y hy e => (ok.free y hy e).elim (fun k => I.ok.has y.1 (.inl k)) fun k => I.ok.has y.1 (.inr k)) ok.kind (fun y hy e => by rw [ok.uniq y hy, e]) (thn (hi.run pins s σ H _ I h) fun xv s1 hx => thn hx fun itv s2 h2 => ?_)
  obtain ⟨it, fp, tn, J, H2, rfl, I2, T, st2, f2, q⟩ := h2
  refine PpSet.newSet_ok (newEnv_comp ?_)
  have hDn := HOk.fresh I2.hok (Nat.le_refl s2.heap.objs.size)
  obtain ⟨W, ⟨m0, w0⟩, turn⟩ := q s2.heap.objs.size hDn
  have I3 : Inv X pins σ (upd H2 s2.heap.objs.size (SetO X.w s2.heap.objs.size (fun _ => false) 0)) { s2 with heap := s2.heap.push { cls := .type "set", dict := none, data := .set #[] 0 (.fresh 0 0 (!X.w.params.followText "set-order")) } } :=
    I2.laid (fun b o e => Heap.get?_push_of_some _ e) (Nat.le_refl _) (setO_new (setR_fresh X.w))
  generalize eS : ({ s2 with heap := s2.heap.push { cls := .type "set", dict := none, data := .set #[] 0 (.fresh 0 0 (!X.w.params.followText "set-order")) } } : Shared) = S3 at I3 ⊢
  have h3 : S3.heap = s2.heap.push { cls := .type "set", dict := none, data := .set #[] 0 (.fresh 0 0 (!X.w.params.followText "set-order")) } := by rw [← eS]
  have f3 : ∀ b ∈ fp, FpOk X pins (upd H2 s2.heap.objs.size (SetO X.w s2.heap.objs.size (fun _ => false) 0)) b ∧ b < S3.heap.objs.size := fun b hb => by
    obtain ⟨o, e, _⟩ := T.obj 0 s2.heap st2 b hb
    have hlt := Heap.lt_size e
    refine ⟨⟨by rw [upd_ne (Nat.ne_of_lt hlt)]; exact (f2 b hb).1, (f2 b hb).2⟩, ?_⟩
    rw [h3, Heap.size_push]
    exact Nat.lt_succ_of_lt hlt
  have st3 := T.keep 0 s2.heap S3.heap st2 fun b _ o e => by rw [h3]; exact Heap.get?_push_of_some _ e
  have I4 := block_start I3 ok hN f3
  have pg := hg S3 (upd H2 s2.heap.objs.size (SetO X.w s2.heap.objs.size (fun _ => false) 0)) S3.heap.objs.size (cellsFrom (S3.heap.objs.size + 1) scope.names (cloFrom X.env.cells scope.names [])) fp
  have pt := ht S3 (upd H2 s2.heap.objs.size (SetO X.w s2.heap.objs.size (fun _ => false) 0)) S3.heap.objs.size (cellsFrom (S3.heap.objs.size + 1) scope.names (cloFrom X.env.cells scope.names [])) fp
  have pe := he S3 (upd H2 s2.heap.objs.size (SetO X.w s2.heap.objs.size (fun _ => false) 0)) S3.heap.objs.size (cellsFrom (S3.heap.objs.size + 1) scope.names (cloFrom X.env.cells scope.names [])) fp
  generalize eH : upd H2 s2.heap.objs.size (SetO X.w s2.heap.objs.size (fun _ => false) 0) = H3 at *
  have hH3 : H3 s2.heap.objs.size = some (SetO X.w s2.heap.objs.size (fun _ => false) 0) := by rw [← eH, upd_same]
  generalize s2.heap.objs.size = D at *
  obtain ⟨CE, eCE⟩ : ∃ CE, CE = compEnvC scope (cellsFrom (S3.heap.objs.size + 1) scope.names (cloFrom X.env.cells scope.names [])) S3.heap.objs.size X.env := ⟨_, rfl⟩
  have cL : CE.locals = S3.heap.objs.size := by rw [eCE]; rfl
  show codeAny (model X.prog X.w) X.A (Code.compStart (.SetComp elt [⟨tg, iter, ifs, 0⟩] scope pos) 0 (.ref it) (.ref D) (compEnvC scope (cellsFrom (S3.heap.objs.size + 1) scope.names (cloFrom X.env.cells scope.names [])) S3.heap.objs.size X.env))
    (compPost (model X.prog X.w) X.A X.xe none (EP X pins σ Q) (.ref D) S3.heap.objs.size) _
  rw [← eCE] at I4 pg pt pe ⊢
  obtain ⟨S4, eS4⟩ : ∃ S4 : Shared, S4 = { heap := pushCells (S3.heap.push { cls := .type "dict", dict := none, data := .dict #[] 0 }) scope.names, gens := S3.gens, drawn := S3.drawn, toks := S3.toks, os := S3.os } := ⟨_, rfl⟩
  have nfp : ∀ b ∈ fp, H3 b = none := fun b hb => (f3 b hb).1.1
  have st4 := T.keep 0 S3.heap S4.heap st3 fun b _ o e => by rw [eS4]; exact pushCells_keeps scope.names _ b o (Heap.get?_push_of_some _ e)
  rw [← eS4] at I4 ⊢
  have stat : ∀ {σ' : L2.St} {H' : Hp} {s' : Shared}, Inv (X.blk S3 H3 scope CE fp) [] σ' H' s' → (∀ b ∈ fp, H' b = none) → ∀ b ∈ fp, FpOk (X.blk S3 H3 scope CE fp) [] H' b := fun I' hn b hb =>
    ⟨hn b hb, (I'.ok.exf b hb).1, I'.ok.exfs b hb, .inl hb, fun x c e => (I'.ok.exf b hb).2 x c e, fun p hp => absurd (show p ∈ [] from by simpa using hp) List.not_mem_nil⟩
  have loop := PpSet.compLoopS_any (prog := X.prog) (w := X.w) (A := X.A) (R := compPost (model X.prog X.w) X.A X.xe none (EP X pins σ Q) (.ref D) S3.heap.objs.size) (elt := elt) (target := tg) (iter := iter) (ifs := ifs) (scope := scope) (pos := pos) (it := .ref it) (acc := .ref D) (env := CE)
    (fun n s' => ∃ i H', Inv (X.blk S3 H3 scope CE fp) [] (wipe σ (own.map (·.2))) H' s' ∧ tn i s'.heap ∧ (∀ b ∈ fp, H' b = none) ∧ W i n H') ?_ m0 (s := S4) ⟨0, H3, I4, st4, nfp, w0⟩
  · exact PpSet.codeAny_compStart_set loop (T.self X.A 0 S4 _ _ st4 loop)
  rintro n s5 ⟨i, H5, I5, st5, n5, w5⟩
  rcases turn i n H5 w5 with ⟨stop, qq⟩ | ⟨go, Nx, hNx, step⟩
  · have td := T.done (X.blk S3 H3 scope CE fp) rfl rfl rfl hc i [] s5 (wipe σ (own.map (·.2))) H5 (fun _ _ => False) I5 (stat I5 n5) st5 stop
    refine thnF td ?_
    rintro r s6 ⟨rfl, I6⟩
    have I7 := Inv.call' I3 I6.os I6.base I6.hok I6.bare fun b hb => ⟨(f3 b hb).1.2.2.2.1, (f3 b hb).1.2.1, (f3 b hb).1.2.2.2.2.1, (f3 b hb).1.2.2.2.2.2⟩
    have nC : H5 S3.heap.objs.size = none := by
      have z := I6.free
      rw [← cL]
      exact z
    obtain ⟨m, hn, _⟩ := I6.loc
    have hn2 : s6.heap.Ns S3.heap.objs.size m := by rw [← cL]; exact hn
    have f := Inv.fpOk I3 (Nat.le_refl S3.heap.objs.size) nC
    exact ⟨m, hn2, fun h'' sb => ⟨.ref D, H5, Inv.turned I7 (fun b o hb e => (sb.2 b hb).trans e) f.1 f.2.1 f.2.2.2.1 f.2.2.2.2.1 f.2.2.2.2.2, rfl, qq⟩⟩
  · have ti := T.item (X.blk S3 H3 scope CE fp) rfl rfl rfl hc i [] s5 (wipe σ (own.map (·.2))) H5 (fun _ _ => False) I5 (stat I5 n5) st5 go
    refine thnF ti ?_
    rintro r s6 ⟨u, rfl, h6⟩
    refine thnF h6 ?_
    rintro _ s7 ⟨x, H7, I7, r7, y7, st7, n7⟩
    have I7' := Inv.pinned I7 (stat I7 n7) (T.obj (i + 1) s7.heap st7)
    refine thnF (pg.run ([] ++ pinsAt fp s7.heap) s7 _ H7 x u _ I7' r7 (step x H7 y7)) ?_
    rintro _ s8 ⟨σ8, H8, I8, hw8, q8⟩
    refine thnF (pt.run ([] ++ pinsAt fp s7.heap) s8 σ8 H8 _ I8 q8) ?_
    rintro b s9 ⟨H9, I9, q9⟩
    have fin : ∀ {s' : Shared} {H' : Hp}, Inv (X.blk S3 H3 scope CE fp) ([] ++ pinsAt fp s7.heap) σ8 H' s' → Nx H' → ∃ m', m' < n ∧ ∃ i H', Inv (X.blk S3 H3 scope CE fp) [] (wipe σ (own.map (·.2))) H' s' ∧ tn i s'.heap ∧ (∀ b ∈ fp, H' b = none) ∧ W i m' H' := by
      intro s' H' I' nx
      obtain ⟨m', hm, w'⟩ := hNx H' nx
      have pin' : ∀ b ∈ fp, ∀ o, s7.heap.get? b = some o → s'.heap.get? b = some o ∧ H' b = none := fun b hb o e =>
        let z := I'.pin (b, o) (List.mem_append_right (X.blk S3 H3 scope CE fp).pn (List.mem_append_right [] (mem_pinsAt hb e)))
        ⟨z.1, z.2.1⟩
      have hl : (wipe σ (own.map (·.2))).length = σ8.length := by rw [← hw8, wipe_length]
      refine ⟨m', hm, i + 1, H', Inv.weak (Inv.unpinned I') hl fun j v e => (wipe_some (by rw [← hw8] at e; exact e)).1, T.keep (i + 1) s7.heap s'.heap st7 fun b hb o e => (pin' b hb o e).1, fun b hb => ?_, w'⟩
      obtain ⟨o, e, _⟩ := T.obj (i + 1) s7.heap st7 b hb
      exact (pin' b hb o e).2
    cases b with
    | false =>
      rw [if_neg (by decide)] at q9
      rw [if_neg (by decide)]
      exact fin I9 q9
    | true =>
      rw [if_pos rfl] at q9
      rw [if_pos rfl]
      refine thnF (pe.run ([] ++ pinsAt fp s7.heap) s9 σ8 H9 _ I9 q9) ?_
      rintro z s10 ⟨yk, H10, I10, r10, c, S, n2, rfl, hD10, hz10, nx⟩
      refine thnF (mt_sadd (X := X.blk S3 H3 scope CE fp) ([] ++ pinsAt fp s7.heap) s10 σ8 H10 (.ref D) [.int c] (.ref D) [z] (fun _ H' => Nx H') I10 rfl (.cons r10 .nil) ⟨D, c, S, n2, rfl, rfl, hD10, hz10, nx⟩) ?_
      rintro _ s12 ⟨_, H12, I12, _, nx12⟩
      exact fin I12 nx12
/-- len of a set of numbers -/
def rLenI (w : World) : List V → Hp → VK → Prop := fun vs H Q => ∃ a S n, vs = [.ref a] ∧ H a = some (SetO w a S n) ∧ Q (.int (n : Nat)) H
theorem cr_lenI {X : Cx} : CallR X (.builtin "len") (rLenI X.w) := by
  intro pins s σ H vs us Q I r h
  obtain ⟨a, S, n, rfl, ha, q⟩ := h
  rw [Vals.ref1 r]
  obtain ⟨o, es, ep, t, e1, e2, e3, _, _, _, e7, e8, e9, _⟩ := setO_get I ha
  refine call_len_set e1 e2 e3 e8 ?_ ⟨.int (n : Nat), H, I.tok _, ?_, q⟩
  · have : (scanBound : Int) ≤ 2 ^ 63 := by decide
    omega
  · rw [e9]
    exact ⟨_, rfl⟩
theorem pe_df0 {X : Cx} {k : Nat} {x : Str} {ps : List Str} {sp : Sp} {dvs : List V} {p pos : Pos} (D : Df X.prog X.w X.K X.mg X.base k x ps dvs sp) (hr : Room k X.A) (hg : Gl X x := by rfl) (hdb : (x == ("__debug__" : Str)) = false := by decide) :
    PE X (.Call (.Name x p) [] [] pos) (tCall sp dvs E0 tNil) := by
  obtain ⟨f, fd, ds, F, m, kp, hv, b⟩ := D.ex
  exact pe_call0 F hr hg m kp b hv pass0 hdb
theorem lt0 {n : Nat} (h : n + 64 < cLine) : n < cLine := by omega
theorem lt8 {n : Nat} (h : n + 64 < cLine) : n + 8 < cLine := by omega
theorem lt10 {n : Nat} (h : n + 64 < cLine) : n + 10 < cLine := by omega
end Cf
/-! Own layer: truth, in, and a new entry of a dict whose keys are tuples. -/
namespace Cf
open PySem PySem.Spec PyProof.Rows L2
section
variable {X : Cx} {pins : List (Addr × Obj)} {σ : L2.St} {H : Hp} {s : Shared}
theorem truth_H {prog : Program} {w : World} {A : Around} {E : Value → Shared → Prop} {s : Shared} {K : Type} [DecidableEq K] {knd : HeapKind prog w K} {d : Addr} {xs : List (K × Addr × Value)} {Q : Bool → Shared → Prop} (low : (d == sysModules) = false) (hm : s.heap.DictOfH knd d xs) (fit : (xs.length : Int) < 2 ^ 63)
    (h : Q (!xs.isEmpty) { s with toks := s.toks + 1 + 1 }) : wpAny (model prog w) A (truthy (.ref d)) Q E s := by
  have ne : ((xs.length : Int) != 0) = !xs.isEmpty := by cases xs <;> simp <;> omega
  have ty : s.TypeIs (.ref d) "dict" := by
    obtain ⟨o, _, _, e1, e2, _⟩ := hm
    exact ⟨o, e1, e2.1⟩
  have len : wpAny (model prog w) A (runValue (.builtin "len" ⟨[.ref d], []⟩)) (fun r s' => r = .int xs.length (s.toks + 1) ∧ Q (!xs.isEmpty) s') E s := by
    refine wpAny_runValue (codeAny_builtin entry_len ?_)
    rw [Around.under_plainId plain_len _]
    refine wpAny_mono (wpAny_len_body_dictH (Q := fun r s' => r = .int xs.length (s.toks + 1) ∧ Q (!xs.isEmpty) s') low hm fit ⟨rfl, h⟩) (fun fin s' g => ?_) fun _ _ e => e
    obtain ⟨r, rfl, g⟩ := g
    exact g
  unfold truthy
  first
    | refine wpAny_bind (wpAny_callSpecial?_none (name := Str.ofString "__bool__") ty noBool_dict ?_)
    | refine wpAny_bind (wpAny_pure (wpAny_bind (wpAny_callSpecial?_none (name := Str.ofString "__bool__") ty noBool_dict ?_)))
  first
    | refine wpAny_bind (wpAny_specialOf (name := Str.ofString "__len__") ty F.slot_dict_len.lookup ?_)
    | refine wpAny_bind (wpAny_pure (wpAny_bind (wpAny_specialOf (name := Str.ofString "__len__") ty F.slot_dict_len.lookup ?_)))
  have fin : ∀ r s', (r = Value.int xs.length (s.toks + 1) ∧ Q (!xs.isEmpty) s') → wpAny (model prog w) A (match r with | .int n _ => pure (n != 0) | _ => unsupported "internal:truth.len") Q E s' := fun r s' g => by
    obtain ⟨rfl, hq⟩ := g
    exact wpAny_pure (ne ▸ hq)
  first
    | exact wpAny_bind (wpAny_mono len fin fun _ _ e => e)
    | exact wpAny_bind (wpAny_pure (wpAny_bind (wpAny_mono len fin fun _ _ e => e)))
def tTruK (P : Program) (w : World) (te : TE) : TT := fun σ H Q => te σ H fun x H1 => ∃ (D : Addr) (xs : List Ent), x = .ref D ∧ H1 D = some (KDo P w D xs) ∧ KeysAt H1 xs ∧ Q (!xs.isEmpty) H1
theorem pt_truthK {e : Expr} {te : TE} (he : PE X e te) (hp : ∀ whole, isTrue e X.env whole = (do let v ← whole; standAt e.pos; holding [v] (truthy v)) := by intro _; rfl) : PT X e (tTruK X.prog X.w te) := by
  constructor
  intro pins s σ H Q I h
  refine isTrue_plain (thn (he.run pins s σ H _ I h) fun v s1 ⟨x, H1, I1, r1, q1⟩ => ?_) (hp _)
  obtain ⟨D, xs, rfl, hD, hk, q⟩ := q1
  cases (show v = Value.ref D from r1)
  obtain ⟨n, nd, sz, ys, e5, dd⟩ := kdo_get I1 hD hk
  have el : (!ys.isEmpty) = !xs.isEmpty := by cases e5 <;> rfl
  refine truth_H n dd ?_ ?_
  · rw [← e5.length]
    have : (sizeLine : Int) ≤ 2 ^ 62 := by rw [sizeLine_eq]; decide
    omega
  · rw [el]
    exact ⟨H1, I1.tok _, q⟩
/-! ### d[k] = v -/
def rSetK (P : Program) (w : World) : TSet := fun o i v H Q => ∃ (D q : Addr) (xs : List Ent) (k : List Int), o = .ref D ∧ i = .ref q ∧ H D = some (KDo P w D xs) ∧ KeysAt H xs ∧ xs.length < sizeLine ∧ KeyAt H q k ∧ (k ∉ xs.map fun x => x.2.1) ∧ Q (upd H D (KDo P w D (xs ++ [(q, k, v)])))
theorem set_K (hu : X.A.units + 10 < cLine) : PSet X (rSetK X.prog X.w) := by
  intro pins s σ H o i v ov iv u Q I ro ri rv h
  obtain ⟨D, q, xs, k, rfl, rfl, hD, hk, hz, ky, new, hq⟩ := h
  cases (show ov = Value.ref D from ro)
  cases (show iv = Value.ref q from ri)
  obtain ⟨n, nd, sz, ys, e5, dd⟩ := kdo_get I hD hk
  have none : atKey ys (nkey k) = none := by
    rcases ent_find (k := k) e5 with ⟨_, g⟩ | ⟨z, p, g, _⟩
    · exact g
    · rw [valK_none new] at g; cases g
  have st : storedH ys (nkey k) q u = ys ++ [(nkey k, q, u)] := by unfold storedH; rw [none]; rfl
  refine wpAny_setItem_heap (knd := nestedKind X.prog X.w) (show X.A.in1.units + 8 < cLine by show X.A.units + 1 + 8 < cLine; omega) (ky.is I) dd (fun h' dd' hs => ⟨_, ?_, hq⟩) (by rw [← e5.length]; exact sz)
  rw [st] at dd'
  obtain ⟨ob, es, ep, e1, e2, e3, e4, _⟩ := dd'
  refine d_write I (by rw [hD]; exact trivial) hs ⟨ob, e1⟩ (kdo_new n ?_ ?_ ⟨ob, es, ep, _, e1, e2, e3, e4, paired_snoc e5 ⟨rfl, rfl, rv⟩⟩)
  · rw [List.map_append, List.nodup_append]
    refine ⟨nd, by simp, fun a ha b hb e => ?_⟩
    simp only [List.map_cons, List.map_nil, List.mem_singleton] at hb
    subst hb e
    exact new ha
  · rw [List.length_append, List.length_singleton]; omega
/-! ### {} -/
def tDNewQ (P : Program) (w : World) : TE := fun _ H Q => ∀ D, H D = none → Q (.ref D) (upd H D (KDo P w D []))
theorem pe_dnewQ {pos : Pos} : PE X (.Dict [] [] pos) (tDNewQ X.prog X.w) := by
  constructor
  intro pins s σ H Q I h
  have new := kdo_nil (P := X.prog) (w := X.w) (H := upd H s.heap.objs.size (KDo X.prog X.w s.heap.objs.size [])) s.heap (Inv.big I)
  refine wpAny_Dict_empty ⟨.ref s.heap.objs.size, _, ?_, rfl, h _ (I.hok.fresh (Nat.le_refl _))⟩
  exact I.laid (t' := s.toks) (fun _ _ q => Heap.get?_push_of_some _ q) (Nat.le_refl _) new
end
end Cf
/-! Own layer: enumerate(tuple). -/
namespace Cf
open PySem PySem.Spec PyProof.Rows L2
/-- what enumerate(v) leaves behind -/
abbrev enumOb (i : Addr) : Obj := { cls := .type "enumerate", data := .fields #[.none, .bool false, .ref i, rawInt 0, .none, .none] }
set_option maxHeartbeats 1000000 in
theorem enum1_new {v : Value} {o : Obj} {Hq : Heap → Prop} (B : Begins v o Hq) :
    Meets (Builtin.«enumerate.__new__» ⟨[.type "enumerate", v], []⟩) (fun _ R s => Hq s.heap ∧
      R (.ok (.ret (.ref (s.heap.push o).objs.size))) { s with heap := (s.heap.push o).push (enumOb s.heap.objs.size) }) :=
  .of_wp fun prog w A R s hyp => by
    obtain ⟨hp, gn, dr, tks, osx⟩ := s
    obtain ⟨g1, g2⟩ := hyp
    have hs := sub_enumerate
    have it1 : ∀ {A2 : Around} {E2 : Value → Shared → Prop} {Q2 : Value → Shared → Prop}, Q2 (.ref hp.objs.size) ⟨hp.push o, gn, dr, tks, osx⟩ →
        wpAny (model prog w) A2 (pyIter v) Q2 E2 ⟨hp, gn, dr, tks, osx⟩ := fun q => B.iter prog w _ _ ⟨hp, gn, dr, tks, osx⟩ _ g1 q
    wp_walk using it1
    refine wpAny_stack_any fun stk => wpAny_pure ?_
    split
    · rename_i cc _ _ _ _ _
      cases (cc == Value.type "enumerate") <;> (wp_walk using it1; exact ⟨_, rfl, g2⟩)
    · wp_walk using it1
      exact ⟨_, rfl, g2⟩
/-- the items of the tuple at a with their numbers, each in a pair that is new -/
def IteT (K : W.Frag) (a : Addr) : It where
  go i H := ∃ (xs : List V) (x : V), SqT K H a xs ∧ xs[i]? = some x
  yld i H v H' := ∃ T x, v = .ref T ∧ H T = none ∧ H' = upd H T (.tup [.int (i : Nat), x]) ∧ ∀ xs, SqT K H a xs → xs[i]? = some x
  stop i H := ∃ xs : List V, SqT K H a xs ∧ i = xs.length
theorem turn_enumT {P : Program} {w : World} {K : W.Frag} {el : List Expr} {n : Nat} {tpos : Pos} (a e it : Addr) :
    Turn P w K (.Tuple el n tpos) (IteT K a) [e, it] e (fun i h => (∃ old, IsEnum h e it ((i : Nat) : Int) old) ∧ h.IsTupleIter it a i ∧ e ≠ it) where
  mem := List.mem_cons_self
  obj := by
    rintro i h ⟨⟨old, he⟩, ⟨o, ho, hc, hd⟩, _⟩ b hb
    rcases List.mem_cons.mp hb with rfl | hb
    · exact ⟨_, he, fun v q => nomatch q⟩
    · rw [List.mem_singleton.mp hb]
      exact ⟨o, ho, fun v q => by rw [hd] at q; cases q⟩
  keep := by
    rintro i h h' ⟨⟨old, he⟩, hi, ne⟩ k
    exact ⟨⟨old, k e (by simp) _ he⟩, hi.at fun o q => k it (by simp) o q, ne⟩
  item := by
    rintro X rfl rfl rfl hc i pins s σ H E I hf ⟨⟨old, he⟩, hit, ne⟩ ⟨xs, x, hq, hx⟩
    obtain ⟨its, rv, tp, _⟩ := I.tuple hq
    obtain ⟨u, hu, ru⟩ := rv.get hx
    have e1 : e < s.heap.objs.size := Heap.lt_size he
    have e2 : it < s.heap.objs.size := let ⟨_, q, _⟩ := hit; Heap.lt_size q
    have ai : a ≠ it := by
      rintro rfl
      obtain ⟨o1, q1, q2, _⟩ := tp
      obtain ⟨o2, q3, q4, _⟩ := hit
      rw [q1] at q3; cases q3
      rw [q2] at q4; exact absurd q4 (by decide)
    have ae : e ≠ a := by
      rintro rfl
      obtain ⟨o1, q1, q2, _⟩ := tp
      have q3 := he
      unfold IsEnum at q3
      rw [q1] at q3
      cases q3
      exact absurd (show Value.type "enumerate" = Value.type "tuple" from q2) (by decide)
    have D := Draws.tuple (prog := X.prog) (w := X.w) (A := X.A.in1) (I.ok.hd hc) it a ai its.toArray
    have hi : i < its.toArray.size := by
      have := (List.getElem?_eq_some_iff.mp hu).1
      simpa using this
    refine wpAny_pyNext_enum_itemC D he ⟨hit, tp⟩ hi ne (by simp [ne, ae]) fun y h1 tk hy ho hs hT hsz hk => ⟨_, rfl, ?_⟩
    obtain rfl : u = y := by
      have q : its[i]? = some y := by simpa using hy
      rw [hu] at q; exact Option.some.inj q
    refine wpAny_letOwnedTupleGo_enum (s := { s with heap := h1, toks := tk + 1 }) ho fun h2 he2 sb => ?_
    have nT : s.heap.objs.size ≠ e := Nat.ne_of_gt e1
    have gT := (sb.2 _ nT).trans hT
    have new : ObjOk X.prog X.w (upd H s.heap.objs.size (.tup [.int (i : Nat), x])) h2 s.heap.objs.size (.tup [.int (i : Nat), x]) := by
      refine ⟨by show 2 ≤ sizeLine; decide, [.int i tk, u], ?_, _, gT, rfl, _, rfl⟩
      exact .cons ⟨_, rfl⟩ (.cons ru .nil)
    have keep : ∀ b ob, b ∉ [e, it] → s.heap.get? b = some ob → h2.get? b = some ob := fun b ob hb q => by
      simp only [List.mem_cons, List.not_mem_nil, or_false, not_or] at hb
      exact (sb.2 b hb.1).trans (hk b ob hb.1 hb.2 q)
    have I1 := I.turnedNew (t' := tk + 1) (ch := [e, it]) keep hf (Nat.le_refl _) new
    refine ⟨.ref s.heap.objs.size, _, I1, rfl, ⟨_, x, rfl, I.hok.fresh (Nat.le_refl _), rfl, fun ys hy => ?_⟩, ⟨⟨u, ?_⟩, hs.1.at fun o q => (sb.2 it (Ne.symm ne)).trans q, ne⟩, fun b hb => ?_⟩
    · rw [I.tuple_inj hy hq]; exact hx
    · rw [show ((i + 1 : Nat) : Int) = (i : Int) + 1 by omega]
      exact he2
    · have lt : b < s.heap.objs.size := by
        rcases List.mem_cons.mp hb with rfl | hb
        · exact e1
        · rw [List.mem_singleton.mp hb]; exact e2
      rw [upd_ne (Nat.ne_of_lt lt)]
      exact (hf b hb).1
  done := by
    rintro X rfl rfl rfl hc i pins s σ H E I hf ⟨⟨old, he⟩, hit, ne⟩ ⟨xs, hq, hx⟩
    obtain ⟨its, rv, tp, _⟩ := I.tuple hq
    have ai : a ≠ it := by
      rintro rfl
      obtain ⟨o1, q1, q2, _⟩ := tp
      obtain ⟨o2, q3, q4, _⟩ := hit
      rw [q1] at q3; cases q3
      rw [q2] at q4; exact absurd q4 (by decide)
    have D := Draws.tuple (prog := X.prog) (w := X.w) (A := X.A.in1) (I.ok.hd hc) it a ai its.toArray
    obtain ⟨f0, f1, f2, f3, f4, f5⟩ := hf it (by simp)
    have el : i = its.toArray.size := by rw [hx, rv.length]; simp
    refine wpAny_pyNext_enum_endD D he (by rw [← el]; exact ⟨hit, tp⟩) fun h' eb => ⟨rfl, I.turned (t' := s.toks) (fun b o hb q => eb b o hb q) f0 f1 f3 f4 f5⟩
  self := fun A i s Q E st h => let ⟨⟨_, he⟩, _⟩ := st; wpAny_pyIter_enum he h
def iEnumT (K : W.Frag) (ta : TA) : TI := fun σ H R => ta σ H fun vs H1 => ∃ a xs, vs = [.ref a] ∧ SqT K H1 a xs ∧ R (IteT K a) H1
theorem pi_enumT {X : Cx} {e : Expr} {ta : TA} {p pos tpos : Pos} {el : List Expr} {n : Nat} (hg : Gl X "enumerate") (hm : X.mg "enumerate" = none) (ha : PA X [e] ta) (hs : starEach [e] X.env = [(false, eval e X.env)] := by rfl) :
    PI X (.Tuple el n tpos) (.Call (.Name "enumerate" p) [e] [] pos) (iEnumT X.K ta) := by
  constructor
  intro pins s σ H R I h
  refine Call_ (ld_blt I hg hm boot_enumerate (PyProof.Rows.callWith_type1 (thn (ha.run pos pins s σ H _ I h) fun us s1 ⟨vs, H1, I1, r1, q1⟩ => ?_) hs rfl))
  obtain ⟨a, xs, rfl, hq, q⟩ := q1
  obtain ⟨u, rfl, ru⟩ : ∃ u, us = [u] ∧ RelV (.ref a) u := by
    cases r1 with
    | cons z1 z2 => cases z2; exact ⟨_, rfl, z1⟩
  cases (show u = Value.ref a from ru)
  obtain ⟨its, rv, tp, _⟩ := I1.tuple hq
  have B := begins_tuple a its.toArray
  refine callType_new F.called_enumerate (by decide) (F.typeCall_enumerate_1 _) (F.newCall_enumerate_1 _) (fun ob => F.args_object_init_2 ob _) F.entry_enumerate_new (enum1_new B) ⟨tp, ?_⟩
  have z1 : (s1.heap.push { cls := .type "tuple_iterator", data := .fields #[.ref a, .int 0 0] }).objs.size = s1.heap.objs.size + 1 := Heap.size_push _ _
  obtain ⟨G, eG⟩ : ∃ G, G = (s1.heap.push { cls := .type "tuple_iterator", data := .fields #[.ref a, .int 0 0] }).push (enumOb s1.heap.objs.size) := ⟨_, rfl⟩
  have hE : IsEnum G (s1.heap.objs.size + 1) s1.heap.objs.size 0 .none := by
    have g := Heap.get?_push_size (s1.heap.push { cls := .type "tuple_iterator", data := .fields #[.ref a, .int 0 0] }) (o := enumOb s1.heap.objs.size) rfl
    rw [z1] at g
    rw [eG]; exact g
  have kp : ∀ b o, s1.heap.get? b = some o → G.get? b = some o := fun b o x => by rw [eG]; exact Heap.get?_push_of_some _ (Heap.get?_push_of_some _ x)
  have hI : G.IsTupleIter s1.heap.objs.size a 0 := ⟨_, by rw [eG]; exact Heap.get?_push_of_some _ (Heap.get?_push_size _ rfl), rfl, rfl⟩
  rw [z1]
  refine ⟨⟨_, by rw [← eG]; exact hE, rfl⟩, ?_⟩
  rw [← eG]
  refine wpAny_pyIter_enum hE ?_
  have I2 : Inv X pins σ H1 { s1 with heap := G } := I1.kept (t' := s1.toks) kp
  refine ⟨s1.heap.objs.size + 1, [s1.heap.objs.size + 1, s1.heap.objs.size], _, _, H1, rfl, I2, turn_enumT a (s1.heap.objs.size + 1) s1.heap.objs.size, ⟨⟨.none, hE⟩, hI, Nat.succ_ne_self _⟩, fun b hb => ?_, q⟩
  have le : s1.heap.objs.size ≤ b := by
    rcases List.mem_cons.mp hb with rfl | hb
    · exact Nat.le_succ _
    · rw [List.mem_singleton.mp hb]; exact Nat.le_refl _
  exact I1.fpOk le (I1.hok.fresh le)
theorem walk_enumT {K : W.Frag} {a : Addr} {xs : List V} : Walk (IteT K a) xs.length (fun H => SqT K H a xs) (YPair (fun i => some (.int (i : Nat))) (fun i => xs[i]?)) := by
  constructor
  · exact fun i _ hi q => ⟨xs, xs[i], q, List.getElem?_eq_getElem hi⟩
  · exact fun _ q => ⟨xs, q, rfl⟩
  · rintro i H v H' _ q ⟨T, x, g1, g2, g3, g4⟩
    exact ⟨T, .int (i : Nat), x, g1, g2, g3, rfl, g4 xs q⟩
end Cf
/-! Own layer: rows of a rule, their seconds in a kind of year. -/
namespace Cf
structure Row where
  yd : Yd
  sec : Int
  wall : Bool
  off : Int
deriving DecidableEq
def Row.Ok (r : Row) : Prop := r.yd.Ok ∧ (-86400 ≤ r.sec ∧ r.sec ≤ 172800) ∧ -86399 ≤ r.off ∧ r.off ≤ 86399
structure RulOk (rs : List Row) : Prop where
  two : 2 ≤ rs.length
  four : rs.length ≤ 4
  row : ∀ r ∈ rs, r.Ok
/-- the offset ahead of a row: the one of the row before it, of the last one ahead of the first -/
def prevOff (rs : List Row) (i : Nat) : Int := ((rs[if i = 0 then rs.length - 1 else i - 1]?).map Row.off).getD 0
def secAt (rs : List Row) (f : Int) (l : Bool) (i : Nat) (r : Row) : Int := 86400 * numIn r.yd f l + r.sec - (if r.wall = true then prevOff rs i else 0)
def secs (rs : List Row) (f : Int) (l : Bool) : List Int := rs.mapIdx fun i r => secAt rs f l i r
theorem secs_len (rs : List Row) (f : Int) (l : Bool) : (secs rs f l).length = rs.length := by simp [secs]
theorem secs_get {rs : List Row} {f : Int} {l : Bool} {i : Nat} {r : Row} (h : rs[i]? = some r) : (secs rs f l)[i]? = some (secAt rs f l i r) := by
  simp [secs, h]
/-- the first place where the numbers don't rise, from a number on and below another one -/
def mis : Int → Int → List Int → Nat → Option Nat
  | _, _, [], _ => none
  | b, e, x :: xs, i => if x ≤ b ∨ e ≤ x then some i else mis x e xs (i + 1)
theorem mis_shift (c e : Int) : ∀ (xs : List Int) (b : Int) (i : Nat), mis (b + c) (e + c) (xs.map (· + c)) i = mis b e xs i
  | [], _, _ => rfl
  | x :: xs, b, i => by
    rw [List.map_cons]
    unfold mis
    rw [mis_shift c e xs x (i + 1)]
    have h : (x + c ≤ b + c ∨ e + c ≤ x + c) ↔ (x ≤ b ∨ e ≤ x) := by omega
    simp only [h]
theorem mis_at {b e : Int} {xs : List Int} {i : Nat} {x : Int} (h : xs[i]? = some x) (j : Nat) : mis b e (xs.drop i) j = if x ≤ b ∨ e ≤ x then some j else mis x e (xs.drop (i + 1)) (j + 1) := by
  have hl : i < xs.length := (List.getElem?_eq_some_iff.mp h).1
  have hx : xs[i] = x := (List.getElem?_eq_some_iff.mp h).2
  rw [List.drop_eq_getElem_cons hl, hx]
  rfl
theorem mis_end {b e : Int} {xs : List Int} {i : Nat} (h : xs.length ≤ i) (j : Nat) : mis b e (xs.drop i) j = none := by
  rw [List.drop_of_length_le h]; rfl
theorem mis_lt {e : Int} : ∀ {xs : List Int} {b : Int} {i j : Nat}, mis b e xs i = some j → i ≤ j ∧ j < i + xs.length
  | [], _, _, _, h => by cases h
  | x :: xs, b, i, j, h => by
    unfold mis at h
    split at h
    · cases h; simp
    · have := mis_lt h
      simp
      omega
/-- the first row that is out of order in a kind of year -/
def misK (rs : List Row) (k : Int × Bool) : Option Nat := mis (-1) (86400 * mst 13 k.2) (secs rs k.1 k.2) 0
def wrongY (rs : List Row) (y : Int) : Option Nat := misK rs (k1 y, leapB y)
theorem all_kinds_28 : ∀ f : Fin 7, ∀ l : Bool, ∃ y : Fin 28, k1 (2000 + (y.val : Int)) = (f.val : Int) ∧ leapB (2000 + (y.val : Int)) = l := by decide +kernel
theorem kind_28 {k : Int × Bool} (h : k ∈ kinds) : ∃ y, 2000 ≤ y ∧ y < 2028 ∧ k1 y = k.1 ∧ leapB y = k.2 := by
  obtain ⟨f, l⟩ := k
  obtain ⟨h0, h7⟩ := kinds_mem h
  obtain ⟨y, e1, e2⟩ := all_kinds_28 ⟨f.toNat, by omega⟩ l
  refine ⟨2000 + y.val, by omega, by omega, ?_, e2⟩
  rw [e1]; simp; omega
/-- no row is out of order, in no year -/
theorem fine_all {rs : List Row} (h : ∀ k ∈ kinds, misK rs k = none) (y : Int) : wrongY rs y = none := h _ (mem_kinds _ (k1_bd y).1 (k1_bd y).2)
/-- the least year in which a row is out of order -/
structure Wrong (rs : List Row) (y : Int) (i : Nat) : Prop where
  lo : 2000 ≤ y
  hi : y < 2028
  at_ : wrongY rs y = some i
  least : ∀ x, 2000 ≤ x → x < y → wrongY rs x = none
/-- the law's instants of a year -/
def turnAt (rs : List Row) (y : Int) (i : Nat) (r : Row) : Int := dayIn r.yd y * 86400 + r.sec - (if r.wall = true then prevOff rs i else 0)
theorem turn_sec (rs : List Row) (y : Int) (i : Nat) (r : Row) : turnAt rs y i r = secAt rs (k1 y) (leapB y) i r + 86400 * ysOf y := by
  unfold turnAt secAt dayIn; omega
def turns (rs : List Row) (y : Int) : List Int := rs.mapIdx fun i r => turnAt rs y i r
theorem turns_secs (rs : List Row) (y : Int) : turns rs y = (secs rs (k1 y) (leapB y)).map (· + 86400 * ysOf y) := by
  apply List.ext_getElem?
  intro i
  simp only [turns, secs, List.getElem?_map, List.getElem?_mapIdx, Option.map_map]
  cases rs[i]? with
  | none => rfl
  | some r => exact congrArg some (turn_sec rs y i r)
theorem turns_get {rs : List Row} {y : Int} {i : Nat} {r : Row} (h : rs[i]? = some r) : (turns rs y)[i]? = some (turnAt rs y i r) := by
  simp [turns, h]
theorem wrong_turns (rs : List Row) (y : Int) : mis (ysOf y * 86400 - 1) (ysOf (y + 1) * 86400) (turns rs y) 0 = wrongY rs y := by
  have e1 : ysOf y * 86400 - 1 = -1 + 86400 * ysOf y := by omega
  have e2 : ysOf (y + 1) * 86400 = 86400 * mst 13 (leapB y) + 86400 * ysOf y := by
    have h := ys_succ y
    have h2 := mst_13 (leapB y)
    unfold leapI at h
    omega
  rw [e1, e2, turns_secs, mis_shift]
  rfl
end Cf
/-! Own layer: tuple(zip(list, list)). -/
namespace Cf
open PySem PySem.Spec PyProof.Rows L2
theorem zip_len : typeLookup (.type "zip") (Str.ofString "__len__") = pure none := by rw [typeLookup_type, builtinLookup_eq_fast]; kernel_rfl
theorem zip_hint : typeLookup (.type "zip") (Str.ofString "__length_hint__") = pure none := by rw [typeLookup_type, builtinLookup_eq_fast]; kernel_rfl
/-- a zip amid its walk, what it has made being kept -/
structure ZSt (h : Heap) (S z TI TO i1 i2 a b : Addr) (i : Nat) : Prop where
  ti : IsPair h TI (.ref i1) (.ref i2)
  h1 : h.IsListIter i1 a i
  h2 : h.IsListIter i2 b i
  zz : (IsZip h z TI TO .none ∧ ∃ u v, IsPair h TO u v) ∨ ∃ T f oT, IsZipHeld h z TI TO T f ∧ h.get? T = some oT ∧ T ≠ z ∧ T ≠ i1 ∧ T ≠ i2 ∧ T ≠ S
theorem ZSt.ty {s : Shared} {S z TI TO i1 i2 a b : Addr} {i : Nat} (h : ZSt s.heap S z TI TO i1 i2 a b i) : s.TypeIs (.ref z) "zip" := by
  rcases h.zz with ⟨g, _⟩ | ⟨_, _, _, g, _⟩
  · exact ⟨_, g, rfl⟩
  · exact ⟨_, g, rfl⟩
theorem ZSt.keep {h h' : Heap} {S z TI TO i1 i2 a b : Addr} {i : Nat} (st : ZSt h S z TI TO i1 i2 a b i) (ne : TI ≠ S ∧ i1 ≠ S ∧ i2 ≠ S ∧ z ≠ S ∧ TO ≠ S) (k : ∀ c o, c ≠ S → h.get? c = some o → h'.get? c = some o) : ZSt h' S z TI TO i1 i2 a b i := by
  obtain ⟨ti, h1, h2, zz⟩ := st
  obtain ⟨n1, n2, n3, n4, n5⟩ := ne
  refine ⟨k _ _ n1 ti, h1.at fun o q => k _ o n2 q, h2.at fun o q => k _ o n3 q, ?_⟩
  rcases zz with ⟨g, u, v, g2⟩ | ⟨T, f, oT, g, gT, r1, r2, r3, r4⟩
  · exact .inl ⟨k _ _ n4 g, u, v, k _ _ n5 g2⟩
  · exact .inr ⟨T, f, oT, k _ _ n4 g, k _ _ r4 gT, r1, r2, r3, r4⟩
abbrev LstAt (h : Heap) (S : Addr) (acc : Array Value) : Prop := ∃ c, h.get? S = some { cls := .type "list", dict := none, data := .seq acc c, slots := #[] }
section
variable {X : Cx} {pins : List (Addr × Obj)} {σ : L2.St}
set_option maxHeartbeats 1000000 in
theorem zip_loop {A : Around} (hh : A.handled = none) {H1 : Hp} {S z TI TO i1 i2 a b : Addr} (D : ZipApart z TI TO i1 i2 a b) (nS : TI ≠ S ∧ i1 ≠ S ∧ i2 ≠ S ∧ z ≠ S ∧ TO ≠ S) {xs ys : List V} (hl : xs.length = ys.length) (ha : SqL X.K H1 a xs) (hb : SqL X.K H1 b ys) (aS : a ≠ S) (bS : b ≠ S) (sz : xs.length ≤ 1000) {res : Value} {R : Result → Shared → Prop}
    (fin : ∀ (s' : Shared) (acc : Array Value) (ts : List Addr) (H' : Hp), Inv X pins σ H' s' → Same H1 H' → LstAt s'.heap S acc → acc.toList = ts.map Value.ref → Paired (fun t p => H' t = some (.tup [p.1, p.2])) ts (xs.zip ys) → R (.ok (.ret res)) s') :
    ∀ (k i : Nat) (s : Shared) (acc : Array Value) (ts : List Addr) (H' : Hp), xs.length - i = k → i ≤ xs.length → ZSt s.heap S z TI TO i1 i2 a b i → LstAt s.heap S acc → acc.toList = ts.map Value.ref → Inv X pins σ H' s → Same H1 H' → (∀ c ∈ [z, TI, TO, i1, i2, S], FpOk X pins H' c ∧ c < s.heap.objs.size) →
      Paired (fun t p => H' t = some (.tup [p.1, p.2])) ts ((xs.zip ys).take i) → codeAny (model X.prog X.w) A (.builtin "list.extend.loop" ⟨[.ref S, .ref z, res], []⟩) R s := by
  intro k
  induction k with
  | zero =>
    intro i s acc ts H' hk hi st hS ea I sm hfl pr
    have hf := fun c hc => (hfl c hc).1
    obtain rfl : i = xs.length := by omega
    obtain ⟨its, rv, p, _⟩ := I.list (sm.seq ha)
    obtain ⟨its2, rv2, p2, _⟩ := I.list (sm.seq hb)
    have e1 := rv.length
    have e2 := rv2.length
    have he : its.toArray[xs.length]? = none ∨ its2.toArray[xs.length]? = none := .inl (by simp; omega)
    obtain ⟨ti, g1, g2, zz⟩ := st
    have go : ∀ h', (∀ c o, c ≠ z → c ≠ TO → c ≠ i1 → c ≠ i2 → s.heap.get? c = some o → h'.get? c = some o) → R (.ok (.ret res)) { s with heap := h' } := fun h' hk => by
      obtain ⟨c, hc⟩ := hS
      have I1 := I.turnedL (t' := s.toks) (ch := [z, TI, TO, i1, i2, S]) (fun c o hb q => hk c o (fun q' => hb (by simp [q'])) (fun q' => hb (by simp [q'])) (fun q' => hb (by simp [q'])) (fun q' => hb (by simp [q'])) q) hf
      refine fin _ acc ts H' I1 sm ⟨c, hk _ _ (Ne.symm nS.2.2.2.1) (Ne.symm nS.2.2.2.2) (Ne.symm nS.2.1) (Ne.symm nS.2.2.1) hc⟩ ea ?_
      rw [List.take_of_length_le (by rw [List.length_zip, hl]; simp)] at pr
      exact pr
    apply codeAny_builtin F.entry_extend_loop
    rw [Around.under_plainId (F.plain_extend_loop) _]
    show wpAny _ A.in1 (pyNext (.ref z) >>= _) _ _ s
    refine wpAny_bind ?_
    rcases zz with ⟨hz, u, v, hTO⟩ | ⟨T, f, oT, hz, hT, r1, r2, r3, r4⟩
    · exact wpAny_pyNext_zip_end hh D hz ti hTO g1 g2 p.isList p2.isList he fun h' hk => wpAny_pure (go h' hk)
    · exact wpAny_pyNext_zip_end_held hh D hz hT ti g1 g2 p.isList p2.isList he fun h' hk => wpAny_pure (go h' fun c o n1 _ n3 n4 q => hk c o n1 n3 n4 q)
  | succ k ih =>
    intro i s acc ts H' hk hi st hS ea I sm hfl pr
    have hf := fun c hc => (hfl c hc).1
    have hlt : i < xs.length := by omega
    obtain ⟨its, rv, p, _⟩ := I.list (sm.seq ha)
    obtain ⟨its2, rv2, p2, _⟩ := I.list (sm.seq hb)
    obtain ⟨x, hx⟩ : ∃ x, xs[i]? = some x := ⟨_, List.getElem?_eq_getElem hlt⟩
    obtain ⟨y, hy⟩ : ∃ y, ys[i]? = some y := ⟨_, List.getElem?_eq_getElem (by omega)⟩
    obtain ⟨u, hu, ru⟩ := rv.get hx
    obtain ⟨u2, hu2, ru2⟩ := rv2.get hy
    obtain ⟨ti, g1, g2, zz⟩ := st
    obtain ⟨cS, hS⟩ := hS
    have lz : z < s.heap.objs.size := by
      rcases zz with ⟨g, _⟩ | ⟨_, _, _, g, _⟩ <;> exact Heap.lt_size g
    have lS : S < s.heap.objs.size := Heap.lt_size hS
    have l1 : i1 < s.heap.objs.size := let ⟨_, q, _⟩ := g1; Heap.lt_size q
    have l2 : i2 < s.heap.objs.size := let ⟨_, q, _⟩ := g2; Heap.lt_size q
    have lTI : TI < s.heap.objs.size := Heap.lt_size ti
    have lt : ts.length = i := by
      rw [pr.length, List.length_take, List.length_zip]; omega
    have la : acc.size = i := by rw [← Array.length_toList, ea, List.length_map, lt]
    have step : ∀ h' : Heap, IsPair h' s.heap.objs.size u u2 → h'.objs.size = s.heap.objs.size + 1 → (∀ c o, c ≠ z → c ≠ TO → c ≠ i1 → c ≠ i2 → s.heap.get? c = some o → h'.get? c = some o) → ZSt h' S z TI TO i1 i2 a b (i + 1) →
        wpAny (model X.prog X.w) A.in1 (Builtin.List.listUpdate (Value.ref S) (fun q => q.push (Value.ref s.heap.objs.size)) >>= fun _ => again (Code.builtin "list.extend.loop" { pos := [Value.ref S, Value.ref z, res] }))
          (fun fin s' => match fin with | Fin.done f => R (Except.ok f) s' | Fin.again c' => c'.quiet = true ∧ codeAny (model X.prog X.w) A c' R s') (fun e s' => R (Except.error e) s') { heap := h', gens := s.gens, drawn := s.drawn, toks := s.toks, os := s.os } := fun h' hp hz' hk st' => by
      have hS' := hk _ _ (Ne.symm nS.2.2.2.1) (Ne.symm nS.2.2.2.2) (Ne.symm nS.2.1) (Ne.symm nS.2.2.1) hS
      have new : ObjOk X.prog X.w (upd H' s.heap.objs.size (.tup [x, y])) h' s.heap.objs.size (.tup [x, y]) := ⟨by show 2 ≤ sizeLine; decide, [u, u2], .cons ru (.cons ru2 .nil), ⟨_, hp, rfl, _, rfl⟩⟩
      have I1 := I.turnedNew (t' := s.toks) (ch := [z, TI, TO, i1, i2, S]) (fun c o hb q => hk c o (fun q' => hb (by simp [q'])) (fun q' => hb (by simp [q'])) (fun q' => hb (by simp [q'])) (fun q' => hb (by simp [q'])) q) hf (Nat.le_refl _) new
      have nT : H' s.heap.objs.size = none := I.hok.fresh (Nat.le_refl _)
      have hf1 : ∀ c ∈ [z, TI, TO, i1, i2, S], c < s.heap.objs.size → FpOk X pins (upd H' s.heap.objs.size (.tup [x, y])) c := fun c hc lc => ⟨by rw [upd_ne (Nat.ne_of_lt lc)]; exact (hf c hc).1, (hf c hc).2⟩
      show wpAny _ A.in1 (updateSeq S (·.push (Value.ref s.heap.objs.size)) >>= _) _ _ _
      refine wpAny_bind ?_
      have f1 := hf1 S (by simp) lS
      obtain ⟨f0, fa, fb, fc, fd, fe⟩ := f1
      have I2 := I1.turned (t' := s.toks) (h' := h'.update S (Obj.mapSeq (·.push (Value.ref s.heap.objs.size)))) (it := S) (fun c o hc q => (Heap.get?_update_other h' _ (Ne.symm hc)).trans q) f0 fa fc fd fe
      have big : 2000 ≤ sizeLine := by rw [sizeLine_eq]; decide
      have usz : (h'.update S (Obj.mapSeq (·.push (Value.ref s.heap.objs.size)))).objs.size = s.heap.objs.size + 1 := by rw [Heap.size_update, hz']
      have oth : ∀ c o, c ≠ S → h'.get? c = some o → (h'.update S (Obj.mapSeq (·.push (Value.ref s.heap.objs.size)))).get? c = some o := fun c o hc q => (Heap.get?_update_other h' _ (Ne.symm hc)).trans q
      have rest := ih (i + 1) { heap := h'.update S (Obj.mapSeq (·.push (Value.ref s.heap.objs.size))), gens := s.gens, drawn := s.drawn, toks := s.toks, os := s.os } (acc.push (Value.ref s.heap.objs.size)) (ts ++ [s.heap.objs.size]) _ (by omega) hlt (st'.keep nS oth)
        ⟨_, Heap.get?_update_self _ hS' rfl⟩ (by rw [Array.toList_push, ea, List.map_append]; rfl) I2 (sm.step nT) (fun c hc => ⟨hf1 c hc (hfl c hc).2, by show c < (h'.update S _).objs.size; rw [usz]; exact Nat.lt_succ_of_lt (hfl c hc).2⟩) ?_
      · exact wpAny_updateSeq hS' rfl (wpAny_pure ⟨plainId_quiet F.plain_extend_loop _, rest⟩) (by rw [la]; omega) (by show (acc.push _).size ≤ sizeLine + 1; rw [Array.size_push, la]; omega)
      · have hzz : (xs.zip ys)[i]? = some (x, y) := by rw [List.getElem?_zip_eq_some]; exact ⟨hx, hy⟩
        rw [List.take_succ, hzz]
        exact Paired.snoc (Paired.mapP pr fun t q e => by rw [upd_ne (ne_of_none e nT)]; exact e) upd_same
    apply codeAny_builtin F.entry_extend_loop
    rw [Around.under_plainId (F.plain_extend_loop) _]
    show wpAny _ A.in1 (pyNext (.ref z) >>= _) _ _ s
    refine wpAny_bind ?_
    rcases zz with ⟨hz, v, v2, hTO⟩ | ⟨T, f, oT, hz, hT, r1, r2, r3, r4⟩
    · refine wpAny_pyNext_zip_item D hz ti hTO g1 g2 p.isList p2.isList (x := u) (y := u2) (by simpa using hu) (by simpa using hu2) fun h' a1 a2 a3 a4 a5 a6 hk => ?_
      exact step h' a5 a6 hk ⟨hk _ _ D.TIz D.TITO D.TIi1 D.TIi2 ti, a3, a4, .inr ⟨s.heap.objs.size, false, _, a1, a5, Nat.ne_of_gt lz, Nat.ne_of_gt l1, Nat.ne_of_gt l2, Nat.ne_of_gt lS⟩⟩
    · refine wpAny_pyNext_zip_item_held D hz hT ti g1 g2 p.isList p2.isList (x := u) (y := u2) (by simpa using hu) (by simpa using hu2) fun h' a1 a3 a4 a5 a6 hk => ?_
      exact step h' a5 a6 (fun c o n1 _ n3 n4 q => hk c o n1 n3 n4 q) ⟨hk _ _ D.TIz D.TIi1 D.TIi2 ti, a3, a4, .inr ⟨T, true, oT, a1, hk _ _ r1 r2 r3 hT, r1, r2, r3, r4⟩⟩
set_option maxHeartbeats 1000000 in
theorem zip_collect {A : Around} (hh : A.handled = none) {s : Shared} {H1 : Hp} {z TI TO i1 i2 a b : Addr} (D : ZipApart z TI TO i1 i2 a b) {xs ys : List V} (hl : xs.length = ys.length) (ha : SqL X.K H1 a xs) (hb : SqL X.K H1 b ys) (sz : xs.length ≤ 1000)
    (I : Inv X pins σ H1 s) (lt : ∀ c ∈ [z, TI, TO, i1, i2, a, b], c < s.heap.objs.size) (hf : ∀ c ∈ [z, TI, TO, i1, i2], FpOk X pins H1 c) (hz : IsZip s.heap z TI TO .none) (ti : IsPair s.heap TI (.ref i1) (.ref i2)) (to : ∃ u v, IsPair s.heap TO u v) (g1 : s.heap.IsListIter i1 a 0) (g2 : s.heap.IsListIter i2 b 0)
    {Q : List Value → Shared → Prop} {E : Value → Shared → Prop} (hQ : ∀ (s' : Shared) (acc : Array Value) (ts : List Addr) (H' : Hp), Inv X pins σ H' s' → Same H1 H' → acc.toList = ts.map Value.ref → Paired (fun t p => H' t = some (.tup [p.1, p.2])) ts (xs.zip ys) → Q acc.toList s') :
    wpAny (model X.prog X.w) A (collect (.ref z)) Q E s := by
  obtain ⟨N, eN⟩ : ∃ N, N = s.heap.objs.size := ⟨_, rfl⟩
  have ne : ∀ c ∈ [z, TI, TO, i1, i2, a, b], c ≠ N := fun c hc => by rw [eN]; exact Nat.ne_of_lt (lt c hc)
  have nS : TI ≠ N ∧ i1 ≠ N ∧ i2 ≠ N ∧ z ≠ N ∧ TO ≠ N := ⟨ne TI (by simp), ne i1 (by simp), ne i2 (by simp), ne z (by simp), ne TO (by simp)⟩
  obtain ⟨o0, eo⟩ : ∃ o0 : Obj, o0 = { cls := .type "list", data := .seq ([] : List Value).toArray } := ⟨_, rfl⟩
  have st0 : ZSt s.heap N z TI TO i1 i2 a b 0 := ⟨ti, g1, g2, .inl ⟨hz, to⟩⟩
  have gN : (s.heap.push o0).get? N = some o0 := by rw [eN, eo]; exact Heap.get?_push_size _ rfl
  have st1 : ZSt (s.heap.push o0) N z TI TO i1 i2 a b 0 := st0.keep nS fun c o _ q => Heap.get?_push_of_some _ q
  unfold collect
  refine wpAny_bind (wpAny_runValue (codeAny_builtin (F.entry_proto_collect) ?_))
  rw [Around.under_plainId (F.plain_proto_collect) _]
  show wpAny _ A.in1 (newList [] >>= fun q => again (.builtin "list.__iadd__" ⟨[q, .ref z], []⟩)) _ _ s
  refine wpAny_bind (wpAny_newObj_type ?_)
  rw [← eo, ← eN]
  refine wpAny_pure ⟨plainId_quiet (F.plain_list_iadd) _, codeAny_builtin (F.entry_list_iadd) ?_⟩
  rw [Around.under_plainId (F.plain_list_iadd) _]
  show wpAny _ A.in1 (Builtin.List.listExtendWith (.ref N) (.ref z) (.ref N)) _ _ _
  unfold Builtin.List.listExtendWith
  have ty1 := ZSt.ty (s := { s with heap := s.heap.push o0 }) st1
  refine wpAny_bind (wpAny_typeOf ty1 ?_)
  have q1 : Builtin.List.listSameRef (.ref N) (.ref z) = false := by simp [Builtin.List.listSameRef, Ne.symm nS.2.2.2.1]
  have q2 : (Value.type "zip" == Value.type "list") = false := by decide
  have q3 : (Value.type "zip" == Value.type "tuple") = false := by decide
  simp only [q1, q2, q3, Bool.or_false, Bool.false_eq_true, if_false]
  refine wpAny_bind (wpAny_pyIter_zip (s := { s with heap := s.heap.push o0 }) (Heap.get?_push_of_some _ hz) ?_)
  refine wpAny_bind (wpAny_holding ?_)
  unfold Builtin.List.listLengthHint
  refine wpAny_bind (wpAny_specialOf ty1 zip_len ?_)
  show wpAny _ A.in1 (specialOf (Value.ref z) (Str.ofString "__length_hint__") >>= _) _ _ _
  refine wpAny_bind (wpAny_specialOf ty1 zip_hint (wpAny_pure ?_))
  show wpAny _ A.in1 (rule "list.extend.makes-room" >>= fun _ => Builtin.List.listTouch (.ref N) >>= fun _ => again (.builtin "list.extend.loop" ⟨[.ref N, .ref z, .ref N], []⟩)) _ _ _
  refine wpAny_bind (wpAny_rule (wpAny_bind ?_))
  show wpAny _ A.in1 (updateSeq N (·.push .none) >>= fun _ => updateSeq N (·.pop)) _ _ _
  rw [eo] at gN ⊢
  refine wpAny_bind (wpAny_updateSeq gN rfl ?_)
  have gN2 := Heap.get?_update_self (Obj.mapSeq (·.push Value.none)) gN rfl
  refine wpAny_updateSeq gN2 rfl ?_
  have gN3 := Heap.get?_update_self (Obj.mapSeq (·.pop)) gN2 rfl
  rw [← eo] at gN gN2 gN3 ⊢
  have oth : ∀ c o, c ≠ N → s.heap.get? c = some o → (((s.heap.push o0).update N (Obj.mapSeq (·.push Value.none))).update N (Obj.mapSeq (·.pop))).get? c = some o := fun c o hc q =>
    (Heap.get?_update_other _ _ (Ne.symm hc)).trans ((Heap.get?_update_other _ _ (Ne.symm hc)).trans (Heap.get?_push_of_some _ q))
  have kp : ∀ c o, s.heap.get? c = some o → (((s.heap.push o0).update N (Obj.mapSeq (·.push Value.none))).update N (Obj.mapSeq (·.pop))).get? c = some o := fun c o q => oth c o (by rw [eN]; exact Nat.ne_of_lt (Heap.lt_size q)) q
  have I2 := I.kept (t' := s.toks) kp
  have fN : FpOk X pins H1 N := I.fpOk (by rw [eN]; exact Nat.le_refl _) (I.hok.fresh (by rw [eN]; exact Nat.le_refl _))
  have uz : (((s.heap.push o0).update N (Obj.mapSeq (·.push Value.none))).update N (Obj.mapSeq (·.pop))).objs.size = N + 1 := by rw [Heap.size_update, Heap.size_update, Heap.size_push, eN]
  refine wpAny_pure ⟨plainId_quiet (F.plain_extend_loop) _, zip_loop (X := X) (pins := pins) (σ := σ) (H1 := H1) hh D nS hl ha hb (ne a (by simp)) (ne b (by simp)) sz (fun s' acc ts H' I' sm hS ea pr => ?_) xs.length 0 _ #[] [] H1 (by omega) (Nat.zero_le _) (st0.keep nS oth) ⟨_, gN3.trans (by rw [eo]; rfl)⟩ rfl I2 (Same.refl _) (fun c hc => ?_) .nil⟩
  · obtain ⟨cc, hS⟩ := hS
    show wpAny _ A (load N >>= _) _ _ s'
    refine wpAny_bind (wpAny_load hS ?_)
    exact wpAny_pure (hQ s' acc ts H' I' sm ea pr)
  · refine ⟨?_, ?_⟩
    · by_cases e : c = N
      · rw [e]; exact fN
      · refine hf c ?_
        simp only [List.mem_cons, List.not_mem_nil, or_false] at hc ⊢
        rcases hc with h | h | h | h | h | h <;> first | (exact absurd h e) | simp [h]
    · show c < (((s.heap.push o0).update N (Obj.mapSeq (·.push Value.none))).update N (Obj.mapSeq (·.pop))).objs.size
      rw [uz]
      by_cases e : c = N
      · rw [e]; exact Nat.lt_succ_self _
      · rw [eN]
        refine Nat.lt_succ_of_lt (lt c ?_)
        simp only [List.mem_cons, List.not_mem_nil, or_false] at hc ⊢
        rcases hc with h | h | h | h | h | h <;> first | (exact absurd h e) | simp [h]
/-- tuple(z), z a zip that has not begun -/
theorem zip_tuple {A : Around} (hh : A.handled = none) {s : Shared} {H1 : Hp} {z TI TO i1 i2 a b : Addr} (D : ZipApart z TI TO i1 i2 a b) {xs ys : List V} (hl : xs.length = ys.length) (ha : SqL X.K H1 a xs) (hb : SqL X.K H1 b ys) (sz : xs.length ≤ 1000)
    (I : Inv X pins σ H1 s) (lt : ∀ c ∈ [z, TI, TO, i1, i2, a, b], c < s.heap.objs.size) (hf : ∀ c ∈ [z, TI, TO, i1, i2], FpOk X pins H1 c) (hz : IsZip s.heap z TI TO .none) (ti : IsPair s.heap TI (.ref i1) (.ref i2)) (to : ∃ u v, IsPair s.heap TO u v) (g1 : s.heap.IsListIter i1 a 0) (g2 : s.heap.IsListIter i2 b 0)
    {Q : Value → Shared → Prop} {E : Value → Shared → Prop} (hQ : ∀ (s' : Shared) (T : Addr) (ts : List Addr) (H' : Hp), Inv X pins σ (upd H' T (.tup (ts.map V.ref))) s' → H' T = none → Same H1 H' → Paired (fun t p => H' t = some (.tup [p.1, p.2])) ts (xs.zip ys) → Q (.ref T) s') :
    wpAny (model X.prog X.w) A (call (.type "tuple") [.ref z]) Q E s := by
  have hh2 : A.in1.in1.handled = none := hh
  have ty0 : s.TypeIs (.ref z) "zip" := ⟨_, hz, rfl⟩
  refine callType_codes (Q₁ := fun ob s1 => s1.TypeIs ob "tuple" ∧ Q ob s1) (F.called_tuple) (F.typeCall_tuple_1 _) (F.entry_object_init) ?_ fun ob s1 g => ⟨g.1, F.args_object_init_2 ob _, object_init_meets (F.called_tuple).init.lookup (F.called_tuple).made (by decide) X.prog X.w A.in1 _ s1 ⟨g.1, rfl, g.2⟩⟩
  refine codeAny_of_tree ?_
  show wpAny _ A.in1.in1 (do checkBuiltinCall "tuple.__new__" ⟨[.type "tuple", .ref z], []⟩; again (.builtin "tuple.__new__" ⟨[.type "tuple", .ref z], []⟩)) _ _ s
  refine wpAny_bind (wpAny_of_eq (F.newCall_tuple_1 _) (wpAny_pure ⟨plainId_quiet (F.plain_tuple_new) _, codeAny_builtin (F.entry_tuple_new) ?_⟩))
  rw [Around.under_plainId (F.plain_tuple_new) _]
  have hs1 := sub_tuple_self
  have hs2 := init_tuple_lookup
  have hs3 := madeHere_tuple
  wp_walk using wpAny_typeOf ty0, zip_collect (X := X) (pins := pins) (σ := σ) (H1 := H1) hh2 D hl ha hb sz I lt hf hz ti to g1 g2
  intro s' acc ts H' I' sm ea pr
  show wpAny _ _ (Builtin.Tuple.tupleExact acc.toList.toArray >>= fun v => ret v) _ _ _
  unfold Builtin.Tuple.tupleExact
  have big : 2000 ≤ sizeLine := by rw [sizeLine_eq]; decide
  have lts : ts.length = xs.length := by rw [pr.length, List.length_zip]; omega
  have las : acc.toList.toArray.size = ts.length := by simp only [List.size_toArray, ea, List.length_map]
  refine wpAny_bind (wpAny_newObj_type ?_ (by show acc.toList.toArray.size ≤ sizeLine; rw [las, lts]; omega))
  refine wpAny_pure ?_
  have nT : H' s'.heap.objs.size = none := I'.hok.fresh (Nat.le_refl _)
  have vals : Vals (ts.map V.ref) acc.toList := by
    rw [ea]
    clear pr lts las ea
    induction ts with
    | nil => exact .nil
    | cons t ts ih => exact .cons rfl ih
  have new : ObjOk X.prog X.w (upd H' s'.heap.objs.size (.tup (ts.map V.ref))) (s'.heap.push { cls := .type "tuple", data := .seq acc.toList.toArray }) s'.heap.objs.size (.tup (ts.map V.ref)) :=
    ⟨by rw [List.length_map, lts]; omega, acc.toList, vals, IsTup.new _ _⟩
  exact ⟨⟨_, Heap.get?_push_size _ rfl, rfl⟩, hQ _ _ ts H' (I'.laid (t' := s'.toks) (fun c o q => Heap.get?_push_of_some _ q) (Nat.le_refl _) new) nT sm pr⟩
end
def tTupZip (K : W.Frag) (ta : TA) : TE := fun σ H Q => ta σ H fun vs H1 => ∃ a b xs ys, vs = [.ref a, .ref b] ∧ SqL K H1 a xs ∧ SqL K H1 b ys ∧ xs.length = ys.length ∧ xs.length ≤ 1000 ∧
  ∀ (T : Addr) (ts : List Addr) (H' : Hp), H' T = none → Same H1 H' → Paired (fun t p => H' t = some (.tup [p.1, p.2])) ts (xs.zip ys) → Q (.ref T) (upd H' T (.tup (ts.map V.ref)))
theorem pe_tupZip {X : Cx} {e e2 : Expr} {ta : TA} {p p2 pos pos2 : Pos} (hc : X.calm = true) (hg : Gl X "tuple") (hm : X.mg "tuple" = none) (hgz : Gl X "zip") (hmz : X.mg "zip" = none) (ha : PA X [e, e2] ta)
    (hs : starEach [e, e2] X.env = (false, eval e X.env) :: starEach [e2] X.env := by rfl) (hpl : (backTo pos2 (starEach [e2] X.env)).any (·.1) = false := by rfl)
    (na : starEach [Expr.Call (.Name "zip" p2) [e, e2] [] pos2] X.env = (false, eval (.Call (.Name "zip" p2) [e, e2] [] pos2) X.env) :: starEach [] X.env := by rfl) :
    PE X (.Call (.Name "tuple" p) [.Call (.Name "zip" p2) [e, e2] [] pos2] [] pos) (tTupZip X.K ta) := by
  constructor
  intro pins s σ H Q I h
  have zrun : wpAny (model X.prog X.w) X.A (eval (.Call (.Name "zip" p2) [e, e2] [] pos2) X.env) (fun v s2 => ∃ (N a b : Addr) (xs ys : List V) (H1 : Hp), v = .ref (N + 4) ∧ Inv X pins σ H1 s2 ∧ a < N ∧ b < N ∧ s2.heap.objs.size = N + 5 ∧ SqL X.K H1 a xs ∧ SqL X.K H1 b ys ∧ xs.length = ys.length ∧ xs.length ≤ 1000 ∧
      (∀ c, N ≤ c → FpOk X pins H1 c) ∧ IsZip s2.heap (N + 4) (N + 2) (N + 3) .none ∧ IsPair s2.heap (N + 2) (.ref N) (.ref (N + 1)) ∧ (∃ u v, IsPair s2.heap (N + 3) u v) ∧ s2.heap.IsListIter N a 0 ∧ s2.heap.IsListIter (N + 1) b 0 ∧
      ∀ (T : Addr) (ts : List Addr) (H' : Hp), H' T = none → Same H1 H' → Paired (fun t p => H' t = some (.tup [p.1, p.2])) ts (xs.zip ys) → Q (.ref T) (upd H' T (.tup (ts.map V.ref)))) X.xe s := by
    refine Call_ (ld_blt I hgz hmz PyProof.Rows.boot_zip (PyProof.Rows.callWith_type1 (thn (ha.run pos2 pins s σ H _ I h) fun us s1 ⟨vs, H1, I1, r1, q1⟩ => ?_) hs hpl))
    obtain ⟨a, b, xs, ys, rfl, hqx, hqy, el, sz, q⟩ := q1
    obtain ⟨u, u', rfl, z1, z2⟩ := Vals.two r1
    cases (show u = Value.ref a from z1)
    cases (show u' = Value.ref b from z2)
    obtain ⟨its, rv, g1, _⟩ := I1.list hqx
    obtain ⟨its2, rv2, g2, _⟩ := I1.list hqy
    refine call_zip_2 g1.isList g2.isList fun h' hz hTI hTO k1 k2 hsz hk => ?_
    have I2 : Inv X pins σ H1 { s1 with heap := h' } := I1.kept (t' := s1.toks) hk
    exact ⟨s1.heap.objs.size, a, b, xs, ys, H1, rfl, I2, g1.lt, g2.lt, hsz, hqx, hqy, el, sz, fun c hcl => I1.fpOk hcl (I1.hok.fresh hcl), hz, hTI, ⟨_, _, hTO⟩, k1, k2, q⟩
  refine Call_ (ld_blt I hg hm boot_tuple (PyProof.Rows.callWith_type1 (args_cons (thn zrun fun v s2 g => args_nil ?_) na) na))
  obtain ⟨N, a, b, xs, ys, H1, rfl, I2, la, lb, hsz, hqx, hqy, el, sz, fp, hz, hTI, hTO, k1, k2, q⟩ := g
  refine zip_tuple (X := X) (pins := pins) (σ := σ) (I2.ok.hd hc) (PySem.W.ktu_apart N a b la lb) el hqx hqy sz I2 (fun c hcm => ?_) (fun c hcm => ?_) hz hTI hTO k1 k2 fun s' T ts H' I' nT sm pr => ⟨.ref T, _, I', rfl, q T ts H' nT sm pr⟩
  · simp only [List.mem_cons, List.not_mem_nil, or_false] at hcm
    rw [hsz]
    rcases hcm with h | h | h | h | h | h | h <;> rw [h] <;> first | exact Nat.lt_of_lt_of_le la (Nat.le_add_right _ _) | exact Nat.lt_of_lt_of_le lb (Nat.le_add_right _ _) | exact Nat.add_lt_add_left (by decide) N | exact Nat.lt_add_of_pos_right (by decide)
  · simp only [List.mem_cons, List.not_mem_nil, or_false] at hcm
    refine fp c ?_
    rcases hcm with h | h | h | h | h <;> rw [h] <;> first | exact Nat.le_add_right _ _ | exact Nat.le_refl _
end Cf
/-! Own errors as values: made (also by names), asked by isinstance, their fields read. -/
namespace Cf
section
open PySem PySem.W PySem.Calls PyProof.Rows PySem.HandSPX
section
variable {M : Model} {A : Around} {E : Value → Shared → Prop} {R : Result → Shared → Prop} {prog : Program} {w : World} {g : Array GenState} {d : Drawn} {t : Nat} {os : OsState} {h : Heap}
variable {bs bm bmB : List Value} {nm q : Str} {hdct ab : Bool} {C N : Addr} {sn : List Str} {sub : List Value} {col : Option Bool} {dd : Option Addr} {B newId initId : String} {k0 k1 k2 k3 k5 : Option Value} {rest : List Value} {kw : List (Str × Value)}
theorem ex_check (B0 : ExcBaseFacts B newId initId bmB) (alike : ∀ T : String, bm.contains (.type T) = bmB.contains (.type T)) {Q : Unit → Shared → Prop} (cls : h.get? C = some (excClassObj nm q C N bs bm hdct sn sub ab col dd k0 k1 k2 k3 k5 newId)) (go : Q () ⟨h, g, d, t, os⟩) :
    wpAny M A (checkBuiltinCall newId ⟨.ref C :: rest, kw⟩) Q E ⟨h, g, d, t, os⟩ := by
  have z1 : (Value.ref C :: bm).contains (.type B) = true := by rw [List.contains_cons, alike, B0.hasB, Bool.or_true]
  have z2 := B0.noStar
  simp only [checkBuiltinCall, B0.newKind, B0.newSplit, B0.newRow]
  repeat (first | refine wpAny_loadPart_at cls ?_ | (refine wpAny_isSubtype_exc cls ?_; rw [z1]) | refine wpAny_staticBase_exc cls ?_ | refine wpAny_madeBy_exc cls ?_ | simp only [bne_self_eq_false, Bool.false_eq_true, if_false] | wp_step)
  exact go
theorem ex_new (B0 : ExcBaseFacts B newId initId bmB) (alike : ∀ T : String, bm.contains (.type T) = bmB.contains (.type T)) (cls : h.get? C = some (excClassObj nm q C N bs bm hdct sn sub ab col dd k0 k1 k2 k3 k5 newId))
    (go : R (.ok (.ret (.ref (h.objs.size + 1)))) ⟨(h.push (kdv_tup rest)).push (excO C h.objs.size), g, d, t, os⟩) (few : rest.length ≤ sizeLine) : codeAny (model prog w) A (.builtin newId ⟨.ref C :: rest, kw⟩) R ⟨h, g, d, t, os⟩ := by
  have z0 := B0.ends
  have z1 : (Value.ref C :: bm).contains (.type B) = true := by rw [List.contains_cons, alike, B0.hasB, Bool.or_true]
  have z2 : (Value.ref C :: bm).contains (.type "AttributeError") = false := by rw [List.contains_cons, alike, B0.noAttr]; rfl
  have z3 : (Value.ref C :: bm).contains (.type "NameError") = false := by rw [List.contains_cons, alike, B0.noName]; rfl
  refine codeAny_builtinAt B0.entry (by
    unfold Builtin.«BaseException.__new__»; refine PySem.wpAt_bind ?_
    show PySem.wpAt _ _ _ (stack >>= _) _ _ _; refine PySem.wpAt_bind (PySem.wpAt_stack fun p below => PySem.wpAt_of_wpAny ?_)
    wp_walk
    refine PySem.wpAt_of_wpAny ?_; rw [B0.owner]
    repeat (first | with_reducible refine wpAny_madeHere_exc B0.canon cls ?_ | with_reducible refine wpAny_loadPart_at cls ?_ | (with_reducible refine wpAny_isSubtype_exc cls ?_; first | rw [z1] | rw [z2] | rw [z3]) | wp_step)
    show R _ _; rw [Heap.size_push]
    exact go)
theorem ex_type (B0 : ExcBaseFacts B newId initId bmB) (alike : ∀ T : String, bm.contains (.type T) = bmB.contains (.type T)) {fI : Addr} {Q : Fin → Shared → Prop} (cls : h.get? C = some (excClassObj nm q C N bs bm hdct sn sub ab col dd k0 k1 k2 k3 k5 newId))
    (ini : W.Looks (model prog w) h (typeLookup (.ref C) "__init__") (some (.ref fI))) (bnd : ∀ self, W.Looks (model prog w) h (bindSpecial (.ref fI) self) (.ref fI, [self])) (few : rest.length ≤ sizeLine)
    (go : codeAny (model prog w) A (.call (.ref fI) ⟨.ref (h.objs.size + 1) :: rest, kw⟩) (fun r s' => match r with | .ok (.ret v) => v = .none ∧ Q (.done (.ret (.ref (h.objs.size + 1)))) s' | .ok _ => False | .error e => E e s')
      ⟨(h.push (kdv_tup rest)).push (excO C h.objs.size), g, d, t, os⟩) : wpAny (model prog w) A (Builtin.«type.__call__» ⟨.ref C :: rest, kw⟩) Q E ⟨h, g, d, t, os⟩ := by
  repeat (first | with_reducible refine wpAny_loadPart_at cls ?_ | with_reducible refine wpAny_madeBy_exc cls ?_ | wp_step)
  refine codeAny_call_builtin_code (Code.quiet_builtin _ B0.quiet) (ex_check B0 alike cls (ex_new B0 alike cls ?_ few))
  show wpAny _ _ _ _ _ _
  have old : ∀ b o, h.get? b = some o → ((h.push (kdv_tup rest)).push (excO C h.objs.size)).get? b = some o := fun _ _ e => Heap.get?_push_of_some _ (Heap.get?_push_of_some _ e)
  have cls' := old _ _ cls
  have mine : ((h.push (kdv_tup rest)).push (excO C h.objs.size)).get? (h.objs.size + 1) = some (excO C h.objs.size) := by heap_get
  have z4 : (Value.ref C :: bm).contains (.ref C) = true := by simp
  have ini' := ini.keeps old
  have bnd' := (bnd (.ref (h.objs.size + 1))).keeps old
  unfold isInstance
  repeat (first | with_reducible refine wpAny_loadPart_at mine ?_ | (with_reducible refine wpAny_isSubtype_exc cls' ?_; rw [z4]) | wp_step)
  show wpAny _ _ (typeLookup (.ref C) _) _ _ _
  refine ini'.at (wpAny_holding (wpAny_bind (bnd'.at (wpAny_bind (wpAny_call (codeAny_mono go fun r s' z => ?_))))))
  rcases r with e | (v | _ | _ | _) <;> first | exact z | exact z.elim | skip
  obtain ⟨rfl, z⟩ := z
  first | exact wpAny_pure (wpAny_pure z) | (wp_walk; exact z)
theorem ex_checkT {Q : Unit → Shared → Prop} (cls : h.get? C = some (excClassObj nm q C N bs bm hdct sn sub ab col dd k0 k1 k2 k3 k5 newId)) (go : Q () ⟨h, g, d, t, os⟩) : wpAny M A (checkBuiltinCall "type.__call__" ⟨.ref C :: rest, kw⟩) Q E ⟨h, g, d, t, os⟩ := by
  have y3 := tc_sub
  have y4 : (⟨h, g, d, t, os⟩ : Shared).TypeIs (.ref C) "type" := ⟨_, cls, rfl⟩
  simp only [checkBuiltinCall, tc_kind, tc_split]; repeat (any_goals (first | assumption | with_reducible refine wpAny_loadPart_at cls ?_ | with_reducible refine wpAny_onRaise ?_ | with_reducible refine wpAny_map ?_ | wp_step))
theorem ex_call (B0 : ExcBaseFacts B newId initId bmB) (alike : ∀ T : String, bm.contains (.type T) = bmB.contains (.type T)) {fI : Addr} (cls : h.get? C = some (excClassObj nm q C N bs bm hdct sn sub ab col dd k0 k1 k2 k3 k5 newId))
    (ini : W.Looks (model prog w) h (typeLookup (.ref C) "__init__") (some (.ref fI))) (bnd : ∀ self, W.Looks (model prog w) h (bindSpecial (.ref fI) self) (.ref fI, [self])) (few : rest.length ≤ sizeLine)
    (go : codeAny (model prog w) (A.under (.builtin "type.__call__" ⟨.ref C :: rest, kw⟩)) (.call (.ref fI) ⟨.ref (h.objs.size + 1) :: rest, kw⟩) (W.InitBack (h.objs.size + 1) R) ⟨(h.push (kdv_tup rest)).push (excO C h.objs.size), g, d, t, os⟩) :
    codeAny (model prog w) A (.call (.ref C) ⟨rest, kw⟩) R ⟨h, g, d, t, os⟩ := by
  have y1 := tc_lookup
  have y2 := tc_bind (.ref C)
  have y4 : (⟨h, g, d, t, os⟩ : Shared).TypeIs (.ref C) "type" := ⟨_, cls, rfl⟩
  refine codeAny_of_tree ?_
  show wpAny _ _ (callAny (.ref C) _) _ _ _
  repeat (any_goals (first | assumption | with_reducible refine wpAny_loadPart_at cls ?_ | wp_step))
  refine ⟨rfl, codeAny_call_builtin_at (Code.quiet_builtin _ (by decide +kernel)) entry_typeCall (ex_checkT cls (ex_type B0 alike cls ini bnd few (codeAny_mono go fun r s' z => ?_)))⟩
  rcases r with e | (v | _ | _ | _) <;> exact z
end
end
section
open PySem PySem.Spec PyProof.Rows L2
/-- an error of the class at C stands at a, its fields fl -/
def ExAt (H : Hp) (a C : Addr) (fl : List (Str × V)) : Prop := ∃ dx, H a = some (exo a C (some dx)) ∧ H dx = some (exd dx fl)
theorem ExAt.same {H H' : Hp} {a C : Addr} {fl : List (Str × V)} (e : ExAt H a C fl) (s : Same H H') : ExAt H' a C fl := by
  obtain ⟨dx, h1, h2⟩ := e
  exact ⟨dx, s _ _ h1, s _ _ h2⟩
/-- what a class's __init__ promises: mk tells the fields of the values -/
def spE (C : Addr) (n : Nat) (mk : List V → List (Str × V)) : Sp := fun vs H Q _ => ∃ (a : Addr) (us : List V), vs = .ref a :: us ∧ us.length = n ∧ H a = some (exo a C none) ∧
  ∀ H' : Hp, (∀ b o, H b = some o → b ≠ a → H' b = some o) → ExAt H' a C (mk us) → Q .non H'
/-- an own error class, as its callers see it -/
structure Ec (P : Program) (w : World) (K : PySem.W.Frag) (mg : Str → Option Value) (base : Heap) (x : Str) (C : Addr) (n : Nat) (ks : List Str) (pick : List V → List V) (mk : List V → List (Str × V)) : Prop where
  ox : OexC K C
  m : mg x = some (.ref C)
  ex : ∃ (fI : Addr) (fd : FuncData) (ps : List Str) (pk : List Value → List Value), PySem.W.findIn K (.ref C) "__init__" = some (some (.ref fI)) ∧ PySem.W.typeIn K (.ref fI) = some (.type "function") ∧ FnOk P w K mg base CX0 1 fI fd ps (spE C n mk) ∧ Binds K fd ps [] ∧
    (∀ {vs : List V} {us : List Value}, Vals vs us → Vals (pick vs) (pk us)) ∧ (∀ vs : List V, vs.length = ks.length → (pick vs).length = n) ∧
    ∀ (s : Shared) (self : Value) (ws : List Value), K.In s.heap → ws.length = ks.length → BindsTo s fd ⟨[self], ks.zip ws⟩ (ps.zip (self :: pk ws))
/-- the reading of a making -/
def tEc (C : Addr) (n : Nat) (pick : List V → List V) (mk : List V → List (Str × V)) (ta : TA) : TE := fun σ H Q => ta σ H fun vs H1 => (pick vs).length = n ∧ vs.length ≤ 1000 ∧ ∀ (a : Addr) (H2 : Hp), H1 a = none → Same H1 H2 → ExAt H2 a C (mk (pick vs)) → Q (.ref a) H2
section
variable {X : Cx} {x : Str} {C : Addr} {n : Nat} {ks : List Str} {pick : List V → List V} {mk : List V → List (Str × V)} {p pos : Pos} {e : Expr} {es : List Expr} {kws : List Keyword} {ta : TA}
theorem ec_run {pins : List (Addr × Obj)} {σ : L2.St} {H1 : Hp} {s1 : Shared} {Q : VK} {us : List Value} {vs' : List V} {kw : List (Str × Value)} {fI : Addr} {fd : FuncData} {ps : List Str} (D : OexC X.K C)
    (ini : PySem.W.findIn X.K (.ref C) "__init__" = some (some (.ref fI))) (tfn : PySem.W.typeIn X.K (.ref fI) = some (.type "function")) (F : FnOk X.prog X.w X.K X.mg X.base CX0 1 fI fd ps (spE C n mk)) (room : Room 2 X.A)
    (I1 : Inv X pins σ H1 s1) (few : us.length ≤ sizeLine) (us' : List Value) (rel : Vals vs' us') (ln : vs'.length = n) (bind : ∀ (s : Shared) (self : Value), X.K.In s.heap → BindsTo s fd ⟨self :: us, kw⟩ (ps.zip (self :: us')))
    (go : ∀ (a : Addr) (H2 : Hp), H1 a = none → Same H1 H2 → ExAt H2 a C (mk vs') → Q (.ref a) H2) : wpAny (model X.prog X.w) X.A (call (.ref C) us kw) (EP X pins σ Q) X.xe s1 := by
  obtain ⟨nm, q, N, bs, bm, sn, sub, ab, col, dd, k0, k1, k2, k3, k5, hC, hbm⟩ := D.cls
  obtain ⟨hp, g, dr, tk, os⟩ := s1
  have fresh : H1 (hp.objs.size + 1) = none := I1.hok.fresh (Nat.le_succ _)
  have mine : ((hp.push (PySem.W.kdv_tup us)).push (PySem.HandSPX.excO C hp.objs.size)).get? (hp.objs.size + 1) = some (PySem.HandSPX.excO C hp.objs.size) := by heap_get
  have I2 : Inv X pins σ (upd H1 (hp.objs.size + 1) (exo (hp.objs.size + 1) C none)) ⟨(hp.push (PySem.W.kdv_tup us)).push (PySem.HandSPX.excO C hp.objs.size), g, dr, tk, os⟩ :=
    I1.laid (t' := tk) (fun _ _ e => Heap.get?_push_of_some _ (Heap.get?_push_of_some _ e)) (Nat.le_succ _) (exo_ok mine)
  have asked : spE C n mk (.ref (hp.objs.size + 1) :: vs') (upd H1 (hp.objs.size + 1) (exo (hp.objs.size + 1) C none)) (fun v H2 => v = .non ∧ Q (.ref (hp.objs.size + 1)) H2) E0 :=
    ⟨_, vs', rfl, ln, upd_same, fun H2 keep at_ => ⟨rfl, go _ H2 fresh (fun b o eb => keep b o (by rw [upd_ne (ne_of_none eb fresh)]; exact eb) (ne_of_none eb fresh)) at_⟩⟩
  refine wpAny_call (ex_call PySem.F.excBase_ValueError (fun Y => PySem.HandSPX.refsVE_contains Y bm hbm) (I1.kIn _ _ hC) (PySem.W.looks_findIn I1.kIn ini) (fun self => PySem.W.bind_fn I1.kIn self tfn) few
    (codeAny_mono (F.run _ X.stack _ _ ⟨_, kw⟩ (Value.ref (hp.objs.size + 1) :: us') _ _ E0 (room.make C us kw) (I2.env0.make C us kw) (bind _ _ I2.kIn) (show Vals (V.ref (hp.objs.size + 1) :: vs') (Value.ref (hp.objs.size + 1) :: us') from .cons rfl rel) asked) fun r s' got => ?_))
  match r, got with
  | .error er, got => exact (got : False).elim
  | .ok .next, got => exact got.elim
  | .ok .brk, got => exact got.elim
  | .ok .cont, got => exact got.elim
  | .ok (.ret u), got =>
    obtain ⟨v, H', I3, rv, ev, q3⟩ := I2.after got
    subst ev
    exact ⟨rv, ⟨V.ref (hp.objs.size + 1), H', I3, rfl, q3⟩⟩
/-- C(e, ..) -/
theorem pe_ec (D : Ec X.prog X.w X.K X.mg X.base x C n ks pick mk) (room : Room 2 X.A) (args : PA X (e :: es) ta) (hg : Gl X x := by rfl) (hdb : (x == ("__debug__" : Str)) = false := by decide)
    (he : starEach (e :: es) X.env = (false, eval e X.env) :: starEach es X.env := by rfl) (hpl : (backTo pos (starEach es X.env)).any (·.1) = false := by rfl) :
    PE X (.Call (.Name x p) (e :: es) [] pos) (tEc C n id mk ta) := by
  obtain ⟨fI, fd, ps, pk, h1, h2, F, b, _, _, _⟩ := D.ex
  constructor
  intro pins s σ H Q I h
  apply wpAny_Call_Name_kw (ld_glob I hg D.m ?_ hdb)
  apply PySem.W.callWith_K (h₀ := X.base) I.ok.mod.kin D.ox.kC _ he hpl
  apply thn (args.run pos pins s σ H _ I h)
  rintro us s1 ⟨vs, H1, I1, r, ln, lt, go⟩
  refine ⟨I1.kIn, ?_⟩
  rw [List.nil_append]
  refine ec_run D.ox h1 h2 F room I1 ?_ us r ln (fun s self X0 => ?_) go
  · rw [← r.length]; exact Nat.le_of_lt (small1000 lt)
  · have z := b s (self :: us) X0 (by
      have q := F.len (.ref 0 :: vs) (upd H1 0 (exo 0 C none)) (fun _ _ => True) E0 ⟨0, vs, rfl, ln, upd_same, fun _ _ _ => trivial⟩
      rw [← q]
      simp only [List.length_cons, List.append_nil, r.length])
    rw [List.append_nil] at z
    exact z
/-- C(k = e, ..) -/
theorem pe_eck (D : Ec X.prog X.w X.K X.mg X.base x C n ks pick mk) (room : Room 2 X.A) (hkw : PK X kws ta) (hg : Gl X x := by rfl)
    (hall : (backToKw pos (keywordEach kws X.env)).all (·.1.isSome) = true := by rfl) (hks : (backToKw pos (keywordEach kws X.env)).filterMap (·.1) = ks := by rfl) (hdb : (x == ("__debug__" : Str)) = false := by decide)
    (hpl : ((backTo pos (starEach [] X.env)).any (·.1) || (backToKw pos (keywordEach kws X.env)).any (·.1.isNone)) = false := by rfl) :
    PE X (.Call (.Name x p) [] kws pos) (fun σ H Q => ta σ H fun vs H1 => vs.length = ks.length ∧ ∀ (a : Addr) (H2 : Hp), H1 a = none → Same H1 H2 → ExAt H2 a C (mk (pick vs)) → Q (.ref a) H2) := by
  obtain ⟨fI, fd, ps, pk, h1, h2, F, b, rel, lnk, bk⟩ := D.ex
  constructor
  intro pins s σ H Q I h
  apply wpAny_Call_Name_kw (ld_glob I hg D.m ?_ hdb)
  apply PySem.W.callWith_KW0 (h₀ := X.base) I.ok.mod.kin D.ox.kC hall ?_ hpl
  apply thn (hkw.run pos pins s σ H _ I h)
  rintro ws s2 ⟨zs, H2, I2, rz, ln, go⟩
  refine ⟨I2.kIn, ?_⟩
  rw [hks]
  have ll : ws.length = ks.length := rz.length.symm.trans ln
  exact ec_run (us := []) D.ox h1 h2 F room I2 (Nat.zero_le _) (pk ws) (rel rz) (lnk zs ln) (fun s self X0 => bk s self ws X0 ll) go
/-! ### a field of an error -/
theorem pe_exf {f : Str} {o : Expr} {to : TE} (he : PE X o to) (hb : attributeBase o f X.env (eval o X.env) = eval o X.env := by rfl) :
    PE X (.Attribute o f pos) (fun σ H Q => to σ H fun y H1 => ∃ (a D : Addr) (fl : List (Str × V)) (v : V), y = .ref a ∧ ExAt H1 a D fl ∧ XfC X.K D ∧ PySem.W.findIn X.K (.ref D) f = some none ∧ fl.lookup f = some v ∧ Q v H1) := by
  constructor
  intro pins s σ H Q I h
  refine attr_of hb (thn (he.run pins s σ H _ I h) fun u s1 hh => ?_)
  obtain ⟨y, H1, I1, ry, a, D, fl, v, rfl, ⟨dx, ea, ed⟩, T, no, l, q⟩ := hh
  obtain rfl : u = Value.ref a := ry
  obtain ⟨t1, ho⟩ := exo_at I1.hok ea
  obtain ⟨mA, hns, hr⟩ := exd_at I1.hok ed
  obtain ⟨od, hod, hl⟩ := lookIn_ns hns
  obtain ⟨u, hu, ru⟩ := RelO.some_of (v := v) (o := mA f) (by rw [← l]; exact hr f)
  have J : PySem.W.InstAt s1.heap a { cls := .ref D, dict := some dx, data := .fields #[.ref t1, .none, .none, .none, .bool false, .none] } D (some od) := ⟨ho, rfl, rfl, hod⟩
  exact HandSPX.exc_get I1.kIn J T.ga T.gg T.exC (PySem.W.findObj_own T.hdC no rfl (by rw [hl, hu])) (handed_of ru) ⟨v, H1, I1.tok _, ru, q⟩
end
end
end Cf
/-! repr of a list whose items are plain data or dicts of ints -/
namespace Cf
section
open PySem PySem.Spec PyProof.Rows L2
/-- data without a dict, or a dict of ints to ints -/
inductive Dz (K : PySem.W.Frag) (H : Hp) : V → PyData → Prop
  | flat {v : V} {d : PyData} : Dp K H v d → d.hasDict = false → Dz K H v d
  | nums {a : Addr} (is : List (Int × Int)) : H a = some (.dK (is.map fun z => (Sum.inl z.1, V.int z.2))) → Dz K H (.ref a) (.dict (is.map fun z => (.int z.1, .int z.2)))
theorem rdAll_ints {h : Heap} : ∀ (is : List Int) (us : List Value), Paired (fun (i : Int) (u : Value) => ∃ t, u = Value.int i t) is us → ReadsAll h us (is.map PyData.int) []
  | [], _, .nil => .nil
  | i :: is, _, .cons hd tl => by
    obtain ⟨t, rfl⟩ := hd
    exact ReadsAll.cons (as := []) (bs := []) (Reads.int i t) (rdAll_ints is _ tl)
theorem pairs_ints {P : Program} {w : World} : ∀ (is : List (Int × Int)) (vs : List (Key × Value)) (es : List DictEntry), KV (is.map fun z => (Sum.inl z.1, V.int z.2)) vs → Pairs (mixKind P w) es vs →
    Paired (fun (i : Int) (u : Value) => ∃ t, u = Value.int i t) (is.map (·.1)) (es.map (·.key)) ∧ Paired (fun (i : Int) (u : Value) => ∃ t, u = Value.int i t) (is.map (·.2)) (es.map (·.val))
  | [], _, _, .nil, .nil => ⟨.nil, .nil⟩
  | z :: is, _, _, .cons hd tl, .cons k1 k2 k3 => by
    obtain ⟨h1, h2⟩ := pairs_ints is _ _ tl k3
    obtain ⟨e1, e2⟩ := hd
    rcases keyIs_shape k1 with ⟨i, t, q, e⟩ | ⟨x, t, q, e⟩
    · rw [q] at e1
      have e3 : z.1 = i := Sum.inl.inj e1
      obtain ⟨t2, e4⟩ := e2
      subst e3
      exact ⟨.cons ⟨t, e⟩ h1, .cons ⟨t2, k2.trans e4⟩ h2⟩
    · rw [q] at e1
      exact nomatch e1
section
variable {X : Cx} {pins : List (Addr × Obj)} {σ : L2.St} {H : Hp} {s : Shared}
theorem Dz.reads (I : Inv X pins σ H s) {v : V} {u : Value} {d : PyData} (z : Dz X.K H v d) (r : RelV v u) : ∃ as, Reads s.heap u d as ∧ (d.hasDict = true → sysModules ∉ as) := by
  cases z with
  | flat h n =>
    obtain ⟨as, q⟩ := Dp.reads I d v u h r
    exact ⟨as, q, fun y => by rw [n] at y; cases y⟩
  | @nums a is h =>
    cases r
    obtain ⟨_, lo, vs, kv, o, es, ep, g1, g2, g3, g4, g5, g6⟩ := dk_of I.hok h
    obtain ⟨p1, p2⟩ := pairs_ints is vs es.toList kv g5
    refine ⟨_, Reads.dict (as := []) (bs := []) g1 g2.1 g3 ?_ ?_, ?_⟩
    · have := rdAll_ints (h := s.heap) _ _ p1
      rw [List.map_map] at this ⊢
      exact this
    · have := rdAll_ints (h := s.heap) _ _ p2
      rw [List.map_map] at this ⊢
      exact this
    · intro _ m
      have lo' := beq_eq_false_iff_ne.mp lo
      rcases List.mem_append.mp m with m | m
      · rcases List.mem_cons.mp m with m | m
        · exact lo' m.symm
        · cases m
      · cases m
theorem Dz.all (I : Inv X pins σ H s) : ∀ {vs : List V} {ds : List PyData} {us : List Value}, Paired (Dz X.K H) vs ds → Vals vs us → PyData.showableAll ds = true → (∀ t ∈ PyData.shownAll ds, t.length ≤ sizeLine) →
    (∃ as, ReadsAll s.heap us ds as) ∧ ∃ bs, ReadAtMost s.heap (PyData.depthAll ds) bs ∧ ReprAllK X.prog X.w bs s.heap (PyData.depthAll ds) us (PyData.shownAll ds)
  | _, _, _, .nil, .nil, _, _ => ⟨⟨[], .nil⟩, [], (fun _ h => nomatch h), by simp only [PyData.shownAll]; exact .nil⟩
  | _, _, _, .cons (a := v) (b := d) z zs, .cons r rs, sh, le => by
    rename_i vs' ds' b' us'
    have sh' : d.showable = true ∧ PyData.showableAll ds' = true := by simpa [PyData.showableAll] using sh
    obtain ⟨as, q1, q2⟩ := z.reads I r
    have le1 := le _ (by simp only [PyData.shownAll]; exact List.mem_cons_self ..)
    obtain ⟨⟨as2, w1⟩, b2, w2, w3⟩ := Dz.all I zs rs sh'.2 fun t ht => le t (by simp only [PyData.shownAll]; exact List.mem_cons_of_mem _ ht)
    obtain ⟨b1, y1, y2⟩ := ReprK.of_reads (prog := X.prog) (w := X.w) q1 sh'.1 q2 le1
    refine ⟨⟨_, .cons q1 w1⟩, b1 ++ b2, ?_, ?_⟩
    · exact (y1.mono (by simp only [PyData.depthAll]; omega)).append (w2.mono (by simp only [PyData.depthAll]; omega))
    · simp only [PyData.shownAll]
      exact .cons ((y2.more fun b m => List.mem_append_left _ m).level_le (by simp only [PyData.depthAll]; omega)) (w3.more_le (fun b m => List.mem_append_right _ m) (by simp only [PyData.depthAll]; omega))
end
/-- repr(list) of at least one such item -/
def rReprZ (K : PySem.W.Frag) : List V → Hp → VK → Prop := fun xs H Q => ∃ (a : Addr) (v : V) (vs : List V) (ds : List PyData), xs = [.ref a] ∧ SqL K H a (v :: vs) ∧ Paired (Dz K H) (v :: vs) ds ∧ PyData.showableAll ds = true ∧ PyData.depthAll ds ≤ 60 ∧
  (listText (PyData.shownAll ds)).length ≤ sizeLine ∧ Q (.str (listText (PyData.shownAll ds))) H
theorem call_reprZ {X : Cx} (gd : X.A.guards = some []) (hu : X.A.units + 64 < cLine) : CallR X (.builtin "repr") (rReprZ X.K) := by
  intro pins s σ H xs us Q I r h
  obtain ⟨a, v, vs, ds, rfl, hs, hz, sh, dd, sz, q⟩ := h
  obtain ⟨u, rfl, ru⟩ : ∃ u, us = [u] ∧ RelV (.ref a) u := by
    cases r with
    | cons r1 r2 => cases r2; exact ⟨_, rfl, r1⟩
  cases ru
  obtain ⟨its, rv, ⟨o, n, ho, hc, _, hd⟩, _⟩ := I.list hs
  obtain ⟨⟨as, ra⟩, bs, b1, b2⟩ := Dz.all I hz rv sh fun t ht => Nat.le_trans (listText_mem_le ht) sz
  have rd : Reads s.heap (.ref a) (.list ds) (a :: as) := .list ho hc hd (by simpa using ra)
  have na : a ∉ bs := not_mem_of_deeper rd (by simp only [PyData.depth]; omega) b1
  cases its with
  | nil => cases rv
  | cons i its =>
    have nl := b2.length_eq
    have nit := b2.item
    refine call_repr_slot (by omega) ⟨o, ho, hc⟩ F.slot_list_repr.toG ?_
    refine call_list_reprK (d := PyData.depthAll ds) ho hc hd na (by simpa using nl) (fun i y e => nit i y (by simpa using e)) gd (fun b _ => Clear.nil b) ?_ (fun _ _ e => e) ?_ sz
    · show X.A.units + 1 + (PyData.depthAll ds + 1) < cLine
      omega
    · intro h' u tk k
      exact ⟨_, _, rfl, .str _, H, I.kept k, ⟨_, rfl⟩, q⟩
/-! the heap without two places -/
def cut (p q : Addr) (H : Hp) : Hp := fun b => if b = p ∨ b = q then none else H b
theorem cut_same (p q : Addr) (H : Hp) : Same (cut p q H) H := fun b o e => by
  unfold cut at e
  split at e
  · cases e
  · exact e
theorem cut_of {p q b : Addr} {H : Hp} {o : HO} (e : H b = some o) (h1 : b ≠ p) (h2 : b ≠ q) : cut p q H b = some o := by
  unfold cut
  rw [if_neg (by rintro (z | z) <;> contradiction)]
  exact e
theorem But.cut {p q : Addr} {H H' : Hp} (b : But p q H H') : Same (cut p q H) (cut p q H') := fun c o e => by
  unfold Cf.cut at e
  split at e
  · cases e
  · rename_i n
    exact cut_of (b c o e (fun z => n (.inl z)) (fun z => n (.inr z))) (fun z => n (.inl z)) fun z => n (.inr z)
theorem Same.cut {p q : Addr} {H H' : Hp} (b : Same H H') : Same (cut p q H) (cut p q H') := But.cut (But.of b)
theorem sql_keep {K : PySem.W.Frag} {H H' : Hp} {a : Addr} {xs : List V} (e : Same H H') (h : SqL K H a xs) : SqL K H' a xs := by
  rcases h with (h | ⟨o, h⟩) | h
  · exact .inl (.inl (e _ _ h))
  · exact .inl (.inr ⟨o, e _ _ h⟩)
  · exact .inr h
mutual
theorem Dp.keep {K : PySem.W.Frag} {H H' : Hp} (s : Same H H') : ∀ (d : PyData) (v : V), Dp K H v d → Dp K H' v d
  | .none, _, h => by cases h; exact .non
  | .bool _, _, h => by cases h; exact .bl _
  | .int _, _, h => by cases h; exact .int _
  | .str _, _, h => by cases h; exact .str _
  | .list ds, _, h => by cases h with | lst a b => exact .lst (sql_keep s a) (Dp.keepAll s ds _ b)
  | .tuple ds, _, h => by cases h with | tup a b => exact .tup (s.sqt a) (Dp.keepAll s ds _ b)
  | .dict _, _, h => by cases h
theorem Dp.keepAll {K : PySem.W.Frag} {H H' : Hp} (s : Same H H') : ∀ (ds : List PyData) (vs : List V), DpAll K H vs ds → DpAll K H' vs ds
  | [], _, h => by cases h; exact .nil
  | d :: ds, _, h => by cases h with | cons a b => exact .cons (Dp.keep s d _ a) (Dp.keepAll s ds _ b)
end
theorem Dz.keep {K : PySem.W.Frag} {H H' : Hp} (s : Same H H') {v : V} {d : PyData} (h : Dz K H v d) : Dz K H' v d := by
  cases h with
  | flat h n => exact .flat (Dp.keep s d v h) n
  | nums is h => exact .nums is (s _ _ h)
end
end Cf
/-! try: .. except C as e: k = e — the error kept for what follows in the same block. -/
namespace Cf
open PySem PySem.Spec PyProof.Rows L2
section
variable {X : Cx} {pins : List (Addr × Obj)} {σ : L2.St} {H : Hp} {s : Shared} {a : Addr} {oe : Obj}
/-- the context in which the error at a is kept -/
abbrev keptX (X : Cx) (a : Addr) (oe : Obj) : Cx := X.tr ((a, oe) :: X.pn) X.xe
theorem kept_out (J : Inv (keptX X a oe) pins σ H s) (ok : X.Ok) : Inv X pins σ H s :=
  { ok := ok, os := J.os, bare := J.bare, base := J.base, loc := J.loc, cell := J.cell, free := J.free, freeC := J.freeC, pin := fun p hp => J.pin p (List.mem_cons_of_mem _ hp), hok := J.hok, len := J.len }
theorem kept_suite (J : Inv (X.suite a ((a, oe) :: (X.pn ++ pins))) [] σ H s) (ok : X.Ok) : Inv (keptX X a oe) pins σ H s :=
  { ok := ok.toTry _ _, os := J.os, bare := J.bare, base := J.base, loc := J.loc, cell := J.cell, free := J.free, freeC := J.freeC, hok := J.hok, len := J.len
    pin := fun p hp => J.pin p (by rw [List.append_nil]; exact hp) }
theorem kept_end {D : Ends} {f : Flow} (ok : X.Ok) (h : SP (keptX X a oe) pins D f s) : SP X pins D f s := by
  cases f with
  | next => obtain ⟨σ', H', J, q⟩ := h; exact ⟨σ', H', kept_out J ok, q⟩
  | brk => obtain ⟨σ', H', J, q⟩ := h; exact ⟨σ', H', kept_out J ok, q⟩
  | cont => obtain ⟨σ', H', J, q⟩ := h; exact ⟨σ', H', kept_out J ok, q⟩
  | ret u => obtain ⟨v, σ', H', J, r, q⟩ := h; exact ⟨v, σ', H', kept_out J ok, r, q⟩
end
section
variable {X : Cx} {x n k : Str} {c : Value} {i j : Nat} {body rest : List Stmt} {np pos pos' p1 p2 p3 : Pos} {tb : WX → TS} {u : TS} {Wout : WX}
/-- what such a clause wishes of an error of the body: slot i is e's, slot j is k's -/
def wKp (X : Cx) (rest : List Stmt) (c : Value) (i j : Nat) (Wout : WX) (D : Ends) : WX := fun cls d σ H =>
  ∃ b, PySem.W.exmOne X.K cls c = some b ∧ (b = true → ∀ (a : Addr) (oe : Obj), H a = none → Zc cls d oe → (∃ vs, oe.data = .fields vs) → ∃ t : TS, PSs (keptX X a oe) rest t ∧ t D (((σ.set i (some (.ref a))).set j (some (.ref a))).set i none) H) ∧ (b = false → Wout cls d σ H)
theorem pss_tryKeep (hs : X.stack = X.env :: X.outer) (hf : X.env.frame = some X.env.locals) (hN : X.N.Nodup) (hi : X.N[i]? = some n) (hln : X.env.kindOf n = some .local) (hj : X.N[j]? = some k) (hlk : X.env.scope.names.lookup k = some .local) (hc : Names X x c) (tk : Takes X Wout)
    (hb : ∀ (W : WX) (pn : List (Addr × Obj)) (xe : Value → Shared → Prop), Takes (X.tr pn xe) W → PassesOwn (model X.prog X.w) X.A X.env xe → PSs (X.tr pn xe) body (tb W))
    (hr : PSs X rest u)
    (hsw : swapsWith (.Name n p2) (some (.Name k p1)) p3.line X.env = pure false := by rfl)
    (hd1 : (n == ("__debug__" : Str)) = false := by decide) (hd2 : (n == ("__classdict__" : Str)) = false := by decide) :
    PSs X (.Try body [.ExceptHandler (some (.Name x np)) (some n) [.Assign [.Name k p1] (.Name n p2) p3] pos'] [] [] pos :: rest) (fun D σ H => tb (wKp X rest c i j Wout D) { D with nx := u D } σ H) := by
  refine ⟨fun pins s σ H D I h => ?_⟩
  have ok := I.ok
  have frm : X.A.frames = some (X.env :: X.outer) := by rw [ok.frames, hs]
  refine wpAny_execs_cons (wpAny_Try_except ?_)
  refine wpAny_mono ((hb (wKp X rest c i j Wout D) (X.pn ++ pins) _ (fun v s' flown => ?_) PassesOwn.looking).run [] s σ H { D with nx := u D } (I.toTry _) h) (fun f s1 ended => ?_) (fun _ _ z => z)
  · -- an error of the body
    obtain ⟨a, B, sI, pins', σ', H', cls, d, rfl, JT, nb, up, sky, na, os, ag, b, asks, keeps, leaves⟩ := flown
    have J : Inv X pins σ' H' sI := JT.ofTry ok
    rw [hs] at sky
    refine Sky.land Zc.steady frm hf sky fun h3 fl3 up3 => ?_
    have J3 : Inv X pins σ' H' { s' with heap := h3 } := J.landed nb fl3.1 (up.trans up3) os ag
    obtain ⟨oe3, vs3, at3, z3, dat3⟩ := fl3.there
    have off : a ∉ frs (X.env :: X.outer) := fun m => by
      obtain ⟨_, o', e', no⟩ := fl3.2.2.1.mem m
      rw [at3] at e'
      cases e'
      exact no _ dat3
    have nL : a ≠ X.env.locals := fun z => off (List.mem_filterMap.mpr ⟨X.env, List.mem_cons_self, by rw [hf, z]⟩)
    have nF : a ∉ X.fs := fun m => by
      obtain ⟨e, he, q⟩ := List.mem_filterMap.mp m
      exact off (List.mem_filterMap.mpr ⟨e, List.mem_cons_of_mem _ he, q⟩)
    have S3 := J3.suite at3 dat3 na nL nF
    refine wpAny_handleBy_cons (codeAny_handlers_test ?_) (by intro q; cases q)
    have LT : PySem.W.Looks (model X.prog X.w) h3 (typeOf (.ref a)) cls := fun A Q E s k q => wpAny_typeOf_ref (k _ _ at3) (by rw [z3.1]; exact q)
    have LM := PySem.W.exm_one (M := model X.prog X.w) J3.kIn LT asks
    have named : ∀ {Q : Value → Shared → Prop} {E : Value → Shared → Prop}, Q c { s' with heap := h3 } → wpAny (model X.prog X.w) (X.A.mark (some (.ref a))) (eval (.Name x np) X.env) Q E { s' with heap := h3 } := fun {Q E} q => by
      rcases hc with ⟨g1, g2, g3 | ⟨g3, g4, g5⟩⟩
      · exact ld_glob (X := X.suite a ((a, oe3) :: (X.pn ++ pins))) S3 g1 g3 q g2
      · exact ld_blt (X := X.suite a ((a, oe3) :: (X.pn ++ pins))) S3 g1 g3 g4 q g5 g2
    refine named (LM.here ?_)
    cases b with
    | true =>
      refine codeAny_handlers_suite_as ?_
      refine HandSPX.lands_againZ fl3 fun h4 fl4 up4 => ?_
      have J4 : Inv X pins σ' H' { s' with heap := h4 } := J.landed nb fl4.1 ((up.trans up3).trans up4) os ag
      obtain ⟨oe4, vs4, at4, z4, dat4⟩ := fl4.there
      have S4 := J4.suite at4 dat4 na nL nF
      have ilt : i < σ'.length := by
        rw [J4.len]
        exact (List.getElem?_eq_some_iff.mp hi).1
      refine store_ok (X := X.suite a ((a, oe4) :: (X.pn ++ pins))) (v := .ref a) S4 hN hi (.inl hln) rfl (fun s5 S5 => ?_) (.inr hln)
      have suite : PSs (X.suite a ((a, oe4) :: (X.pn ++ pins))) [.Assign [.Name k p1] (.Name n p2) p3] (tAsg (tVar i) (gName j)) := pss_one (ps_set hN hj (.inl hlk) (pe_var hi (.inl hln) hd1 hd2) hsw (.inr hlk))
      refine wpAny_mono (suite.run [] s5 _ H' { nx := fun σ6 H6 => σ6 = (σ'.set i (some (.ref a))).set j (some (.ref a)) ∧ H6 = H', rt := fun _ _ => False, bk := fun _ _ => False, ct := fun _ _ => False } S5 ⟨_, List.getElem?_set_self ilt, rfl, rfl⟩) (fun f s6 ended => ?_) (fun _ _ z => False.elim z)
      cases f with
      | next =>
        obtain ⟨σ6, H6, S6, rfl, rfl⟩ := ended
        refine gone_ok (X := keptX X a oe4) (kept_suite S6 ok) hN hi hln fun s7 J7 => ?_
        obtain ⟨t, walk, q⟩ := keeps rfl a oe4 na z4 ⟨_, dat4⟩
        exact wpAny_mono (walk.run pins s7 _ _ D J7 q) (fun f s8 z => kept_end ok z) (fun _ _ z => z)
      | brk => obtain ⟨_, _, _, z⟩ := ended; exact z.elim
      | cont => obtain ⟨_, _, _, z⟩ := ended; exact z.elim
      | ret v => obtain ⟨_, _, _, _, _, z⟩ := ended; exact z.elim
    | false =>
      refine wpAny_handleBy_nil ?_
      obtain ⟨_, _, _, oe, vs, T, _, _, at0, _, dat0, tb0, _⟩ := id fl3
      unfold PySem.passOn
      refine wpAny_bind (wpAny_field at0 dat0 tb0 ?_)
      rw [if_neg (show ¬ ((Value.ref T == Value.none) = true) from by simp)]
      have out : ∀ {Q : Flow → Shared → Prop}, wpAny (model X.prog X.w) X.A (setFlight (.ref a) X.env.frame) (fun _ s4 => wpAny (model X.prog X.w) X.A (throw (.ref a) : Sem Flow) Q X.xe s4) X.xe { s' with heap := h3 } := by
        intro Q
        rw [hf]
        refine HandSPX.setFlight_upZ fl3 fun h4 on4 up4 => wpAny_throw (tk _ _ ?_)
        exact ⟨a, B, sI, pins, σ', H', cls, d, rfl, J, nb, (up.trans up3).trans up4, .inr (.inr (by rw [hs]; exact on4)), na, os, ag, leaves rfl⟩
      first
        | exact wpAny_bind (wpAny_pure (wpAny_bind out))
        | exact wpAny_bind out
  · cases f with
    | next =>
      obtain ⟨σ', H', JT, q⟩ := ended
      exact wpAny_execs_nil (hr.run pins s1 σ' H' D (JT.ofTry ok) q)
    | brk => obtain ⟨σ', H', JT, q⟩ := ended; exact ⟨σ', H', JT.ofTry ok, q⟩
    | cont => obtain ⟨σ', H', JT, q⟩ := ended; exact ⟨σ', H', JT.ofTry ok, q⟩
    | ret v => obtain ⟨v', σ', H', JT, r, q⟩ := ended; exact ⟨v', σ', H', JT.ofTry ok, r, q⟩
end
section
variable {X : Cx} {rest : List Stmt} {e : Expr} {t : TE} {f : Str} {pos : Pos}
/-- e.f where it is never asked -/
theorem pe_never (he : PE X e t) : PE X (.Attribute e f pos) (fun _ _ _ => False) := ⟨fun _ _ _ _ _ _ h => h.elim⟩
/-- a block that is read by the class of the kept error -/
theorem keep_cls {cls : Value} {u : Addr → TS} (h : ∀ C, cls = .ref C → PSs X rest (u C)) : PSs X rest (fun D σ H => ∃ C, cls = .ref C ∧ u C D σ H) := ⟨fun pins s σ H D I ⟨C, e, q⟩ => (h C e).run pins s σ H D I q⟩
end
end Cf
/-! Own layer: offsets by a rule, and by a list of changes. -/
namespace Cf
theorem year_up (d : Int) : ∀ (n : Nat) (y : Int), ysOf y ≤ d → d < ysOf y + 365 * (n : Int) → ∃ z, ysOf z ≤ d ∧ d < ysOf (z + 1)
  | 0, y, h1, h2 => by omega
  | n + 1, y, h1, h2 => by
    by_cases c : d < ysOf (y + 1)
    · exact ⟨y, h1, c⟩
    · have h := ys_mono_nat y 1
      have h' : ysOf y + 365 ≤ ysOf (y + 1) := by simpa using h
      exact year_up d n (y + 1) (by omega) (by push_cast at h2; omega)
theorem ex_year (d : Int) : ∃ y, ysOf y ≤ d ∧ d < ysOf (y + 1) := by
  have h := ys_mono_nat (2000 - (d.natAbs : Int)) d.natAbs
  rw [show (2000 - (d.natAbs : Int)) + (d.natAbs : Int) = 2000 by omega] at h
  have e : ysOf 2000 = 0 := by decide
  have lo : ysOf (2000 - (d.natAbs : Int)) ≤ d := by omega
  refine year_up d (d - ysOf (2000 - (d.natAbs : Int)) + 1).toNat _ lo (by omega)
/-- an instant in a year -/
def InY (t y : Int) : Prop := ysOf y * 86400 ≤ t ∧ t < ysOf (y + 1) * 86400
theorem ex_iny (t : Int) : ∃ y, InY t y := by
  obtain ⟨y, h1, h2⟩ := ex_year (t / 86400)
  exact ⟨y, by omega, by omega⟩
theorem InY.uniq {t y z : Int} (a : InY t y) (b : InY t z) : y = z := by
  rcases Int.lt_trichotomy y z with c | c | c
  · have := ys_lt (show y < z by exact c)
    have h : ysOf (y + 1) ≤ ysOf z := by
      rcases Int.lt_or_eq_of_le (show y + 1 ≤ z by omega) with d | d
      · exact Int.le_of_lt (ys_lt d)
      · rw [d]; exact Int.le_refl _
    have := a.2; have := b.1; omega
  · exact c
  · have h : ysOf (z + 1) ≤ ysOf y := by
      rcases Int.lt_or_eq_of_le (show z + 1 ≤ y by omega) with d | d
      · exact Int.le_of_lt (ys_lt d)
      · rw [d]; exact Int.le_refl _
    have := b.2; have := a.1; omega
theorem InY.day {t y : Int} (a : InY t y) : ysOf y ≤ t / 86400 ∧ t / 86400 < ysOf (y + 1) := by
  obtain ⟨h1, h2⟩ := a
  omega
noncomputable def yrOf (t : Int) : Int := Classical.choose (ex_iny t)
theorem yrOf_in (t : Int) : InY t (yrOf t) := Classical.choose_spec (ex_iny t)
theorem yrOf_eq {t y : Int} (h : InY t y) : yrOf t = y := (yrOf_in t).uniq h
/-- the offset after the changes that have come, whatever their order -/
def runOff (o : Int) (ps : List (Int × Int)) (t : Int) : Int := ps.foldl (fun f p => if p.1 ≤ t then p.2 else f) o
theorem run_cons (o : Int) (p : Int × Int) (ps : List (Int × Int)) (t : Int) : runOff o (p :: ps) t = runOff (if p.1 ≤ t then p.2 else o) ps t := rfl
theorem run_snoc (o : Int) (p : Int × Int) (ps : List (Int × Int)) (t : Int) : runOff o (ps ++ [p]) t = if p.1 ≤ t then p.2 else runOff o ps t := by
  unfold runOff; rw [List.foldl_append]; rfl
theorem run_none {t : Int} : ∀ {ps : List (Int × Int)} {o : Int}, (∀ p ∈ ps, t < p.1) → runOff o ps t = o
  | [], _, _ => rfl
  | p :: ps, o, h => by
    rw [run_cons, if_neg (by have := h p (List.mem_cons_self ..); omega)]
    exact run_none fun q hq => h q (List.mem_cons_of_mem _ hq)
theorem run_at {t : Int} {p : Int × Int} (hp : p.1 ≤ t) : ∀ {ps : List (Int × Int)} {i : Nat} {o : Int}, ps[i]? = some p → (∀ j q, i < j → ps[j]? = some q → t < q.1) → runOff o ps t = p.2
  | [], _, _, h, _ => by simp at h
  | x :: ps, 0, o, h, k => by
    cases h
    rw [run_cons, if_pos hp]
    refine run_none fun q hq => ?_
    obtain ⟨j, hj⟩ := List.mem_iff_getElem?.mp hq
    exact k (j + 1) q (by omega) (by simpa using hj)
  | x :: ps, i + 1, o, h, k => by
    rw [run_cons]
    exact run_at hp (by simpa using h) fun j q hj hq => k (j + 1) q (by omega) (by simpa using hq)
/-- the pairs of a year by a rule -/
def cps (rs : List Row) (y : Int) : List (Int × Int) := (turns rs y).zip (rs.map Row.off)
theorem cps_len (rs : List Row) (y : Int) : (cps rs y).length = rs.length := by
  unfold cps turns; simp
theorem mis_bd {e : Int} : ∀ {xs : List Int} {b : Int} {i : Nat}, mis b e xs i = none → ∀ x ∈ xs, b < x ∧ x < e
  | [], _, _, _, _, h => nomatch h
  | x :: xs, b, i, h, z, hz => by
    unfold mis at h
    by_cases c : x ≤ b ∨ e ≤ x
    · rw [if_pos c] at h; cases h
    · rw [if_neg c] at h
      rcases List.mem_cons.mp hz with g | g
      · rw [g]; omega
      · have := mis_bd h z g; omega
def Ord (rs : List Row) : Prop := ∀ y, wrongY rs y = none
theorem Ord.bd {rs : List Row} (o : Ord rs) {y : Int} {p : Int × Int} (h : p ∈ cps rs y) : InY p.1 y := by
  have h1 : p.1 ∈ turns rs y := (List.of_mem_zip h).1
  have := mis_bd ((wrong_turns rs y).trans (o y)) _ h1
  exact ⟨by omega, this.2⟩
noncomputable def rOff (rs : List Row) (t : Int) : Int := runOff (prevOff rs 0) (cps rs (yrOf t)) t
/-- the last change by a rule, up to an instant -/
structure LastC (rs : List Row) (t b o : Int) : Prop where
  le : b ≤ t
  at_ : ∀ u, b ≤ u → u ≤ t → rOff rs u = o
theorem last_here {rs : List Row} (o : Ord rs) {t y : Int} (hy : InY t y) {i : Nat} {p : Int × Int} (hp : (cps rs y)[i]? = some p) (le : p.1 ≤ t) (k : ∀ j q, i < j → (cps rs y)[j]? = some q → t < q.1) : LastC rs t p.1 p.2 := by
  refine ⟨le, fun u h1 h2 => ?_⟩
  have b := o.bd (List.mem_of_getElem? hp)
  have e : yrOf u = y := yrOf_eq ⟨by have := b.1; omega, by have := hy.2; omega⟩
  unfold rOff
  rw [e]
  exact run_at h1 hp fun j q hj hq => by have := k j q hj hq; omega
theorem cps_last {rs : List Row} (h : 0 < rs.length) (y : Int) : ∃ p, (cps rs y)[rs.length - 1]? = some p ∧ p.2 = prevOff rs 0 := by
  obtain ⟨r, hr⟩ : ∃ r, rs[rs.length - 1]? = some r := ⟨_, List.getElem?_eq_getElem (by omega)⟩
  refine ⟨(turnAt rs y (rs.length - 1) r, r.off), ?_, ?_⟩
  · unfold cps
    rw [List.getElem?_zip_eq_some]
    exact ⟨turns_get hr, by rw [List.getElem?_map, hr]; rfl⟩
  · unfold prevOff
    rw [if_pos rfl, hr]
    rfl
theorem last_prev {rs : List Row} (o : Ord rs) (ne : 0 < rs.length) {t y : Int} (hy : InY t y) (k : ∀ q ∈ cps rs y, t < q.1) {p : Int × Int} (hp : (cps rs (y - 1))[rs.length - 1]? = some p) : LastC rs t p.1 p.2 := by
  have bb : ysOf (y - 1) * 86400 ≤ p.1 ∧ p.1 < ysOf (y - 1 + 1) * 86400 := o.bd (List.mem_of_getElem? hp)
  rw [show y - 1 + 1 = y by omega] at bb
  refine ⟨by have := bb.2; have := hy.1; omega, fun u h1 h2 => ?_⟩
  obtain ⟨p', hp', e'⟩ := cps_last ne (y - 1)
  rw [hp] at hp'
  cases hp'
  by_cases c : ysOf y * 86400 ≤ u
  · have e : yrOf u = y := yrOf_eq ⟨c, by have := hy.2; omega⟩
    unfold rOff
    rw [e, e']
    exact run_none fun q hq => by have := k q hq; omega
  · have e : yrOf u = y - 1 := yrOf_eq ⟨by omega, by rw [show y - 1 + 1 = y by omega]; omega⟩
    unfold rOff
    rw [e]
    exact run_at h1 hp fun j q hj hq => by
      have := (List.getElem?_eq_some_iff.mp hq).1
      rw [cps_len] at this
      omega
end Cf
/-! Own layer: rules whose rows lie in months far apart are in order. -/
namespace Cf
def Near (y : Yd) (m : Int) : Prop := ∀ (f : Int) (l : Bool), mst m l ≤ numIn y f l ∧ numIn y f l ≤ mst m l + 30
theorem near_nth {m k w : Int} (k1 : 1 ≤ k) (k4 : k ≤ 4) : Near (.nth m k w) m := fun f l => by
  show _ ≤ onAfter (mst m l + 7 * (k - 1)) w f ∧ onAfter (mst m l + 7 * (k - 1)) w f ≤ _
  unfold onAfter
  omega
theorem near_last {m w : Int} (h1 : 1 ≤ m) (h2 : m ≤ 12) : Near (.last m w) m := fun f l => by
  show _ ≤ onBefore (mst m l + mlen m l - 1) w f ∧ onBefore (mst m l + mlen m l - 1) w f ≤ _
  have := mlen_bd h1 h2 l
  unfold onBefore
  omega
theorem near_frm {m n w : Int} (h1 : 8 ≤ n) (h2 : n ≤ 21) : Near (.frm m n w) m := fun f l => by
  show _ ≤ onAfter (mst m l + n - 1) w f ∧ onAfter (mst m l + n - 1) w f ≤ _
  unfold onAfter
  omega
theorem near_unt {m n w : Int} (h1 : 8 ≤ n) (h2 : n ≤ 21) : Near (.unt m n w) m := fun f l => by
  show _ ≤ onBefore (mst m l + n - 1) w f ∧ onBefore (mst m l + n - 1) w f ≤ _
  unfold onBefore
  omega
theorem near_date {m n : Int} (h1 : 8 ≤ n) (h2 : n ≤ 21) : Near (.date m n) m := fun f l => by
  show _ ≤ mst m l + n - 1 ∧ mst m l + n - 1 ≤ _
  omega
theorem near_day {m n : Int} (m1 : 1 ≤ m) (m2 : m ≤ 12) (h1 : 8 ≤ n) (h2 : n ≤ 21) : Near (.day (31 * (m - 1) + n - 3)) m := fun f l => by
  show _ ≤ 31 * (m - 1) + n - 3 ∧ 31 * (m - 1) + n - 3 ≤ _
  have h : mst m l ≤ 31 * (m - 1) + 1 ∧ 31 * (m - 1) ≤ mst m l + 7 := by
    rcases m12 m1 m2 with rfl | rfl | rfl | rfl | rfl | rfl | rfl | rfl | rfl | rfl | rfl | rfl <;> cases l <;> decide
  omega
structure DRow (m : Int) (r : Row) : Prop where
  near : Near r.yd m
  s0 : -3600 ≤ r.sec
  s1 : r.sec ≤ 172800
  o0 : -86399 ≤ r.off
  o1 : r.off ≤ 86399
def Up : Int → Int → List Int → Prop
  | _, _, [] => True
  | b, e, x :: xs => b < x ∧ x < e ∧ Up x e xs
theorem mis_up {e : Int} : ∀ {xs : List Int} {b : Int} {i : Nat}, Up b e xs → mis b e xs i = none
  | [], _, _, _ => rfl
  | x :: xs, b, i, h => by
    unfold mis
    rw [if_neg (by have := h.1; have := h.2.1; omega)]
    exact mis_up h.2.2
/-- a second of a row, with what stands ahead -/
def sOf (f : Int) (l : Bool) (p : Int) (r : Row) : Int := 86400 * numIn r.yd f l + r.sec - (if r.wall = true then p else 0)
theorem sOf_bd {m p : Int} {r : Row} (d : DRow m r) (p0 : -86399 ≤ p) (p1 : p ≤ 86399) (f : Int) (l : Bool) : 86400 * mst m l - 89999 ≤ sOf f l p r ∧ sOf f l p r ≤ 86400 * mst m l + 2851199 := by
  have n := d.near f l
  have := d.s0
  have := d.s1
  unfold sOf
  split <;> omega
theorem secs2 (a b : Row) (f : Int) (l : Bool) : secs [a, b] f l = [sOf f l b.off a, sOf f l a.off b] := rfl
theorem secs3 (a b c : Row) (f : Int) (l : Bool) : secs [a, b, c] f l = [sOf f l c.off a, sOf f l a.off b, sOf f l b.off c] := rfl
theorem secs4 (a b c d : Row) (f : Int) (l : Bool) : secs [a, b, c, d] f l = [sOf f l d.off a, sOf f l a.off b, sOf f l b.off c, sOf f l c.off d] := rfl
/-- months far apart -/
def MsL (ms : List Int) : Prop := ms = [3, 10] ∨ ms = [2, 11] ∨ ms = [3, 6, 10] ∨ ms = [2, 4, 7, 10]
theorem mst_vals (l : Bool) : mst 2 l = 31 ∧ mst 3 l = 59 + (if l = true then 1 else 0) ∧ mst 4 l = 90 + (if l = true then 1 else 0) ∧ mst 6 l = 151 + (if l = true then 1 else 0) ∧ mst 7 l = 181 + (if l = true then 1 else 0) ∧ mst 10 l = 273 + (if l = true then 1 else 0) ∧ mst 11 l = 304 + (if l = true then 1 else 0) ∧ mst 13 l = 365 + (if l = true then 1 else 0) := by
  cases l <;> decide
inductive DR : List Int → List Row → Prop where
  | nil : DR [] []
  | cons {m : Int} {r : Row} {ms : List Int} {rs : List Row} : DRow m r → DR ms rs → DR (m :: ms) (r :: rs)
theorem DR.snoc {m : Int} {r : Row} : ∀ {ms : List Int} {rs : List Row}, DR ms rs → DRow m r → DR (ms ++ [m]) (rs ++ [r])
  | _, _, .nil, d => .cons d .nil
  | _, _, .cons a as, d => .cons a (as.snoc d)
theorem dr_ord {ms : List Int} {rs : List Row} (h : MsL ms) (d : DR ms rs) : ∀ k ∈ kinds, misK rs k = none := by
  rintro ⟨f, l⟩ _
  obtain ⟨v2, v3, v4, v6, v7, v10, v11, v13⟩ := mst_vals l
  show mis (-1) (86400 * mst 13 l) (secs rs f l) 0 = none
  refine mis_up ?_
  rcases h with rfl | rfl | rfl | rfl
  · cases d with | cons a d => cases d with | cons b d => cases d with | nil =>
      have h1 := sOf_bd a b.o0 b.o1 f l
      have h2 := sOf_bd b a.o0 a.o1 f l
      rw [secs2]
      exact ⟨by omega, by omega, by omega, by omega, trivial⟩
  · cases d with | cons a d => cases d with | cons b d => cases d with | nil =>
      have h1 := sOf_bd a b.o0 b.o1 f l
      have h2 := sOf_bd b a.o0 a.o1 f l
      rw [secs2]
      exact ⟨by omega, by omega, by omega, by omega, trivial⟩
  · cases d with | cons a d => cases d with | cons b d => cases d with | cons c d => cases d with | nil =>
      have h1 := sOf_bd a c.o0 c.o1 f l
      have h2 := sOf_bd b a.o0 a.o1 f l
      have h3 := sOf_bd c b.o0 b.o1 f l
      rw [secs3]
      exact ⟨by omega, by omega, by omega, by omega, by omega, by omega, trivial⟩
  · cases d with | cons a d => cases d with | cons b d => cases d with | cons c d => cases d with | cons e d => cases d with | nil =>
      have h1 := sOf_bd a e.o0 e.o1 f l
      have h2 := sOf_bd b a.o0 a.o1 f l
      have h3 := sOf_bd c b.o0 b.o1 f l
      have h4 := sOf_bd e c.o0 c.o1 f l
      rw [secs4]
      exact ⟨by omega, by omega, by omega, by omega, by omega, by omega, by omega, by omega, trivial⟩
theorem sOf_twin {f : Int} {l : Bool} {a t : Row} {z lag : Int} (y : t.yd = a.yd) (wl : t.wall = a.wall) (c : t.sec = a.sec + lag + (if a.wall = true then a.off - z else 0)) : sOf f l a.off t = sOf f l z a + lag := by
  unfold sOf
  rw [y, wl, c]
  cases a.wall
  · rw [if_neg (by decide), if_neg (by decide), if_neg (by decide)]; omega
  · rw [if_pos rfl, if_pos rfl, if_pos rfl]; omega
theorem lastOff_cons (a : Row) (rs : List Row) (h : rs ≠ []) : prevOff (a :: rs) 0 = prevOff rs 0 := by
  unfold prevOff
  rw [if_pos rfl, if_pos rfl]
  cases rs with
  | nil => exact absurd rfl h
  | cons b rs => simp
/-- the same with a row close behind the first one -/
theorem dr_twin {ms : List Int} {a t : Row} {rs : List Row} {lag : Int} (h : MsL ms) (d : DR ms (a :: rs)) (l3 : rs.length ≤ 2) (y : t.yd = a.yd) (wl : t.wall = a.wall) (c : t.sec = a.sec + lag + (if a.wall = true then a.off - prevOff (a :: rs) 0 else 0)) (g0 : 1 ≤ lag) (g1 : lag ≤ 7200)
    (o0 : -86399 ≤ t.off) (o1 : t.off ≤ 86399) : ∀ k ∈ kinds, misK (a :: t :: rs) k = none := by
  rintro ⟨f, l⟩ _
  obtain ⟨v2, v3, v4, v6, v7, v10, v11, v13⟩ := mst_vals l
  show mis (-1) (86400 * mst 13 l) (secs (a :: t :: rs) f l) 0 = none
  refine mis_up ?_
  rcases h with rfl | rfl | rfl | rfl
  · cases d with | cons a d => cases d with | @cons _ b2 _ _ b d => cases d with | nil =>
      have h1 := sOf_bd a b.o0 b.o1 f l
      have h2 := sOf_bd b o0 o1 f l
      have e : sOf f l _ t = _ := sOf_twin (f := f) (l := l) (z := b2.off) y wl c
      rw [secs3, e]
      exact ⟨by omega, by omega, by omega, by omega, by omega, by omega, trivial⟩
  · cases d with | cons a d => cases d with | @cons _ b2 _ _ b d => cases d with | nil =>
      have h1 := sOf_bd a b.o0 b.o1 f l
      have h2 := sOf_bd b o0 o1 f l
      have e : sOf f l _ t = _ := sOf_twin (f := f) (l := l) (z := b2.off) y wl c
      rw [secs3, e]
      exact ⟨by omega, by omega, by omega, by omega, by omega, by omega, trivial⟩
  · cases d with | cons a d => cases d with | cons b d => cases d with | @cons _ c2 _ _ c' d => cases d with | nil =>
      have h1 := sOf_bd a c'.o0 c'.o1 f l
      have h2 := sOf_bd b o0 o1 f l
      have h3 := sOf_bd c' b.o0 b.o1 f l
      have e : sOf f l _ t = _ := sOf_twin (f := f) (l := l) (z := c2.off) y wl c
      rw [secs4, e]
      exact ⟨by omega, by omega, by omega, by omega, by omega, by omega, by omega, by omega, trivial⟩
  · cases d with | cons a d => cases d with | cons b d => cases d with | cons c d => cases d with | cons e d => cases d with | nil => simp at l3
end Cf
/-! Own layer: a call that is told of a heap without two places leaves them alone; a class called by keywords. -/
namespace Cf
open PySem L2 PySem.Spec PyProof.Rows
def Far2 (H : Hp) (b : Addr) : Prop := (∃ kvs, H b = some (.dK kvs)) ∨ ∃ xs, H b = some (.lst xs)
def spCut (sp : Sp) : Sp := fun vs H Q E => ∃ p a : Addr, Far2 H p ∧ Far2 H a ∧ sp vs (cut p a H) (fun v H' => ∀ Hm : Hp, Hm p = H p → Hm a = H a → (∀ b, b ≠ p → b ≠ a → Hm b = H' b) → H' p = none → H' a = none → Q v Hm) E
theorem cut_none {p q b : Addr} {H : Hp} (e : H b = none) : cut p q H b = none := by
  unfold cut
  split
  · rfl
  · exact e
theorem cut_at1 {p q : Addr} {H : Hp} : cut p q H p = none := by unfold cut; rw [if_pos (.inl rfl)]
theorem cut_at2 {p q : Addr} {H : Hp} : cut p q H q = none := by unfold cut; rw [if_pos (.inr rfl)]
theorem Far2.ne {H : Hp} {b c : Addr} {o : HO} (f : Far2 H b) (e : H c = some o) (h1 : ∀ kvs, o ≠ .dK kvs) (h2 : ∀ xs, o ≠ .lst xs) : c ≠ b := fun z => by
  subst z
  rcases f with ⟨_, g⟩ | ⟨_, g⟩
  · rw [g] at e; exact h1 _ (Option.some.inj e).symm
  · rw [g] at e; exact h2 _ (Option.some.inj e).symm
section
variable {P : Program} {w : World} {K : PySem.W.Frag} {mg : Str → Option Value} {base : Heap} {k : Nat} {f : Addr} {fd : FuncData} {ps : List Str} {sp : Sp}
theorem Far2.at {H : Hp} {h h' : Heap} {b : Addr} {o : HO} (f : Far2 H b) (e : H b = some o) (x : ObjOk P w H h b o) (kk : ∀ u, h.get? b = some u → h'.get? b = some u) {H' : Hp} : ObjOk P w H' h' b o := by
  rcases f with ⟨_, g⟩ | ⟨_, g⟩
  · rw [g] at e
    cases e
    obtain ⟨z, y, vs, r, ob, es, ep, e, c⟩ := x
    exact ⟨z, y, vs, r, ob, es, ep, kk _ e, c⟩
  · rw [g] at e
    cases e
    obtain ⟨z, its, n, r, e⟩ := x
    exact ⟨z, its, n, r, kk _ e⟩
theorem Far2.real {H : Hp} {h : Heap} {b : Addr} (f : Far2 H b) (x : HOk P w H h) : ∃ o, h.get? b = some o := by
  rcases f with ⟨_, g⟩ | ⟨_, g⟩
  · obtain ⟨z, y, vs, r, ob, es, ep, e, c⟩ := x _ _ g
    exact ⟨_, e⟩
  · obtain ⟨z, its, n, r, e⟩ := x _ _ g
    exact ⟨_, e⟩
theorem _root_.L2.FnOk.cut2 (F : FnOk P w K mg base CX0 k f fd ps sp) : FnOk P w K mg base CX0 k f fd ps (spCut sp) := by
  refine ⟨fun vs H Q E h => ?_, fun A outer s H args us vs Q E hr he hb hv h => ?_⟩
  · obtain ⟨p, a, _, _, h⟩ := h
    exact F.len _ _ _ _ h
  · obtain ⟨p, a, fp, fa, h⟩ := h
    have sub := cut_same p a H
    have keep : ∀ c o, H c = some o → (∀ kvs, o ≠ .dK kvs) → (∀ xs, o ≠ .lst xs) → cut p a H c = some o := fun c o e h1 h2 => cut_of e (fp.ne e h1 h2) (fa.ne e h1 h2)
    have hok0 : HOk P w (cut p a H) s.heap := fun b o e => (he.hok b o (sub b o e)).stay (fun _ _ _ q => q) (fun c q => keep c _ q (fun _ z => by cases z) fun _ z => by cases z) fun c xs q => keep c _ q (fun _ z => by cases z) fun _ z => by cases z
    have he0 : Env0 P w K mg base A outer s (cut p a H) := ⟨he.frames, he.mod, fun b o e => ⟨(he.bs b o e).1, cut_none (he.bs b o e).2⟩, he.bsz, he.funs, fun b hb => cut_none (he.frf b hb), hok0, he.bare⟩
    refine codeAny_mono (F.run A outer s (cut p a H) args us vs _ E hr he0 hb hv h) fun r s' hq => ?_
    cases r with
    | error e => exact hq
    | ok fl =>
      cases fl with
      | next => exact hq
      | brk => exact hq
      | cont => exact hq
      | ret u =>
        obtain ⟨v, H', os, bare, un, hok, rv, q⟩ := hq
        obtain ⟨op, hop⟩ := fp.real he.hok
        obtain ⟨oa, hoa⟩ := fa.real he.hok
        have np : H' p = none := un.free p op hop cut_at1 (by simp)
        have na : H' a = none := un.free a oa hoa cut_at2 (by simp)
        have fr : ∀ {b o}, H b = some o → b ∉ frs outer := fun e z => by rw [he.frf _ z] at e; cases e
        have m1 : ∀ b, b = p ∨ b = a → (fun b => if b = p ∨ b = a then H b else H' b : Hp) b = H b := fun b z => if_pos z
        have m2 : ∀ b, ¬ (b = p ∨ b = a) → (fun b => if b = p ∨ b = a then H b else H' b : Hp) b = H' b := fun b z => if_neg z
        have m3 : ∀ {b o}, H' b = some o → ¬ (b = p ∨ b = a) := fun e z => by
          rcases z with z | z
          · rw [z, np] at e; cases e
          · rw [z, na] at e; cases e
        have q' := q _ (m1 p (.inl rfl)) (m1 a (.inr rfl)) (fun b h1 h2 => m2 b fun z => z.elim h1 h2) np na
        generalize (fun b => if b = p ∨ b = a then H b else H' b : Hp) = Hm at *
        refine ⟨v, Hm, os, bare, ⟨fun b o e n => un.keep b o e (cut_none n), fun b o e n => un.slot b o e (cut_none n), fun b o e n hx => ?_, un.there, fun b xs e => ?_, fun b o u e => ?_, fun b pz e => ?_⟩, fun b o e => ?_, rv, q'⟩
        · by_cases c : b = p ∨ b = a
          · rw [m1 b c]; exact n
          · rw [m2 b c]; exact un.free b o e (cut_none n) hx
        · by_cases c : b = p ∨ b = a
          · rw [m1 b c]; exact e
          · rw [m2 b c]; exact un.tups b xs (cut_of e (fun z => c (.inl z)) fun z => c (.inr z))
        · by_cases c : b = p ∨ b = a
          · rw [m1 b c]; exact e
          · rw [m2 b c]; exact un.frzs b o u (cut_of e (fun z => c (.inl z)) fun z => c (.inr z))
        · by_cases c : b = p ∨ b = a
          · rw [m1 b c]; exact ⟨#[], by simpa using e⟩
          · rw [m2 b c]; exact un.tbls b pz (cut_of e (fun z => c (.inl z)) fun z => c (.inr z))
        · by_cases c : b = p ∨ b = a
          · rw [m1 b c] at e
            have hb : Far2 H b ∧ cut p a H b = none := c.elim (fun z => by subst z; exact ⟨fp, cut_at1⟩) fun z => by subst z; exact ⟨fa, cut_at2⟩
            exact hb.1.at e (he.hok b o e) fun u hu => un.keep b u hu hb.2 (fr e) (by simp)
          · rw [m2 b c] at e
            exact (hok b o e).stay (fun _ _ _ q => q) (fun d q => by rw [m2 d (m3 q)]; exact q) fun d xs q => by rw [m2 d (m3 q)]; exact q
theorem Df.cut2 {x : Str} {dvs : List V} (D : Df P w K mg base k x ps dvs sp) : Df P w K mg base k x ps dvs (spCut sp) := by
  obtain ⟨f, fd, ds, F, h⟩ := D.ex
  exact ⟨f, fd, ds, F.cut2, h⟩
end
/-! C(e, .., k = v, ..) -/
structure DmK (P : Program) (w : World) (K : PySem.W.Frag) (mg : Str → Option Value) (base : Heap) (k : Nat) (C : Addr) (ps : List Str) (n : Nat) (ks : List Str) (gV : List V → List V → List V) (sp : Sp) : Prop where
  ex : ∃ (f : Addr) (fd : FuncData) (g : List Value → List Value → List Value), FnOk P w K mg base CX0 k f fd ps sp ∧ Mk K C f ∧ KBn K fd ps (n + 1) ks g gV
section
variable {X : Cx} {k n : Nat} {C : Addr} {x : Str} {ps ks : List Str} {sp : Sp} {e : Expr} {es : List Expr} {kws : List Keyword} {t tk : TA} {pos p : Pos} {gV : List V → List V → List V}
theorem pe_dmakeK (D : DmK X.prog X.w X.K X.mg X.base k C ps n ks gV sp) (hm : X.mg x = some (.ref C)) (hr : Room (k + 1) X.A) (ha : PA X (e :: es) t) (hkw : PK X kws tk) (hg : Gl X x := by rfl)
    (hall : (backToKw pos (keywordEach kws X.env)).all (·.1.isSome) = true := by rfl) (hks : (backToKw pos (keywordEach kws X.env)).filterMap (·.1) = ks := by rfl) (hdb : (x == ("__debug__" : Str)) = false := by decide)
    (he : starEach (e :: es) X.env = (false, eval e X.env) :: starEach es X.env := by rfl) (hpl : ((backTo pos (starEach (e :: es) X.env)).any (·.1) || (backToKw pos (keywordEach kws X.env)).any (·.1.isNone)) = false := by rfl) :
    PE X (.Call (.Name x p) (e :: es) kws pos) (tMakeK C n ks.length sp gV E0 t tk) := by
  obtain ⟨f, fd, g, F, M, b⟩ := D.ex
  exact pe_makeK M F hr hg hm b pass0 ha hkw hall hks hdb he hpl
end
end Cf
set_option maxHeartbeats 4000000
/-! Own layer: sorted(d) of a dict whose keys are numbers, however many. -/
namespace Cf
open PySem PySem.Spec PyProof.Rows L2
def rSortedDL : List V → Hp → VK → Prop := fun xs H Q => ∃ (d : Addr) (es : List (Key × V)) (ns : List Int), xs = [.ref d] ∧ H d = some (.dK es) ∧ es.map (·.1) = ns.map Sum.inl ∧
  ∀ (zs : List Int) (l : Addr), zs.Perm ns → H l = none → Q (.ref l) (upd H l (.lst (zs.map V.int)))
theorem call_sortedDL {X : Cx} (calm : X.calm = true) : CallR X (.builtin "sorted") rSortedDL := by
  intro pins σs σv H0 xs us Q0 I0 rx hq
  obtain ⟨d, es, ns, rfl, hd0, hkk, fin⟩ := hq
  obtain ⟨du, rfl, rdu⟩ := vals1 rx
  cases rdu
  obtain ⟨zl, nsm, ws, krel, dof⟩ := dk_rd I0.hok (.of hd0)
  obtain ⟨epo, dat⟩ := dof.dictAt
  have kws : ws.map (·.1) = ns.map Sum.inl := krel.keys.symm.trans hkk
  have lws : ws.length = ns.length := by
    have := congrArg List.length kws
    simpa using this
  have zws : ws.length ≤ sizeLine := by rw [← krel.length]; exact zl
  refine Calls.call_function_entry kind_sorted plain_sorted entry_sorted (args_sorted1 _) ?_
  unfold Builtin.«sorted»
  refine wpAny_bind (m := checkCount "sorted" 1 1 _) (wpAny_pure ?_)
  refine wpAny_bind (PySem.W.kdu_collect (A := X.A.in1) (PySem.W.kdl_dict (knd := mixKind X.prog X.w) (kvs := ws) (ep := epo) nsm) (I0.ok.hd calm) dat zws fun h1 t1 got kp hgot => ?_)
  have lgot : got.toList.length = ns.length := by rw [Array.length_toList, hgot.1, lws]
  have isI : IntsAre got.toList ns := ints_each lgot fun j v e => by
    obtain ⟨ky, vx, f1, f2⟩ := hgot.2 j v (by rw [← Array.getElem?_toList]; exact e)
    have f3 : (ws.map (·.1))[j]? = some ky := by rw [List.getElem?_map, f1]; rfl
    rw [kws, List.getElem?_map] at f3
    cases f4 : ns[j]? with
    | none => rw [f4] at f3; cases f3
    | some y =>
      rw [f4] at f3
      cases (show Sum.inl y = ky from Option.some.inj f3)
      rcases keyIs_shape (show keyIs (Sum.inl y) v = true from f2) with ⟨i, t, g1, g2⟩ | ⟨z, t, g1, g2⟩
      · cases g1
        exact ⟨y, t, rfl, g2⟩
      · cases g1
  have I1 : Inv X pins σv H0 { σs with heap := h1, toks := t1 } := I0.kept kp
  have zgot : got.toList.length ≤ sizeLine := by rw [lgot, ← lws]; exact zws
  refine wpAny_bind (wpAny_newList ?_ zgot)
  have oL : (h1.push (seqObj "list" got.toList.toArray 0)).get? h1.objs.size = some (seqObj "list" got.toList.toArray 0) := Heap.get?_push_size _ rfl
  show wpAny _ _ _ _ _ { σs with heap := h1.push (seqObj "list" got.toList.toArray 0), toks := t1 }
  refine wpAny_bind (wpAny_holding (wpAny_call_entry slot_list_sort ⟨_, oL, rfl⟩ entry_list_sort
    (SrtO.list_sort_ord (s := { σs with heap := h1.push (seqObj "list" got.toList.toArray 0), toks := t1 }) SrtO.swo_int oL zgot (fun h2 => SrtO.ints_sortable isI h2) fun out r1 r2 => ⟨_, rfl, ?_⟩) (args_list_sort _)))
  obtain ⟨k1, k2, k3⟩ := SrtO.ints_out isI r1 r2
  obtain ⟨en, hat⟩ := sortedHeap_at (vs := got.toList) (out := out.toArray) oL
  have zout : ((out.map SrtO.iv).map V.int).length ≤ sizeLine := by
    rw [List.length_map, k2.length_eq, ← lgot]; exact zgot
  refine wpAny_pure ⟨_, rfl, .ref h1.objs.size, upd H0 h1.objs.size (.lst ((out.map SrtO.iv).map V.int)), I1.laid (t' := t1) (fun b u e => ?_) (Nat.le_refl _)
    (show ObjOk X.prog X.w _ _ _ (.lst ((out.map SrtO.iv).map V.int)) from ⟨zout, out, en, vals_of_ints k1, hat⟩), rfl, fin _ _ k2 (I1.hok.fresh (Nat.le_refl _))⟩
  have lb : b < h1.objs.size := Heap.lt_size e
  rw [sortedHeap_old (Nat.ne_of_lt lb) (by rw [size_push']; exact Nat.lt_succ_of_lt lb)]
  exact Heap.get?_push_of_some _ e
/-- what the keys of a dict of such pairs are -/
theorem putK_keys {es : List (Key × V)} {i : Int} {v : V} {A : Int → Prop} {ns : List Int} (h : es.map (·.1) = ns.map Sum.inl) (hA : ∀ n ∈ ns, A n) (hi : A i) : ∃ ns' : List Int, (putK es (Sum.inl i) v).map (·.1) = ns'.map Sum.inl ∧ (∀ n ∈ ns', A n) ∧ ns'.length ≤ ns.length + 1 := by
  unfold putK
  split
  · refine ⟨ns, ?_, hA, Nat.le_succ _⟩
    rw [← h, List.map_map]
    refine List.map_congr_left fun x _ => ?_
    show (if x.1 = _ then _ else _ : Key × V).1 = x.1
    split
    · rfl
    · rfl
  · refine ⟨ns ++ [i], ?_, fun n hn => ?_, by simp⟩
    · rw [List.map_append, List.map_append, h]; rfl
    · rcases List.mem_append.mp hn with g | g
      · exact hA n g
      · cases List.mem_singleton.mp g; exact hi
theorem mergeK_keys {A : Int → Prop} : ∀ {ps : List (Int × V)} {es : List (Key × V)} {ns : List Int}, es.map (·.1) = ns.map Sum.inl → (∀ n ∈ ns, A n) → (∀ p ∈ ps, A p.1) → ∃ ns' : List Int, (mergeK es (ps.map fun p => ((Sum.inl p.1 : Key), p.2))).map (·.1) = ns'.map Sum.inl ∧ (∀ n ∈ ns', A n) ∧ ns'.length ≤ ns.length + ps.length
  | [], es, ns, h, hA, _ => ⟨ns, h, hA, Nat.le_refl _⟩
  | p :: ps, es, ns, h, hA, hp => by
    obtain ⟨n1, e1, a1, l1⟩ := putK_keys (v := p.2) h hA (hp p (List.mem_cons_self ..))
    obtain ⟨n2, e2, a2, l2⟩ := mergeK_keys (ps := ps) e1 a1 fun q hq => hp q (List.mem_cons_of_mem _ hq)
    exact ⟨n2, e2, a2, by simp only [List.length_cons]; omega⟩
end Cf
namespace Cf
open PySem L2
def top (i : Nat) : Stmt := PySem.Challenge.pw_clockfolds_k27_offsets_at_instants.main.body.getD i (.Pass ⟨0, 0, 0, 0⟩)
abbrev sWall : Stmt := top 0
abbrev clClockError : Stmt := top 2
abbrev clBadNumber : Stmt := top 3
abbrev sBadNumberInit : Stmt := inClass (top 3) 0
abbrev clBadRow : Stmt := top 4
abbrev sBadRowInit : Stmt := inClass (top 4) 0
abbrev clBadOrder : Stmt := top 5
abbrev sBadOrderInit : Stmt := inClass (top 5) 0
abbrev clBadZone : Stmt := top 6
abbrev sBadZoneInit : Stmt := inClass (top 6) 0
abbrev sIsNumber : Stmt := top 11
abbrev sCheckNumber : Stmt := top 12
abbrev sIsLeap : Stmt := top 13
abbrev sLeapYearsBefore : Stmt := top 14
abbrev sYearStart : Stmt := top 15
abbrev sMonthLength : Stmt := top 16
abbrev sMonthStart : Stmt := top 17
abbrev sYearOf : Stmt := top 18
abbrev sWeekday : Stmt := top 19
abbrev sKindOf : Stmt := top 20
abbrev sInBounds : Stmt := top 25
abbrev sIsYearly : Stmt := top 26
abbrev sAllKinds : Stmt := top 27
abbrev sOnOrAfter : Stmt := top 28
abbrev sOnOrBefore : Stmt := top 29
abbrev sNumberIn : Stmt := top 30
abbrev sIsOffset : Stmt := top 34
abbrev sCheckOffset : Stmt := top 35
abbrev sIsRow : Stmt := top 36
abbrev sRowSeconds : Stmt := top 37
abbrev sFirstMisplaced : Stmt := top 38
abbrev sCheckOrder : Stmt := top 39
abbrev sCheckRule : Stmt := top 40
abbrev sChangesIn : Stmt := top 41
abbrev sRuleTable : Stmt := top 42
abbrev sLastChange : Stmt := top 43
abbrev sRuleRun : Stmt := top 44
abbrev sIsChange : Stmt := top 45
abbrev sCheckChanges : Stmt := top 46
abbrev sRealChanges : Stmt := top 47
abbrev sRuledFrom : Stmt := top 48
abbrev clZone : Stmt := top 49
abbrev sZoneInit : Stmt := inClass (top 49) 0
abbrev sZoneFollow : Stmt := inClass (top 49) 1
abbrev sZoneFixed : Stmt := inClass (top 49) 2
abbrev sZoneEq : Stmt := inClass (top 49) 3
abbrev sZoneTold : Stmt := inClass (top 49) 4
abbrev sZoneForm : Stmt := inClass (top 49) 5
abbrev sZoneOffsetAt : Stmt := inClass (top 49) 6
abbrev sZoneChanges : Stmt := inClass (top 49) 7
abbrev sZoneNextChange : Stmt := inClass (top 49) 8
abbrev sZoneFirstUnlike : Stmt := inClass (top 49) 9
abbrev sLawBegun : Stmt := top 51
abbrev sLawMixed : Stmt := top 52
abbrev sLawTake : Stmt := top 53
abbrev sLawPick : Stmt := top 54
abbrev sLawNewYear : Stmt := top 55
abbrev sLawMonth : Stmt := top 56
abbrev sLawNamed : Stmt := top 57
abbrev sLawYear : Stmt := top 58
abbrev sLawTurns : Stmt := top 59
abbrev sLawOffset : Stmt := top 60
abbrev sLawSpots : Stmt := top 61
abbrev sLawYearly : Stmt := top 62
abbrev sLawTwin : Stmt := top 63
abbrev sLawRule : Stmt := top 64
abbrev sLawChanges : Stmt := top 65
abbrev sLawZone : Stmt := top 66
abbrev sLawMade : Stmt := top 67
abbrev sLawIsRefused : Stmt := top 68
abbrev sLaw : Stmt := top 69
set_option hygiene false
local macro_rules | `(tactic| walk_at "len") => `(tactic| repeat (first | (obtain ⟨e, _⟩ := h; subst e; rfl; done) | (obtain ⟨_, h⟩ := h)))
local macro_rules | `(tactic| walk_at "rd") => `(tactic| repeat (first | refine ⟨_, rfl, ?_⟩ | refine ⟨_, _, rfl, rfl, ?_⟩ | refine ⟨rfl, ?_⟩ | refine ⟨_, _, rfl, ?_⟩))
local macro_rules | `(tactic| walk_at "yes") => `(tactic| (dsimp only [tYes]; rw [if_pos rfl]))
set_option hygiene true
/-! ### the law's draws: a dict with the lists wide and cells and the numbers rest and turn -/
/-- the state of the draws at p: its lists at a and b, at most n numbers mixed so far -/
def stK (a b : Addr) (rest turn : Int) : List (Key × V) := [(Sum.inr "wide", V.ref a), (Sum.inr "cells", V.ref b), (Sum.inr "rest", V.int rest), (Sum.inr "turn", V.int turn)]
theorem kwc : ¬ (Sum.inr ("wide" : Str) : Key) = Sum.inr ("cells" : Str) := by decide +kernel
theorem kwr : ¬ (Sum.inr ("wide" : Str) : Key) = Sum.inr ("rest" : Str) := by decide +kernel
theorem kcr : ¬ (Sum.inr ("cells" : Str) : Key) = Sum.inr ("rest" : Str) := by decide +kernel
theorem kwt : ¬ (Sum.inr ("wide" : Str) : Key) = Sum.inr ("turn" : Str) := by decide +kernel
theorem kct : ¬ (Sum.inr ("cells" : Str) : Key) = Sum.inr ("turn" : Str) := by decide +kernel
theorem krt : ¬ (Sum.inr ("rest" : Str) : Key) = Sum.inr ("turn" : Str) := by decide +kernel
theorem ktr : ¬ (Sum.inr ("turn" : Str) : Key) = Sum.inr ("rest" : Str) := by decide +kernel
theorem stK_wide {a b : Addr} {r t : Int} : valV (stK a b r t) (Sum.inr ("wide" : Str) : Key) = some (V.ref a) := by
  unfold stK
  exact valV_pos rfl
theorem stK_cells {a b : Addr} {r t : Int} : valV (stK a b r t) (Sum.inr ("cells" : Str) : Key) = some (V.ref b) := by
  unfold stK
  rw [valV_neg kwc]
  exact valV_pos rfl
theorem stK_rest {a b : Addr} {r t : Int} : valV (stK a b r t) (Sum.inr ("rest" : Str) : Key) = some (V.int r) := by
  unfold stK
  rw [valV_neg kwr, valV_neg kcr]
  exact valV_pos rfl
theorem stK_turn {a b : Addr} {r t : Int} : valV (stK a b r t) (Sum.inr ("turn" : Str) : Key) = some (V.int t) := by
  unfold stK
  rw [valV_neg kwt, valV_neg kct, valV_neg krt]
  exact valV_pos rfl
theorem nkk {x y : Str} (h : (x == y) = false) : ¬ (Sum.inr x : Key) = Sum.inr y := fun e => by
  have e2 := Sum.inr.inj e
  rw [e2] at h
  simp at h
theorem stK_put_rest (a b : Addr) (r t z : Int) : putK (stK a b r t) (Sum.inr ("rest" : Str) : Key) (V.int z) = stK a b z t := by
  unfold putK
  rw [valV_any, stK_rest]
  rw [if_pos (by rfl)]
  unfold stK
  simp only [List.map_cons, List.map_nil, if_neg kwr, if_neg kcr, if_neg ktr, if_true]
theorem stK_put_turn (a b : Addr) (r t z : Int) : putK (stK a b r t) (Sum.inr ("turn" : Str) : Key) (V.int z) = stK a b r z := by
  unfold putK
  rw [valV_any, stK_turn]
  rw [if_pos (by rfl)]
  unfold stK
  simp only [List.map_cons, List.map_nil, if_neg kwt, if_neg kct, if_neg krt, if_true]
theorem stK_merge (a b : Addr) (r t : Int) : mergeK [] (stK a b r t) = stK a b r t := by
  unfold mergeK stK
  simp only [List.foldl_cons, List.foldl_nil]
  rw [putK_new (kvs := []) _ valV_nil, List.nil_append, putK_new, putK_new, putK_new]
  · rfl
  · rw [valV_neg kwc, valV_nil]
  · rw [valV_put, if_neg (fun e => kcr e.symm), valV_neg kwr, valV_nil]
  · rw [valV_put, if_neg (fun e => krt e.symm), valV_put, if_neg (fun e => kct e.symm), valV_neg kwt, valV_nil]
section
variable {H : Hp} {p a b : Addr} {r t z : Int}
theorem get_wide (h : H p = some (.dK (stK a b r t))) : DGet H p (.str "wide") (some (.ref a)) := by
  have q := DGet.k (k := Sum.inr ("wide" : Str)) h
  rw [stK_wide] at q
  exact q
theorem get_cells (h : H p = some (.dK (stK a b r t))) : DGet H p (.str "cells") (some (.ref b)) := by
  have q := DGet.k (k := Sum.inr ("cells" : Str)) h
  rw [stK_cells] at q
  exact q
theorem get_rest (h : H p = some (.dK (stK a b r t))) : DGet H p (.str "rest") (some (.int r)) := by
  have q := DGet.k (k := Sum.inr ("rest" : Str)) h
  rw [stK_rest] at q
  exact q
theorem get_turn (h : H p = some (.dK (stK a b r t))) : DGet H p (.str "turn") (some (.int t)) := by
  have q := DGet.k (k := Sum.inr ("turn" : Str)) h
  rw [stK_turn] at q
  exact q
theorem put_rest (z : Int) (h : H p = some (.dK (stK a b r t))) : DPut H p (.str "rest") (.int z) (upd H p (.dK (stK a b z t))) := by
  have q := DPut.k (k := Sum.inr ("rest" : Str)) (v := V.int z) h (by show 4 < sizeLine; decide)
  rw [stK_put_rest] at q
  exact q
theorem put_turn (z : Int) (h : H p = some (.dK (stK a b r t))) : DPut H p (.str "turn") (.int z) (upd H p (.dK (stK a b r z))) := by
  have q := DPut.k (k := Sum.inr ("turn" : Str)) (v := V.int z) h (by show 4 < sizeLine; decide)
  rw [stK_put_turn] at q
  exact q
end
structure Stt (p a b : Addr) (n : Nat) (H : Hp) : Prop where
  ex : ∃ (ws cs : List Int) (rest turn : Int), H p = some (.dK (stK a b rest turn)) ∧ H a = some (.lst (ws.map V.int)) ∧ H b = some (.lst (cs.map V.int)) ∧ 0 ≤ turn ∧ turn ≤ (n : Int) ∧ cs.length ≤ 63 ∧ ws.length ≤ 63
  ab : a ≠ b
theorem Stt.pa {p a b : Addr} {n : Nat} {H : Hp} (S : Stt p a b n H) : p ≠ a := by
  obtain ⟨ws, cs, rest, turn, h1, h2, _⟩ := S.ex
  exact ne_of h1 h2 (by intro z; cases z)
theorem Stt.pb {p a b : Addr} {n : Nat} {H : Hp} (S : Stt p a b n H) : p ≠ b := by
  obtain ⟨ws, cs, rest, turn, h1, _, h2, _⟩ := S.ex
  exact ne_of h1 h2 (by intro z; cases z)
theorem Stt.mono {p a b : Addr} {n m : Nat} {H : Hp} (S : Stt p a b n H) (h : n ≤ m) : Stt p a b m H := by
  obtain ⟨⟨ws, cs, rest, turn, h1, h2, h3, h4, h5, h6, h7⟩, h8⟩ := S
  exact ⟨⟨ws, cs, rest, turn, h1, h2, h3, h4, by omega, h6, h7⟩, h8⟩
theorem Stt.same {p a b : Addr} {n : Nat} {H H' : Hp} (S : Stt p a b n H) (h : Same H H') : Stt p a b n H' := by
  obtain ⟨⟨ws, cs, rest, turn, h1, h2, h3, h4⟩, h8⟩ := S
  exact ⟨⟨ws, cs, rest, turn, h _ _ h1, h _ _ h2, h _ _ h3, h4⟩, h8⟩
theorem Stt.there {p a b : Addr} {n : Nat} {H : Hp} (S : Stt p a b n H) : ∃ u v w, H p = some (.dK u) ∧ H a = some (.lst v) ∧ H b = some (.lst w) := by
  obtain ⟨⟨ws, cs, rest, turn, h1, h2, h3, _⟩, _⟩ := S
  exact ⟨_, _, _, h1, h2, h3⟩
theorem eqv_ints_nil (ws : List Int) : PyData.eqv (.list (ws.map PyData.int)) (.list []) = ws.isEmpty := by
  cases ws with
  | nil => rfl
  | cons w ws => simp [PyData.eqv, PyData.eqvAll]
theorem dpInts {K : PySem.W.Frag} {H : Hp} : ∀ ws : List Int, DpAll K H (ws.map V.int) (ws.map PyData.int)
  | [] => .nil
  | w :: ws => .cons (.int w) (dpInts ws)
theorem canLay_ints : ∀ ws : List Int, PyData.canLayAll0 (ws.map PyData.int) = true
  | [] => rfl
  | w :: ws => by simp [PyData.canLayAll0, PyData.canLay0, canLay_ints ws]
theorem depth_ints : ∀ ws : List Int, PyData.depthAll (ws.map PyData.int) ≤ 1
  | [] => by simp [PyData.depthAll]
  | w :: ws => by have := depth_ints ws; simp only [List.map_cons, PyData.depthAll, PyData.depth]; omega
theorem shaped_ints (ws : List Int) : SeqAt.shaped (.list (ws.map PyData.int)) = true := by
  unfold SeqAt.shaped
  rw [Bool.and_eq_true]
  refine ⟨?_, decide_eq_true ?_⟩
  · simp only [PyData.canLay0]; exact canLay_ints ws
  · have := depth_ints ws
    simp only [PyData.depth]; omega
theorem seq0 {y : Int} (xs : List V) : seqIndex? 0 (V.int y :: xs).length = some 0 := by
  unfold seqIndex?
  simp
/-! ### what the text's built-in names mean -/
structure Nm (mg : Str → Option Value) : Prop where
  abs : mg "abs" = none
  int : mg "int" = none
  bool : mg "bool" = none
  isinstance : mg "isinstance" = none
  sum : mg "sum" = none
  divmod : mg "divmod" = none
  min : mg "min" = none
  len : mg "len" = none
  range : mg "range" = none
  repr : mg "repr" = none
  max : mg "max" = none
  tuple : mg "tuple" = none
  str : mg "str" = none
  all : mg "all" = none
  enumerate : mg "enumerate" = none
  zip : mg "zip" = none
  sorted : mg "sorted" = none
  reversed : mg "reversed" = none
  list : mg "list" = none
  dict : mg "dict" = none
section
variable {P : Program} {w : World} {K : PySem.W.Frag} {mg : Str → Option Value} {base : Heap}
/-! ### _law_begun -/
def spBegun (K : PySem.W.Frag) : Sp := fun vs H Q _ => ∃ (l : Addr) (ns : List Int), vs = [.ref l] ∧ SqL K H l (ns.map V.int) ∧ ns.length ≤ 63 ∧
  ∀ (H' : Hp) (p a b : Addr), H p = none → H a = none → H b = none → Same H H' → Stt p a b 0 H' → Q (.ref p) H'
theorem scLawBegun : FnScope ["script", "wide", "cell"] ["script"] (defScope sLawBegun) := ⟨rfl, rfl, rfl, by decide +kernel, rfl, by decide +kernel, by decide +kernel⟩
theorem absI (z : Int) : (if z < 0 then -z else z) = (z.natAbs : Int) := by
  by_cases h : z < 0
  · rw [if_pos h]; omega
  · rw [if_neg h]; omega
theorem ok_begun {f : Addr} {fd : FuncData} (F : Fun K "_law_begun" "_law_begun" sLawBegun f fd) (T : Nm mg) : FnOk P w K mg base CX0 1 f fd ["script"] (spBegun K) := by
  refine F.ok scLawBegun (fun vs H Q E h => ?_) (fun cdv A outer s H vs Q E hr h => ?_)
  · obtain ⟨l, ns, rfl, _⟩ := h
    rfl
  · obtain ⟨l, ns, rfl, hS, hlen, k⟩ := h
    have nd := scLawBegun.nd
    refine ⟨_, pss_cons (ps_setLc (i := 1) (own := [("cell", 2)]) (g := gName 2) rfl nd rfl rfl (sw_true rfl rfl rfl (by decide +kernel)) (pi_list (pv 0))
        (blkOk_by (N := ["script", "wide", "cell"]) (sc := defScope sLawBegun) (by decide +kernel)) (fun _ _ _ _ _ => pg_name (i := 2) nd rfl (Or.inl rfl))
        (fun _ _ _ _ _ => pts_one (pt_cmpR op_ge (pe_callB call_abs (by rfl) T.abs (by decide +kernel) (pa_cons (pv 2) pa_nil)) (pe_op op_pow pe_int pe_int) (nomark _)))
        (fun _ _ _ _ _ => pe_op op_sub (pe_callB call_abs (by rfl) T.abs (by decide +kernel) (pa_cons (pv 2) pa_nil)) (pe_op op_pow pe_int pe_int)))
      (pss_one (ps_ret (pe_disp (pps_cons pe_str (pv 1) (pps_cons pe_str
        (pe_lc (own := [("cell", 2)]) (g := gName 2) (tt := tYes) rfl nd (pi_list (pv 0)) (blkOk_by (N := ["script", "wide", "cell"]) (sc := defScope sLawBegun) (by decide +kernel)) (fun _ _ _ _ _ => pg_name (i := 2) nd rfl (Or.inl rfl)) (fun _ _ _ _ _ => pts_nil)
          (fun _ _ _ _ _ => pe_op op_mod (pe_callTy call_int1 (by rfl) T.int (by decide +kernel) (pa_cons (pe_callB call_abs (by rfl) T.abs (by decide +kernel) (pa_cons (pv 2) pa_nil)) pa_nil)) pe_int))
        (pps_cons pe_str pe_int (pps_cons pe_str pe_int pps_nil)))) (by rfl) (by rfl) (fun z => by cases z) (by decide)))), ?_⟩
    have cp : CPow 10 18 := ⟨by decide, by decide, by decide⟩
    -- the first list
    refine ⟨_, rfl, l, rfl, ⟨_, hS⟩, fun D hD => lc_list (K := K) (a := l) (xs := ns.map V.int) (fun i H' => Same H H' ∧ ∃ acc : List Int, acc.length ≤ i ∧ H' D = some (.lst (acc.map V.int)))
      ⟨Same.new hD, [], Nat.le_refl _, upd_same⟩ (fun i H' _ ⟨s1, _⟩ => s1.seq hS) ?_ ?_⟩
    · rintro i y H' hi ⟨s1, acc, hacc, hDl⟩
      have hil := lt_of_get hi
      rw [List.length_map] at hil
      obtain ⟨z, hz, rfl⟩ := ints_get hi
      refine ⟨rfl, ?_⟩
      refine ⟨_, rfl, _, rfl, _, _, rfl, rfl, cp, _, _, rfl, rfl, _, rfl, ?_⟩
      refine ite2 (fun _ => ?_) (fun _ => ?_)
      · refine ⟨_, rfl, _, rfl, _, _, rfl, rfl, cp, _, _, rfl, rfl, acc.map V.int, hDl, ?_, ?_⟩
        · rw [List.length_map]
          exact small1000 (by omega)
        · refine ⟨s1.wr hD, acc ++ [(if z < 0 then -z else z) - 10 ^ 18], ?_, ?_⟩
          · rw [List.length_append, List.length_singleton]; omega
          · rw [upd_same, List.map_append]; rfl
      · exact ⟨s1, acc, by omega, hDl⟩
    · rintro H1 ⟨s1, acc, hacc, hDl⟩
      rw [List.length_map] at hacc
      -- the dict, empty; its pairs
      intro p hp
      have npD : D ≠ p := ne_of_none hDl hp
      have s2 : Same H (upd H1 p (.dK [])) := s1.step hp
      refine ⟨_, rfl, _, rfl, l, rfl, ⟨_, s2.seq hS⟩, fun B hB => lc_list (K := K) (a := l) (xs := ns.map V.int) (fun i H' => Same (upd H1 p (.dK [])) H' ∧ ∃ cs : List Int, cs.length ≤ i ∧ H' B = some (.lst (cs.map V.int)))
        ⟨Same.new hB, [], Nat.le_refl _, upd_same⟩ (fun i H' _ ⟨s3, _⟩ => (s2.trans s3).seq hS) ?_ ?_⟩
      · rintro i y H' hi ⟨s3, cs, hcs, hBl⟩
        have hil := lt_of_get hi
        rw [List.length_map] at hil
        obtain ⟨z, hz, rfl⟩ := ints_get hi
        refine ⟨rfl, ?_⟩
        dsimp only [tYes]
        rw [if_pos rfl]
        refine ⟨_, rfl, _, rfl, .inl ⟨_, rfl, _, _, rfl, rfl, (by show (0 : Int) < 2147483629; decide), cs.map V.int, hBl, ?_, ?_⟩⟩
        · rw [List.length_map]
          exact small1000 (by omega)
        · refine ⟨s3.wr hB, cs ++ [(if z < 0 then -z else z) % 2147483629], ?_, ?_⟩
          · rw [List.length_append, List.length_singleton]; omega
          · rw [upd_same, List.map_append]; rfl
      · rintro H2 ⟨s3, cs, hcs, hBl⟩
        rw [List.length_map] at hcs
        have hp2 : H2 p = some (.dK []) := s3 _ _ upd_same
        refine ⟨hp2, stK D B 0 0, rfl, (by show 4 ≤ 15; decide), ?_⟩
        have nBp : B ≠ p := ne_of hBl hp2 (by intro z; cases z)
        have hDl2 : H2 D = some (.lst (acc.map V.int)) := s3 _ _ (by rw [upd_ne npD]; exact hDl)
        have nDB : D ≠ B := ne_of_none (show (upd H1 p (.dK [])) D = some _ by rw [upd_ne npD]; exact hDl) hB
        refine k _ p D B (s1.free hp) hD (s1.free (by rw [upd_ne nBp] at hB; exact hB)) ?_ ⟨⟨acc, cs, 0, 0, ?_, ?_, ?_, by decide, by decide, by omega, by omega⟩, nDB⟩
        · exact (s2.trans s3).wr (s1.free hp)
        · rw [upd_same, stK_merge]
        · rw [upd_ne npD]; exact hDl2
        · rw [upd_ne nBp]; exact hBl
/-! ### _law_mixed -/
def spMixed : Sp := fun vs H Q _ => ∃ (p a b : Addr) (n : Nat), vs = [.ref p] ∧ Stt p a b n H ∧ n ≤ 1000000 ∧
  ∀ (z : Int) (H' : Hp), Stt p a b (n + 1) H' → But p a H H' → Q (.int z) H'
theorem scLawMixed : FnScope ["state", "turn", "found", "prime", "blend", "cell"] ["state"] (defScope sLawMixed) := ⟨rfl, rfl, rfl, by decide +kernel, rfl, by decide +kernel, by decide +kernel⟩
theorem ok_mixed {f : Addr} {fd : FuncData} (F : Fun K "_law_mixed" "_law_mixed" sLawMixed f fd) (T : Nm mg) : FnOk P w K mg base CX0 1 f fd ["state"] spMixed := by
  refine F.ok scLawMixed (fun vs H Q E h => ?_) (fun cdv A outer s H vs Q E hr h => ?_)
  · obtain ⟨p, a, b, n, rfl, _⟩ := h
    rfl
  · obtain ⟨p, a, b, n, rfl, S, hn, k⟩ := h
    have nd := scLawMixed.nd
    have hu := hu_of hr
    have npa := S.pa
    have npb := S.pb
    obtain ⟨⟨ws, cs, rest, turn, h1, h2, h3, t0, t1, hcs, hws⟩, nab⟩ := S
    refine ⟨_, pss_cons (ps_par (i := 1) (j := 2) (by rfl) nd rfl rfl (by decide) rfl rfl (pa_cons (pe_op op_add (pe_dget hu (pv 0) pe_str (fun _ _ => rfl)) pe_int) (pa_cons pe_int pa_nil)) (by rfl))
      (pss_cons (ps_dput hu (pv 0) pe_str (pv 1) rfl)
      (pss_cons (ps_for PassesOwn.never rfl (pi_list (pe_lst (pa_cons pe_int (pa_cons pe_int (pa_cons pe_int (pa_cons pe_int pa_nil)))))) (pg_name (i := 3) nd rfl (Or.inl rfl))
        (pss_cons (ps_set (i := 4) nd rfl (Or.inl rfl) (pe_op op_add (pe_op op_mul pe_int (pv 1)) (pe_op op_fdiv (pv 3) pe_int)))
        (pss_cons (ps_for PassesOwn.never rfl (pi_list (pe_dget hu (pv 0) pe_str (fun _ _ => rfl))) (pg_name (i := 5) nd rfl (Or.inl rfl))
          (pss_one (ps_set (i := 4) nd rfl (Or.inl rfl) (pe_op op_mod (pe_callTy call_int1 (by rfl) T.int (by decide +kernel) (pa_cons (pe_op op_add (pe_op op_add (pe_op op_mul (pv 4) pe_int) (pv 5)) (pv 1)) pa_nil)) (pv 3)))))
        (pss_one (ps_set (i := 2) nd rfl (Or.inl rfl) (pe_op op_add (pe_op op_mul (pv 2) pe_int) (pe_op op_mod (pe_callTy call_int1 (by rfl) T.int (by decide +kernel) (pa_cons (pe_op op_pow (pv 4) pe_int) pa_nil)) (pv 3))))))))
      (pss_one (ps_ret (pv 2))))), ?_⟩
    -- turn, found = state['turn'] + 1, 0; state['turn'] = turn
    refine ⟨_, rfl, p, V.int turn, rfl, get_turn h1, _, _, rfl, rfl, _, _, rfl, ?_⟩
    refine ⟨_, rfl, _, rfl, p, _, rfl, put_turn (turn + 1) h1, ?_⟩
    -- the primes
    refine ⟨by show 4 ≤ sizeLine; decide, fun D hD => ?_⟩
    have npD : p ≠ D := ne_of_none (upd_same) hD
    have naD : a ≠ D := ne_of_none (show upd H p _ a = some _ by rw [upd_ne npa.symm]; exact h2) hD
    have nbD : b ≠ D := ne_of_none (show upd H p _ b = some _ by rw [upd_ne npb.symm]; exact h3) hD
    have hp' : upd (upd H p (.dK (stK a b rest (turn + 1)))) D (.lst [V.int 2147483629, V.int 2147483587, V.int 2147483579, V.int 2147483563]) p = some (.dK (stK a b rest (turn + 1))) := by rw [upd_ne npD, upd_same]
    have ha' : upd (upd H p (.dK (stK a b rest (turn + 1)))) D (.lst [V.int 2147483629, V.int 2147483587, V.int 2147483579, V.int 2147483563]) a = some (.lst (ws.map V.int)) := by rw [upd_ne naD, upd_ne npa.symm]; exact h2
    have hb' : upd (upd H p (.dK (stK a b rest (turn + 1)))) D (.lst [V.int 2147483629, V.int 2147483587, V.int 2147483579, V.int 2147483563]) b = some (.lst (cs.map V.int)) := by rw [upd_ne nbD, upd_ne npb.symm]; exact h3
    have hB : But p a H (upd (upd H p (.dK (stK a b rest (turn + 1)))) D (.lst [V.int 2147483629, V.int 2147483587, V.int 2147483579, V.int 2147483563])) := fun c o e c1 c2 => by
      have e2 : upd H p (.dK (stK a b rest (turn + 1))) c = some o := by rw [upd_ne c1]; exact e
      rw [upd_ne (ne_of_none e2 hD)]
      exact e2
    generalize hH2 : upd (upd H p (.dK (stK a b rest (turn + 1)))) D (.lst [V.int 2147483629, V.int 2147483587, V.int 2147483579, V.int 2147483563]) = H2 at hp' ha' hb' hB
    have hDl : H2 D = some (.lst ([2147483629, 2147483587, 2147483579, 2147483563].map V.int)) := by rw [← hH2]; exact upd_same
    have tb : turn + 1 ≤ 1000001 := by omega
    refine ⟨D, rfl, ⟨_, SqL.of hDl⟩, for_list (K := K) (a := D) (xs := [2147483629, 2147483587, 2147483579, 2147483563].map V.int)
      (fun i σ H' => H' = H2 ∧ ∃ (fo : Int) (v4 v5 v6 : Option V), σ = [some (.ref p), some (.int (turn + 1)), some (.int fo), v4, v5, v6]) ⟨rfl, 0, none, none, none, rfl⟩ (fun i σ H' _ ⟨e, _⟩ => by subst e; exact SqL.of hDl) ?_ ?_⟩
    · rintro i y σ H' hi ⟨rfl, fo, v4, v5, v6, rfl⟩
      obtain ⟨pr, hpr, rfl⟩ := ints_get hi
      have hp1 : 1000 < pr ∧ pr < 2147483648 := by
        have hm := List.mem_of_getElem? hpr
        simp only [List.mem_cons, List.not_mem_nil, or_false] at hm
        omega
      refine ⟨_, rfl, _, _, rfl, rfl, .inl ⟨by decide, by decide⟩, _, rfl, _, _, rfl, rfl, ⟨by decide, by decide⟩, _, _, rfl, rfl, ?_⟩
      refine ⟨_, rfl, p, V.ref b, rfl, get_cells hp', b, rfl, ⟨_, SqL.of hb'⟩, for_list (K := K) (a := b) (xs := cs.map V.int)
        (fun j σ H'' => H'' = H' ∧ ∃ (bl : Int) (v6 : Option V), 0 ≤ bl ∧ bl < 2 ^ 63 ∧ σ = [some (.ref p), some (.int (turn + 1)), some (.int fo), some (.int pr), some (.int bl), v6]) ⟨rfl, 61441 * (turn + 1) + pr / 19, v6, ?_, ?_, rfl⟩ (fun i σ H' _ ⟨e, _⟩ => by subst e; exact SqL.of hb') ?_ ?_⟩
      · omega
      · omega
      · rintro j y σ H' hj ⟨rfl, bl, v6, b0, b1, rfl⟩
        obtain ⟨c, hc, rfl⟩ := ints_get hj
        refine ⟨_, rfl, _, _, rfl, rfl, .inr ⟨by decide, by decide⟩, _, rfl, _, _, rfl, rfl, _, rfl, _, _, rfl, rfl, .inl ⟨_, rfl, _, rfl, _, _, rfl, rfl, (by show 0 < pr; omega), ?_⟩⟩
        have m1 := Int.emod_nonneg (bl * 48271 + c + (turn + 1)) (show pr ≠ 0 by omega)
        have m2 := Int.emod_lt_of_pos (bl * 48271 + c + (turn + 1)) (show 0 < pr by omega)
        exact ⟨rfl, (bl * 48271 + c + (turn + 1)) % pr, _, m1, by omega, rfl⟩
      · rintro σ H' ⟨rfl, bl, v6, b0, b1, rfl⟩
        refine ⟨_, rfl, _, _, rfl, rfl, .inr ⟨by decide, by decide⟩, _, rfl, _, _, rfl, rfl, ⟨by decide, by decide, by omega⟩, .inl ⟨_, rfl, _, rfl, _, _, rfl, rfl, (by show 0 < pr; omega), _, _, rfl, rfl, ?_⟩⟩
        exact ⟨rfl, _, _, _, _, rfl⟩
    · rintro σ H' ⟨rfl, fo, v4, v5, v6, rfl⟩
      refine ⟨_, rfl, ?_⟩
      refine k fo H' ⟨⟨ws, cs, rest, turn + 1, hp', ha', hb', by omega, by omega, hcs, hws⟩, nab⟩ hB
/-! ### _law_take -/
theorem wide_log {j : Int} (h0 : 0 < j) (h : j ≤ 10 ^ 30) : j.natAbs.log2 < 9000 := by
  refine (Nat.log2_lt (by omega)).mpr (Nat.lt_of_lt_of_le (m := 2 ^ 100) ?_ (Nat.pow_le_pow_right (by decide) (by decide)))
  have e : (10 : Int) ^ 30 = 1000000000000000000000000000000 := by decide
  have e2 : (2 : Nat) ^ 100 = 1267650600228229401496703205376 := by decide
  rw [e2]
  omega
def spTake : Sp := fun vs H Q _ => ∃ (p a b : Addr) (n : Nat) (size : Int), vs = [.ref p, .int size] ∧ Stt p a b n H ∧ n ≤ 1000000 ∧ 0 < size ∧ size ≤ 10 ^ 30 ∧
  ∀ (z : Int) (H' : Hp), 0 ≤ z → z < size → Stt p a b (n + 1) H' → But p a H H' → Q (.int z) H'
theorem scLawTake : FnScope ["state", "size", "found"] ["state", "size"] (defScope sLawTake) := ⟨rfl, rfl, rfl, by decide +kernel, rfl, by decide +kernel, by decide +kernel⟩
theorem ok_take {f : Addr} {fd : FuncData} (F : Fun K "_law_take" "_law_take" sLawTake f fd) (T : Nm mg) (DM : Df P w K mg base 1 "_law_mixed" ["state"] [] spMixed) : FnOk P w K mg base CX0 2 f fd ["state", "size"] spTake := by
  refine F.ok scLawTake (fun vs H Q E h => ?_) (fun cdv A outer s H vs Q E hr h => ?_)
  · obtain ⟨p, a, b, n, size, rfl, _⟩ := h
    rfl
  · obtain ⟨p, a, b, n, size, rfl, S, hn, z0, z1, k⟩ := h
    have nd := scLawTake.nd
    have hu := hu_of hr
    refine ⟨_, pss_cons (ps_if (pt_cmpR op_eq (pe_dget hu (pv 0) pe_str (fun _ _ => rfl)) pe_int (nomark _))
        (pss_one (ps_dput hu (pv 0) pe_str (pe_ifExp (pt_cmpR (op_neD hr.units) (pe_dget hu (pv 0) pe_str (fun _ _ => rfl)) (pe_lst pa_nil) (nomark _))
            (pe_bm PySem.F.plainAttrs_list PySem.F.slot_list_pop PySem.F.type_list_pop mt_popAt (pe_dget hu (pv 0) pe_str (fun _ _ => rfl)) (pa_cons pe_int pa_nil))
            (pe_df DM hr (pa_cons (pv 0) pa_nil))) rfl)) pss_nil)
      (pss_cons (ps_set (i := 2) nd rfl (Or.inl rfl) (pe_op op_mod (pe_callTy call_int1 (by rfl) T.int (by decide +kernel) (pa_cons (pe_dget hu (pv 0) pe_str (fun _ _ => rfl)) pa_nil)) (pv 1)))
      (pss_cons (ps_dput hu (pv 0) pe_str (pe_op op_fdivW (pe_dget hu (pv 0) pe_str (fun _ _ => rfl)) (pv 1)) rfl)
      (pss_one (ps_ret (pv 2))))), ?_⟩
    have npa := S.pa
    have npb := S.pb
    have nab := S.ab
    obtain ⟨⟨ws, cs, rest, turn, h1, h2, h3, t0, t1, hcs, hws⟩, _⟩ := id S
    have fin : ∀ (H1 : Hp) (r1 : Int), (∃ (ws' cs' : List Int) (t' : Int), H1 p = some (.dK (stK a b r1 t')) ∧ H1 a = some (.lst (ws'.map V.int)) ∧ H1 b = some (.lst (cs'.map V.int)) ∧ 0 ≤ t' ∧ t' ≤ ((n + 1 : Nat) : Int) ∧ cs'.length ≤ 63 ∧ ws'.length ≤ 63) → But p a H H1 →
        tAsg (tOp (rI (fun _ j => 0 < j) fun i j => .int (i % j)) (tCB (fun xs H Q => (∃ i, xs = [.int i] ∧ Q (.int i) H) ∨ ∃ k, xs = [.bl k] ∧ Q (.int (if k = true then 1 else 0)) H) (tCons (tDGet (tVar 0) (tC (.str "rest"))) tNil)) (tVar 1)) (gName 2)
          { nx := fun σ1 H1 => sDPut (tVar 0) (tC (.str "rest")) (tOp (rI CDivW fun i j => .int (i / j)) (tDGet (tVar 0) (tC (.str "rest"))) (tVar 1)) { nx := fun σ2 H2 => tRet (tVar 2) { nx := fun _ H' => Q .non H', rt := Q } σ2 H2, rt := Q } σ1 H1, rt := Q } [some (.ref p), some (.int size), none] H1 := by
      intro H1 r1 hh bb
      obtain ⟨ws', cs', t', g1, g2, g3, g4⟩ := hh
      refine ⟨_, rfl, p, V.int r1, rfl, get_rest g1, .inl ⟨_, rfl, _, rfl, _, _, rfl, rfl, z0, ?_⟩⟩
      refine ⟨_, rfl, p, V.int r1, rfl, get_rest g1, _, rfl, _, _, rfl, rfl, ⟨z0, wide_log z0 z1⟩, _, rfl, p, _, rfl, put_rest _ g1, _, rfl, ?_⟩
      refine k _ _ (Int.emod_nonneg _ (by omega)) (Int.emod_lt_of_pos _ z0) ⟨⟨ws', cs', _, t', upd_same, ?_, ?_, g4⟩, nab⟩ ?_
      · rw [upd_ne npa.symm]; exact g2
      · rw [upd_ne npb.symm]; exact g3
      · exact fun c o e c1 c2 => by rw [upd_ne c1]; exact bb c o e c1 c2
    refine ⟨_, rfl, p, V.int rest, rfl, get_rest h1, rfl, _, rfl, ?_⟩
    refine ite2 (fun _ => ?_) (fun _ => ?_)
    · -- rest is 0
      refine ⟨_, rfl, p, V.ref a, rfl, get_wide h1, Nat.zero_le _, fun D hD => ?_⟩
      have n1 : p ≠ D := ne_of_none h1 hD
      have n2 : a ≠ D := ne_of_none h2 hD
      have n3 : b ≠ D := ne_of_none h3 hD
      have d1 : upd H D (.lst []) p = some (.dK (stK a b rest turn)) := by rw [upd_ne n1]; exact h1
      have d2 : upd H D (.lst []) a = some (.lst (ws.map V.int)) := by rw [upd_ne n2]; exact h2
      have d3 : upd H D (.lst []) b = some (.lst (cs.map V.int)) := by rw [upd_ne n3]; exact h3
      have d4 : But p a H (upd H D (.lst [])) := But.of (Same.new hD)
      refine ⟨.list (ws.map PyData.int), .list [], .lst (SqL.of d2) (dpInts ws), .lst (SqL.of upd_same) .nil, shaped_ints ws, by decide, _, rfl, ?_⟩
      rw [eqv_ints_nil]
      cases ws with
      | nil =>
        refine iteFF rfl ?_
        refine ⟨_, rfl, p, a, b, n, rfl, ⟨⟨[], cs, rest, turn, d1, d2, d3, t0, t1, hcs, hws⟩, nab⟩, hn, fun y H2 S2 B2 => ?_⟩
        obtain ⟨⟨ws2, cs2, r2, t2, e1, e2, e3, e4⟩, _⟩ := S2
        refine ⟨_, rfl, p, _, rfl, put_rest _ e1, ?_⟩
        refine fin _ y ⟨ws2, cs2, t2, upd_same, ?_, ?_, e4⟩ ?_
        · rw [upd_ne npa.symm]; exact e2
        · rw [upd_ne npb.symm]; exact e3
        · exact fun c o e c1 c2 => by rw [upd_ne c1]; exact B2 c o (d4 c o e c1 c2) c1 c2
      | cons y ws =>
        refine iteTT rfl ?_
        refine ⟨_, rfl, p, V.ref a, rfl, get_wide d1, .inl ⟨rfl, _, SqL.of d2⟩, a, _, 0, 0, V.int y, rfl, rfl, d2, by decide, by decide, seq0 _, rfl, ?_⟩
        have e1 : upd (upd H D (.lst [])) a (.lst (((y :: ws).map V.int).eraseIdx 0)) p = some (.dK (stK a b rest turn)) := by rw [upd_ne npa]; exact d1
        refine ⟨_, rfl, p, _, rfl, put_rest y e1, ?_⟩
        refine fin _ y ⟨ws, cs, turn, upd_same, ?_, ?_, t0, by omega, hcs, ?_⟩ ?_
        · rw [upd_ne npa.symm, upd_same]; rfl
        · rw [upd_ne npb.symm, upd_ne nab.symm]; exact d3
        · rw [List.length_cons] at hws; omega
        · exact fun c o e c1 c2 => by rw [upd_ne c1, upd_ne c2]; exact d4 c o e c1 c2
    · exact fin H rest ⟨ws, cs, turn, h1, h2, h3, t0, by omega, hcs, hws⟩ But.refl
end
end Cf
namespace Cf
open PySem L2
set_option hygiene false
local macro_rules | `(tactic| walk_at "len") => `(tactic| repeat (first | (obtain ⟨e, _⟩ := h; subst e; rfl; done) | (obtain ⟨_, h⟩ := h)))
local macro_rules | `(tactic| walk_at "rd") => `(tactic| repeat (first | refine ⟨_, rfl, ?_⟩ | refine ⟨_, _, rfl, rfl, ?_⟩ | refine ⟨rfl, ?_⟩ | refine ⟨_, _, rfl, ?_⟩))
local macro_rules | `(tactic| walk_at "yes") => `(tactic| (dsimp only [tYes]; rw [if_pos rfl]))
set_option hygiene true
section
variable {P : Program} {w : World} {K : PySem.W.Frag} {mg : Str → Option Value} {base : Heap}
/-! ### the program's constants -/
structure Cn (K : PySem.W.Frag) (mg : Str → Option Value) : Prop where
  cy : ∃ t, mg "CYCLE_YEARS" = some (.int 400 t)
  cd : ∃ t, mg "CYCLE_DAYS" = some (.int 146097 t)
structure Cm (K : PySem.W.Frag) (mg : Str → Option Value) (tp : Addr) : Prop where
  ml : mg "MONTH_LENGTHS" = some (.ref tp)
  sq : ∀ H : Hp, SqT K H tp (MLs.map V.int)
/-! ### is_number, check_number -/
def spIsNum : Sp := fun vs H Q _ => ∃ n : Int, vs = [.int n] ∧ Q (.bl true) H
theorem scIsNumber : FnScope ["value"] ["value"] (defScope sIsNumber) := ⟨rfl, rfl, rfl, by decide +kernel, rfl, by decide +kernel, by decide +kernel⟩
theorem ok_isnum {f : Addr} {fd : FuncData} (F : Fun K "is_number" "is_number" sIsNumber f fd) (T : Nm mg) : FnOk P w K mg base CX0 1 f fd ["value"] spIsNum := by
  refine F.ok scIsNumber (fun vs H Q E h => ?_) (fun cdv A outer s H vs Q E hr h => ?_)
  · obtain ⟨n, rfl, _⟩ := h
    rfl
  · obtain ⟨n, rfl, k⟩ := h
    refine ⟨_, pss_one (ps_ret (pe_and (pe_callB call_isi (by rfl) T.isinstance (by decide +kernel) (pa_cons (pv 0) (pa_cons (pe_bltn (v := .ty "int") (by rfl) T.int (by decide +kernel) rfl) pa_nil)))
      (pe_one (pe_not (pe_callB call_isi (by rfl) T.isinstance (by decide +kernel) (pa_cons (pv 0) (pa_cons (pe_bltn (v := .ty "bool") (by rfl) T.bool (by decide +kernel) rfl) pa_nil))))))), ?_⟩
    refine ⟨_, rfl, _, _, _, _, true, rfl, .ty "int", .base (.int _), kit_ty (by decide +kernel), true, rfl, iteT ?_⟩
    exact ⟨_, rfl, _, _, _, _, false, rfl, .ty "bool", .base (.int _), kit_ty (by decide +kernel), false, rfl, k⟩
def spCheck : Sp := fun vs H Q _ => ∃ n : Int, vs = [.int n, .non] ∧ Q .non H
theorem scCheckNumber : FnScope ["value", "least"] ["value", "least"] (defScope sCheckNumber) := ⟨rfl, rfl, rfl, by decide +kernel, rfl, by decide +kernel, by decide +kernel⟩
theorem ok_check {dV : List V} {f : Addr} {fd : FuncData} (F : FunD K "check_number" "check_number" (defArgs sCheckNumber) (defBody sCheckNumber) (defScope sCheckNumber) dV [] f fd) (DN : Df P w K mg base 1 "is_number" ["value"] [] spIsNum) :
    FnOk P w K mg base CX0 2 f fd ["value", "least"] spCheck := by
  refine F.ok scCheckNumber (fun vs H Q E h => ?_) (fun cdv A outer s H vs Q E hr h => ?_)
  · obtain ⟨n, rfl, _⟩ := h
    rfl
  · obtain ⟨n, rfl, k⟩ := h
    refine ⟨_, PSs.nox (pss_one (ps_if (PW.pt (pw_or (pt_not (pt_val (pe_df DN hr (pa_cons (pv 0) pa_nil)))) (pw_or1 (PW.pt (pw_and (pt_cmpR op_notN (pv 1) pe_non (nomark _)) (pw_and1 (pt_cmpR op_lt (pv 0) (pv 1) (nomark _))))))))
      (pss_one ps_never) pss_nil)), ?_⟩
    refine ⟨_, rfl, n, rfl, true, rfl, iteF ?_⟩
    exact ⟨_, rfl, rfl, false, rfl, iteF (iteF k)⟩
/-! ### is_leap, leap_years_before, year_start -/
def spLeap : Sp := fun vs H Q _ => ∃ y : Int, vs = [.int y] ∧ Q (.bl (leapB y)) H
theorem scIsLeap : FnScope ["year"] ["year"] (defScope sIsLeap) := ⟨rfl, rfl, rfl, by decide +kernel, rfl, by decide +kernel, by decide +kernel⟩
theorem ok_leap {f : Addr} {fd : FuncData} (F : Fun K "is_leap" "is_leap" sIsLeap f fd) (DC : Df P w K mg base 2 "check_number" ["value", "least"] [.non] spCheck) : FnOk P w K mg base CX0 3 f fd ["year"] spLeap := by
  refine F.ok scIsLeap (fun vs H Q E h => ?_) (fun cdv A outer s H vs Q E hr h => ?_)
  · obtain ⟨n, rfl, _⟩ := h
    rfl
  · obtain ⟨y, rfl, k⟩ := h
    refine ⟨_, pss_cons (ps_expr (pe_df DC hr (pa_cons (pv 0) pa_nil))) (pss_one (ps_ret (pe_and (pe_cmpR op_eq (pe_op op_mod (pv 0) pe_int) pe_int (nomark _))
      (pe_one (pe_or (pe_cmpR op_ne (pe_op op_mod (pv 0) pe_int) pe_int (nomark _)) (pe_one (pe_cmpR op_eq (pe_op op_mod (pv 0) pe_int) pe_int (nomark _)))))))), ?_⟩
    refine ⟨_, rfl, y, rfl, _, rfl, _, _, rfl, rfl, (by show (0 : Int) < 4; decide), rfl, _, rfl, ?_⟩
    have k' := k
    unfold leapB at k'
    rw [dec_int]
    by_cases c4 : y % 4 = 0
    · refine iteTT (by simpa using c4) ?_
      rw [decide_eq_true c4, Bool.true_and] at k'
      refine ⟨_, rfl, _, _, rfl, rfl, (by show (0 : Int) < 100; decide), rfl, _, rfl, ?_⟩
      by_cases c1 : y % 100 = 0
      · refine iteFF ?_ ?_
        · rw [dec_int]; simpa using c1
        · refine ⟨_, rfl, _, _, rfl, rfl, (by show (0 : Int) < 400; decide), rfl, ?_⟩
          rw [decide_eq_false (by simpa using c1), Bool.false_or] at k'
          rw [show decide (V.int (y % 400) = V.int 0) = decide (y % 400 = 0) by rw [dec_int]; rfl]
          exact k'
      · refine iteTT ?_ ?_
        · rw [dec_int]; simpa using c1
        · rw [decide_eq_true (by simpa using c1), Bool.true_or] at k'
          exact k'
    · refine iteFF (by simpa using c4) ?_
      rw [decide_eq_false c4, Bool.false_and] at k'
      exact k'
def spLyb : Sp := fun vs H Q _ => ∃ y : Int, vs = [.int y] ∧ Q (.int (lyb y)) H
theorem scLeapYearsBefore : FnScope ["year", "last"] ["year"] (defScope sLeapYearsBefore) := ⟨rfl, rfl, rfl, by decide +kernel, rfl, by decide +kernel, by decide +kernel⟩
theorem ok_lyb {f : Addr} {fd : FuncData} (F : Fun K "leap_years_before" "leap_years_before" sLeapYearsBefore f fd) : FnOk P w K mg base CX0 1 f fd ["year"] spLyb := by
  refine F.ok scLeapYearsBefore (fun vs H Q E h => ?_) (fun cdv A outer s H vs Q E hr h => ?_)
  · obtain ⟨n, rfl, _⟩ := h
    rfl
  · obtain ⟨y, rfl, k⟩ := h
    refine ⟨_, pss_cons (ps_set (i := 1) scLeapYearsBefore.nd rfl (Or.inl rfl) (pe_op op_sub (pv 0) pe_int)) (pss_one (ps_ret (pe_op op_add (pe_op op_sub (pe_op op_fdiv (pv 1) pe_int) (pe_op op_fdiv (pv 1) pe_int)) (pe_op op_fdiv (pv 1) pe_int)))), ?_⟩
    refine ⟨_, rfl, _, _, rfl, rfl, _, rfl, _, _, rfl, rfl, ⟨by decide, by decide⟩, _, rfl, _, _, rfl, rfl, ⟨by decide, by decide⟩, _, _, rfl, rfl, _, rfl, _, _, rfl, rfl, ⟨by decide, by decide⟩, _, _, rfl, rfl, k⟩
def spYs : Sp := fun vs H Q _ => ∃ y : Int, vs = [.int y] ∧ Q (.int (ysOf y)) H
theorem scYearStart : FnScope ["year"] ["year"] (defScope sYearStart) := ⟨rfl, rfl, rfl, by decide +kernel, rfl, by decide +kernel, by decide +kernel⟩
theorem ok_ys {f : Addr} {fd : FuncData} (F : Fun K "year_start" "year_start" sYearStart f fd) (DC : Df P w K mg base 2 "check_number" ["value", "least"] [.non] spCheck) (DL : Df P w K mg base 1 "leap_years_before" ["year"] [] spLyb) :
    FnOk P w K mg base CX0 3 f fd ["year"] spYs := by
  refine F.ok scYearStart (fun vs H Q E h => ?_) (fun cdv A outer s H vs Q E hr h => ?_)
  · obtain ⟨n, rfl, _⟩ := h
    rfl
  · obtain ⟨y, rfl, k⟩ := h
    have hr1 : Room 1 _ := hr.mono (by decide)
    refine ⟨_, pss_cons (ps_expr (pe_df DC hr (pa_cons (pv 0) pa_nil))) (pss_one (ps_ret (pe_op op_sub (pe_op op_add (pe_op op_mul pe_int (pe_op op_sub (pv 0) pe_int)) (pe_df DL hr1 (pa_cons (pv 0) pa_nil))) (pe_df DL hr1 (pa_cons pe_int pa_nil))))), ?_⟩
    refine ⟨_, rfl, y, rfl, _, rfl, _, _, rfl, rfl, _, _, rfl, rfl, .inl ⟨by decide, by decide⟩, _, rfl, y, rfl, _, _, rfl, rfl, 2000, rfl, _, _, rfl, rfl, k⟩
/-! ### months -/
def spMlen : Sp := fun vs H Q _ => ∃ (m : Int) (l : Bool), vs = [.int m, .bl l] ∧ 1 ≤ m ∧ m ≤ 12 ∧ Q (.int (mlen m l)) H
theorem scMonthLength : FnScope ["month", "leap"] ["month", "leap"] (defScope sMonthLength) := ⟨rfl, rfl, rfl, by decide +kernel, rfl, by decide +kernel, by decide +kernel⟩
theorem ok_mlen {f tp : Addr} {fd : FuncData} (F : Fun K "month_length" "month_length" sMonthLength f fd) (M : Cm K mg tp) : FnOk P w K mg base CX0 1 f fd ["month", "leap"] spMlen := by
  refine F.ok scMonthLength (fun vs H Q E h => ?_) (fun cdv A outer s H vs Q E hr h => ?_)
  · obtain ⟨m, l, rfl, _⟩ := h
    rfl
  · obtain ⟨m, l, rfl, m1, m2, k⟩ := h
    refine ⟨_, pss_one (ps_ret (pe_ifExp (PW.pt (pw_and (pt_cmpR op_eq (pv 0) pe_int (nomark _)) (pw_and1 (pt_val (pv 1))))) pe_int (pe_ix ix_tup (pe_glob (v := .ref tp) rfl M.ml rfl) (pe_op op_sub (pv 0) pe_int) (fun _ _ => rfl)))), ?_⟩
    have other : ¬ (m = 2 ∧ l = true) → tOp (rIxT K) (tC (.ref tp)) (tOp (rI0 fun i j => .int (i - j)) (tVar 0) (tC (.int 1))) [some (.int m), some (.bl l)] H Q := fun hn => by
      refine ⟨_, rfl, _, _, rfl, rfl, tp, _, _, V.int (ml m), rfl, rfl, M.sq H, ?_, ?_⟩
      · refine at_of (j := (m - 1).toNat) (by omega) ?_
        rw [List.getElem?_map, MLs_get m1 m2]
        rfl
      · unfold mlen at k
        rw [if_neg hn] at k
        exact k
    refine ⟨_, rfl, rfl, _, rfl, ?_⟩
    by_cases c : m = 2
    · subst c
      refine iteTT (by rfl) ?_
      refine ⟨_, rfl, l, rfl, ?_⟩
      cases l with
      | true => exact iteT k
      | false => exact iteF (other (by intro h; cases h.2))
    · refine iteFF (by rw [dec_int]; simpa using c) ?_
      exact iteF (other fun h => c h.1)
def spMst : Sp := fun vs H Q _ => ∃ (m : Int) (l : Bool), vs = [.int m, .bl l] ∧ 1 ≤ m ∧ m ≤ 13 ∧ ∀ H', Same H H' → Q (.int (mst m l)) H'
theorem scMonthStart : FnScope ["month", "leap", "leap_day"] ["month", "leap"] (defScope sMonthStart) := ⟨rfl, rfl, rfl, by decide +kernel, rfl, by decide +kernel, by decide +kernel⟩
theorem m13 {m : Int} (h1 : 1 ≤ m) (h2 : m ≤ 13) : m = 13 ∨ (1 ≤ m ∧ m ≤ 12) := by omega
theorem cut_ML {m : Int} (h1 : 1 ≤ m) (h2 : m ≤ 12) : cutV (MLs.map V.int) none (some (m - 1)) = (MLs.take (m - 1).toNat).map V.int ∧ ¬ (HT.sIx (MLs.map V.int).length 0 none = 0 ∧ HT.sIx (MLs.map V.int).length (MLs.map V.int).length (some (m - 1)) = (MLs.map V.int).length) := by
  rcases m12 h1 h2 with rfl | rfl | rfl | rfl | rfl | rfl | rfl | rfl | rfl | rfl | rfl | rfl <;> decide
theorem ok_mst {f tp : Addr} {fd : FuncData} (F : Fun K "month_start" "month_start" sMonthStart f fd) (M : Cm K mg tp) (T : Nm mg) : FnOk P w K mg base CX0 1 f fd ["month", "leap"] spMst := by
  refine F.ok scMonthStart (fun vs H Q E h => ?_) (fun cdv A outer s H vs Q E hr h => ?_)
  · obtain ⟨m, l, rfl, _⟩ := h
    rfl
  · obtain ⟨m, l, rfl, m1, m2, k⟩ := h
    refine ⟨_, pss_cons (ps_set (i := 2) scMonthStart.nd rfl (Or.inl rfl) (pe_ifExp (PW.pt (pw_and (pt_val (pv 1)) (pw_and1 (pt_cmpR op_gt (pv 0) pe_int (nomark _))))) pe_int pe_int))
      (pss_one (ps_ret (pe_op op_add (pe_callB (cr_sumT rfl) (by rfl) T.sum (by decide +kernel) (pa_cons (pe_slice sl_tupA (pe_glob (v := .ref tp) rfl M.ml rfl) po_none (po_some (pe_op op_sub (pv 0) pe_int))) pa_nil)) (pv 2)))), ?_⟩
    have rest : ∀ d : Int, d = (if l = true ∧ 2 < m then 1 else 0) → tRet (tOp (rI0 fun i j => .int (i + j)) (tCB (rSumT K) (tCons (tSl (rSlA K) (tC (.ref tp)) tNoPart (tPart (tOp (rI0 fun i j => .int (i - j)) (tVar 0) (tC (.int 1))))) tNil)) (tVar 2))
        { nx := fun _ H' => Q .non H', rt := Q } [some (.int m), some (.bl l), some (.int d)] H := fun d hd => by
      refine ⟨_, rfl, _, _, rfl, rfl, _, rfl, tp, MLs.map V.int, rfl, M.sq H, fun hw => ?_, fun hw p hp => ?_⟩
      · refine ⟨tp, MLs, rfl, M.sq H, _, rfl, _, _, rfl, rfl, ?_⟩
        have e : m = 13 := by
          rcases m13 m1 m2 with e | ⟨a1, a2⟩
          · exact e
          · exact absurd hw (cut_ML a1 a2).2
        subst e
        have e2 : mst 13 l = MLs.sum + d := by
          rw [hd]
          cases l <;> decide
        show Q (.int (MLs.sum + d)) H
        rw [← e2]
        exact k H (Same.refl H)
      · have e : 1 ≤ m ∧ m ≤ 12 := by
          rcases m13 m1 m2 with e | e
          · subst e
            exact absurd (by decide) hw
          · exact e
        refine ⟨p, MLs.take (m - 1).toNat, rfl, ?_, _, rfl, _, _, rfl, rfl, ?_⟩
        · refine SqT.of ?_
          rw [upd_same, (cut_ML e.1 e.2).1]
        · have e2 : mst m l = (MLs.take (m - 1).toNat).sum + d := by
            rw [hd]
            rfl
          show Q (.int ((MLs.take (m - 1).toNat).sum + d)) _
          rw [← e2]
          exact k _ (Same.new hp)
    refine ⟨_, rfl, l, rfl, ?_⟩
    cases l with
    | false => exact iteF (iteF (rest 0 (by rw [if_neg]; intro h; cases h.1)))
    | true =>
      refine iteT ?_
      refine ⟨_, rfl, _, _, rfl, rfl, _, rfl, ?_⟩
      by_cases c : 2 < m
      · exact iteTT (decide_eq_true c) (rest 1 (by rw [if_pos ⟨rfl, c⟩]))
      · exact iteFF (decide_eq_false c) (rest 0 (by rw [if_neg fun h => c h.2]))
/-! ### year_of -/
theorem while_w {c : TT} {tb : TS} {D : Ends} {σ : L2.St} {H : Hp} (Pv : L2.St → Hp → Prop) (μ : L2.St → Hp → Nat) (h0 : Pv σ H)
    (hs : ∀ σ H, Pv σ H → c σ H fun b H1 => if b = true then ∃ N : L2.St → Hp → Prop, (∀ σ' H', N σ' H' → Pv σ' H' ∧ μ σ' H' < μ σ H) ∧ tb { D with nx := N, ct := N, bk := D.nx } σ H1 else D.nx σ H1)
    (up : ∀ σ H Q Q', (∀ b H1, Q b H1 → Q' b H1) → c σ H Q → c σ H Q') : tWhile c tb D σ H := by
  refine ⟨fun m σ H => m = μ σ H ∧ Pv σ H, ⟨_, rfl, h0⟩, ?_⟩
  rintro m σ H ⟨rfl, p⟩
  refine up σ H _ _ (fun b H1 q => ?_) (hs σ H p)
  cases b with
  | true =>
    obtain ⟨N, hN, q⟩ := q
    exact ⟨N, fun σ' H' n => ⟨_, (hN σ' H' n).2, rfl, (hN σ' H' n).1⟩, q⟩
  | false => exact q
def spYearOf : Sp := fun vs H Q _ => ∃ d y : Int, vs = [.int d] ∧ ysOf y ≤ d ∧ d < ysOf (y + 1) ∧ ∀ H', Same H H' → Q (.int y) H'
theorem scYearOf : FnScope ["day", "cycles", "rest", "year"] ["day"] (defScope sYearOf) := ⟨rfl, rfl, rfl, by decide +kernel, rfl, by decide +kernel, by decide +kernel⟩
theorem ok_yearof {f : Addr} {fd : FuncData} (F : Fun K "year_of" "year_of" sYearOf f fd) (T : Nm mg) (C : Cn K mg) (DY : Df P w K mg base 3 "year_start" ["year"] [] spYs) : FnOk P w K mg base CX0 4 f fd ["day"] spYearOf := by
  refine F.ok scYearOf (fun vs H Q E h => ?_) (fun cdv A outer s H vs Q E hr h => ?_)
  · obtain ⟨d, y, rfl, _⟩ := h
    rfl
  · obtain ⟨d, y, rfl, l1, l2, k⟩ := h
    obtain ⟨t1, c1⟩ := C.cy
    obtain ⟨t2, c2⟩ := C.cd
    have nd := scYearOf.nd
    refine ⟨_, pss_cons (ps_asg (pe_callB call_divmod (by rfl) T.divmod (by decide +kernel) (pa_cons (pv 0) (pa_cons (pe_glob (v := .int 146097) rfl c2 ⟨_, rfl⟩) pa_nil))) (pg_tup (by rfl) (pgs_cons (pg_name (i := 1) nd rfl (Or.inl rfl)) (pgs_cons (pg_name (i := 2) nd rfl (Or.inl rfl)) pgs_nil))))
      (pss_cons (ps_set (i := 3) nd rfl (Or.inl rfl) (pe_op op_add (pe_op op_add pe_int (pe_op op_mul (pe_glob (v := .int 400) rfl c1 ⟨_, rfl⟩) (pv 1))) (pe_op op_fdiv (pv 2) pe_int)))
      (pss_cons (ps_while PassesOwn.never (pt_cmpR op_le (pe_df DY hr (pa_cons (pe_op op_add (pv 3) pe_int) pa_nil)) (pv 0) (nomark _)) (pss_one (ps_aug (i := 3) nd rfl (Or.inl rfl) pe_int ip_add)))
      (pss_one (ps_ret (pv 3))))), ?_⟩
    refine ⟨_, rfl, d, 146097, rfl, ⟨by decide, by decide⟩, fun p hp => ?_⟩
    refine ⟨p, _, rfl, SqT.of upd_same, rfl, _, _, rfl, _, _, rfl, rfl, ?_⟩
    refine ⟨_, rfl, _, _, rfl, rfl, .inl ⟨by decide, by decide⟩, _, _, rfl, rfl, _, rfl, _, _, rfl, rfl, ⟨by decide, by decide⟩, _, _, rfl, rfl, ?_⟩
    refine while_w (fun σ H' => Same H H' ∧ ∃ (z c r : Int), z ≤ y ∧ σ = [some (.int d), some (.int c), some (.int r), some (.int z)]) (fun σ _ => match σ with | [_, _, _, some (.int z)] => (y - z).toNat | _ => 0) ⟨Same.new hp, _, _, _, first_try l1 l2, rfl⟩ ?_ ?_
    · rintro σ H' ⟨S, z, c, r, hz, rfl⟩
      refine ⟨_, rfl, _, _, rfl, rfl, z + 1, rfl, _, rfl, _, _, rfl, rfl, _, rfl, ?_⟩
      refine ite2 (fun hc => ?_) (fun hc => ?_)
      · have hc' : ysOf (z + 1) ≤ d := of_decide_eq_true hc
        have hlt : z < y := by
          have q := ys_le_iff (y := z + 1) (z := y) (by omega)
          omega
        refine ⟨fun σ' H'' => Same H H'' ∧ σ' = [some (.int d), some (.int c), some (.int r), some (.int (z + 1))], fun σ' H'' ⟨S', e⟩ => ?_, ?_⟩
        · subst e
          refine ⟨⟨S', z + 1, c, r, by omega, rfl⟩, ?_⟩
          show (y - (z + 1)).toNat < (y - z).toNat
          omega
        · exact ⟨_, rfl, _, _, rfl, rfl, S, rfl⟩
      · have hc' : ¬ ysOf (z + 1) ≤ d := fun q => hc (decide_eq_true q)
        have e : z = y := by
          have q := ys_le_iff (y := y) (z := z) (by omega)
          omega
        subst e
        exact ⟨_, rfl, k H' S⟩
    · rintro σ H' Q1 Q2 hq ⟨v, e1, i, j, e2, e3, u, e4, v2, e5, i2, j2, e6, e7, b, e8, q⟩
      exact ⟨v, e1, i, j, e2, e3, u, e4, v2, e5, i2, j2, e6, e7, b, e8, hq _ _ q⟩
/-! ### day_of -/
def spWeekday : Sp := fun vs H Q _ => ∃ d : Int, vs = [.int d] ∧ Q (.int ((d + 5) % 7)) H
theorem scWeekday : FnScope ["day"] ["day"] (defScope sWeekday) := ⟨rfl, rfl, rfl, by decide +kernel, rfl, by decide +kernel, by decide +kernel⟩
theorem ok_weekday {f : Addr} {fd : FuncData} (F : Fun K "weekday" "weekday" sWeekday f fd) (DC : Df P w K mg base 2 "check_number" ["value", "least"] [.non] spCheck) : FnOk P w K mg base CX0 3 f fd ["day"] spWeekday := by
  refine F.ok scWeekday (fun vs H Q E h => ?_) (fun cdv A outer s H vs Q E hr h => ?_)
  · obtain ⟨n, rfl, _⟩ := h
    rfl
  · obtain ⟨d, rfl, k⟩ := h
    refine ⟨_, pss_cons (ps_expr (pe_df DC hr (pa_cons (pv 0) pa_nil))) (pss_one (ps_ret (pe_op op_mod (pe_op op_add (pv 0) pe_int) pe_int))), ?_⟩
    exact ⟨_, rfl, d, rfl, _, rfl, _, _, rfl, rfl, _, _, rfl, rfl, (by show (0 : Int) < 7; decide), k⟩
section
variable {P : Program} {w : World} {K : PySem.W.Frag} {mg : Str → Option Value} {base : Heap}
/-- a number not below the least one -/
def spCheckL : Sp := fun vs H Q _ => ∃ n m : Int, vs = [.int n, .int m] ∧ m ≤ n ∧ Q .non H
theorem ok_checkL {dV : List V} {f : Addr} {fd : FuncData} (F : FunD K "check_number" "check_number" (defArgs sCheckNumber) (defBody sCheckNumber) (defScope sCheckNumber) dV [] f fd) (DN : Df P w K mg base 1 "is_number" ["value"] [] spIsNum) :
    FnOk P w K mg base CX0 2 f fd ["value", "least"] spCheckL := by
  refine F.ok scCheckNumber (fun vs H Q E h => ?_) (fun cdv A outer s H vs Q E hr h => ?_)
  · obtain ⟨n, m, rfl, _⟩ := h
    rfl
  · obtain ⟨n, m, rfl, hm, k⟩ := h
    refine ⟨_, PSs.nox (pss_one (ps_if (PW.pt (pw_or (pt_not (pt_val (pe_df DN hr (pa_cons (pv 0) pa_nil)))) (pw_or1 (PW.pt (pw_and (pt_cmpR op_notN (pv 1) pe_non (nomark _)) (pw_and1 (pt_cmpR op_lt (pv 0) (pv 1) (nomark _))))))))
      (pss_one ps_never) pss_nil)), ?_⟩
    refine ⟨_, rfl, n, rfl, true, rfl, iteF ?_⟩
    exact ⟨_, rfl, rfl, true, rfl, iteT ⟨_, rfl, _, rfl, _, _, rfl, rfl, _, rfl, iteFF (by simpa using hm) k⟩⟩
end
end
end Cf
namespace Cf
open PySem L2
set_option hygiene false
local macro_rules | `(tactic| walk_at "len") => `(tactic| repeat (first | (obtain ⟨e, _⟩ := h; subst e; rfl; done) | (obtain ⟨_, h⟩ := h)))
local macro_rules | `(tactic| walk_at "rd") => `(tactic| repeat (first | refine ⟨_, rfl, ?_⟩ | refine ⟨_, _, rfl, rfl, ?_⟩ | refine ⟨rfl, ?_⟩ | refine ⟨_, _, rfl, ?_⟩))
local macro_rules | `(tactic| walk_at "yes") => `(tactic| (dsimp only [tYes]; rw [if_pos rfl]))
set_option hygiene true
section
variable {P : Program} {w : World} {K : PySem.W.Frag} {mg : Str → Option Value} {base : Heap}
/-! ### yearly days at work -/
def Yd.vals : Yd → List V
  | .nth m k w => [.str ("nth" : Str), .int m, .int k, .int w]
  | .last m w => [.str ("last" : Str), .int m, .int w]
  | .frm m n w => [.str ("from" : Str), .int m, .int n, .int w]
  | .unt m n w => [.str ("until" : Str), .int m, .int n, .int w]
  | .date m n => [.str ("date" : Str), .int m, .int n]
  | .day n => [.str ("day" : Str), .int n]
structure YAt (H : Hp) (p : Addr) (q : Yd) : Prop where
  tup : H p = some (.tup q.vals)
  ok : q.Ok
theorem YAt.same {H H' : Hp} {p : Addr} {q : Yd} (h : YAt H p q) (s : Same H H') : YAt H' p q := ⟨s _ _ h.tup, h.ok⟩
theorem YAt.sq {H : Hp} {p : Addr} {q : Yd} (h : YAt H p q) : SqT K H p q.vals := SqT.of h.tup
def spOnAfter : Sp := fun vs H Q _ => ∃ n u f : Int, vs = [.int n, .int u, .int f] ∧ Q (.int (onAfter n u f)) H
theorem scOnOrAfter : FnScope ["number", "weekday", "first"] ["number", "weekday", "first"] (defScope sOnOrAfter) := ⟨rfl, rfl, rfl, by decide +kernel, rfl, by decide +kernel, by decide +kernel⟩
theorem ok_onafter {f : Addr} {fd : FuncData} (F : Fun K "on_or_after" "on_or_after" sOnOrAfter f fd) : FnOk P w K mg base CX0 1 f fd ["number", "weekday", "first"] spOnAfter := by
  refine F.ok scOnOrAfter (fun vs H Q E h => ?_) (fun cdv A outer s H vs Q E hr h => ?_)
  · obtain ⟨_, _, _, rfl, _⟩ := h
    rfl
  · obtain ⟨n, u, f, rfl, k⟩ := h
    refine ⟨_, (pss_one (ps_ret (pe_op op_add (pv 0) (pe_op op_mod (pe_op op_sub (pe_op op_sub (pv 1) (pv 2)) (pv 0)) pe_int)))), ?_⟩
    walk_at "rd"
    exact ⟨by show (0 : Int) < 7; decide, _, _, rfl, rfl, k⟩
def spOnBefore : Sp := fun vs H Q _ => ∃ n u f : Int, vs = [.int n, .int u, .int f] ∧ Q (.int (onBefore n u f)) H
theorem scOnOrBefore : FnScope ["number", "weekday", "first"] ["number", "weekday", "first"] (defScope sOnOrBefore) := ⟨rfl, rfl, rfl, by decide +kernel, rfl, by decide +kernel, by decide +kernel⟩
theorem ok_onbefore {f : Addr} {fd : FuncData} (F : Fun K "on_or_before" "on_or_before" sOnOrBefore f fd) : FnOk P w K mg base CX0 1 f fd ["number", "weekday", "first"] spOnBefore := by
  refine F.ok scOnOrBefore (fun vs H Q E h => ?_) (fun cdv A outer s H vs Q E hr h => ?_)
  · obtain ⟨_, _, _, rfl, _⟩ := h
    rfl
  · obtain ⟨n, u, f, rfl, k⟩ := h
    refine ⟨_, (pss_one (ps_ret (pe_op op_sub (pv 0) (pe_op op_mod (pe_op op_sub (pe_op op_add (pv 2) (pv 0)) (pv 1)) pe_int)))), ?_⟩
    walk_at "rd"
    exact ⟨by show (0 : Int) < 7; decide, _, _, rfl, rfl, k⟩
/-! ### number_in -/
def spNumIn : Sp := fun vs H Q _ => ∃ (p q : Addr) (y : Yd) (f : Int) (l : Bool), vs = [.ref p, .ref q] ∧ YAt H p y ∧ H q = some (.tup [.int f, .bl l]) ∧ ∀ H', Same H H' → Q (.int (numIn y f l)) H'
theorem scNumberIn : FnScope ["yearly", "kind", "first", "leap", "word", "start", "number"] ["yearly", "kind"] (defScope sNumberIn) := ⟨rfl, rfl, rfl, by decide +kernel, rfl, by decide +kernel, by decide +kernel⟩
theorem ok_numin {f : Addr} {fd : FuncData} (F : Fun K "number_in" "number_in" sNumberIn f fd) (D_month_start : Df P w K mg base 1 "month_start" ["month", "leap"] [] spMst) (D_month_length : Df P w K mg base 1 "month_length" ["month", "leap"] [] spMlen)
    (D_on_or_after : Df P w K mg base 1 "on_or_after" ["number", "weekday", "first"] [] spOnAfter) (D_on_or_before : Df P w K mg base 1 "on_or_before" ["number", "weekday", "first"] [] spOnBefore) : FnOk P w K mg base CX0 2 f fd ["yearly", "kind"] spNumIn := by
  refine F.ok scNumberIn (fun vs H Q E h => ?_) (fun cdv A outer s H vs Q E hr h => ?_)
  · obtain ⟨_, _, _, _, _, rfl, _⟩ := h
    rfl
  · obtain ⟨p, q, y, f, l, rfl, Y, hq, k⟩ := h
    have nd := scNumberIn.nd
    refine ⟨_, (pss_cons (ps_asg (pv 1) (pg_tup (by rfl) (pgs_cons (pg_name (i := 2) nd rfl (Or.inl rfl)) (pgs_cons (pg_name (i := 3) nd rfl (Or.inl rfl)) pgs_nil))))
      (pss_cons (ps_set (i := 4) nd rfl (Or.inl rfl) (pe_ix ix_tup (pv 0) pe_int (fun _ _ => rfl)))
      (pss_cons (ps_if (pt_cmpR op_eq (pv 4) pe_str (nomark _))
        (pss_one (ps_ret (pe_ix ix_tup (pv 0) pe_int (fun _ _ => rfl))))
        pss_nil)
      (pss_cons (ps_set (i := 5) nd rfl (Or.inl rfl) (pe_df D_month_start (hr.mono (by decide)) (pa_cons (pe_ix ix_tup (pv 0) pe_int (fun _ _ => rfl)) (pa_cons (pv 3) pa_nil))))
      (pss_cons (ps_if (pt_cmpR op_eq (pv 4) pe_str (nomark _))
        (pss_one (ps_ret (pe_df D_on_or_after (hr.mono (by decide)) (pa_cons (pe_op op_add (pv 5) (pe_op op_mul pe_int (pe_op op_sub (pe_ix ix_tup (pv 0) pe_int (fun _ _ => rfl)) pe_int))) (pa_cons (pe_ix ix_tup (pv 0) pe_int (fun _ _ => rfl)) (pa_cons (pv 2) pa_nil))))))
        pss_nil)
      (pss_cons (ps_if (pt_cmpR op_eq (pv 4) pe_str (nomark _))
        (pss_one (ps_ret (pe_df D_on_or_before (hr.mono (by decide)) (pa_cons (pe_op op_sub (pe_op op_add (pv 5) (pe_df D_month_length (hr.mono (by decide)) (pa_cons (pe_ix ix_tup (pv 0) pe_int (fun _ _ => rfl)) (pa_cons (pv 3) pa_nil)))) pe_int) (pa_cons (pe_ix ix_tup (pv 0) pe_int (fun _ _ => rfl)) (pa_cons (pv 2) pa_nil))))))
        pss_nil)
      (pss_cons (ps_set (i := 6) nd rfl (Or.inl rfl) (pe_op op_sub (pe_op op_add (pv 5) (pe_ix ix_tup (pv 0) pe_int (fun _ _ => rfl))) pe_int))
      (pss_cons (ps_if (pt_cmpR op_eq (pv 4) pe_str (nomark _))
        (pss_one (ps_ret (pe_df D_on_or_after (hr.mono (by decide)) (pa_cons (pv 6) (pa_cons (pe_ix ix_tup (pv 0) pe_int (fun _ _ => rfl)) (pa_cons (pv 2) pa_nil))))))
        pss_nil)
      (pss_cons (ps_if (pt_cmpR op_eq (pv 4) pe_str (nomark _))
        (pss_one (ps_ret (pe_df D_on_or_before (hr.mono (by decide)) (pa_cons (pv 6) (pa_cons (pe_ix ix_tup (pv 0) pe_int (fun _ _ => rfl)) (pa_cons (pv 2) pa_nil))))))
        pss_nil)
      (pss_one (ps_ret (pv 6)))))))))))), ?_⟩
    walk_at "rd"
    refine ⟨_, [.int f, .bl l], rfl, SqT.of hq, rfl, ?_⟩
    obtain ⟨Yt, Yo⟩ := Y
    cases y with
    | nth m n u =>
      walk_at "rd"
      refine ⟨p, _, _, _, rfl, rfl, SqT.of Yt, atI_nat (j := 0) rfl, ?_⟩
      walk_at "rd"
      refine ⟨p, _, _, _, rfl, rfl, SqT.of Yt, atI_nat (j := 1) rfl, ?_⟩
      walk_at "rd"
      refine ⟨Yo.1, by have := Yo.2.1; omega, fun H1 S1 => ?_⟩
      have Yt := S1 _ _ Yt
      walk_at "rd"
      refine ⟨p, _, _, _, rfl, rfl, SqT.of Yt, atI_nat (j := 2) rfl, ?_⟩
      walk_at "rd"
      refine ⟨.inl ⟨by decide, by decide⟩, ?_⟩
      walk_at "rd"
      refine ⟨p, _, _, _, rfl, rfl, SqT.of Yt, atI_nat (j := 3) rfl, ?_⟩
      walk_at "rd"
      exact ⟨_, _, _, rfl, k _ S1⟩
    | last m u =>
      walk_at "rd"
      refine ⟨p, _, _, _, rfl, rfl, SqT.of Yt, atI_nat (j := 0) rfl, ?_⟩
      walk_at "rd"
      refine ⟨p, _, _, _, rfl, rfl, SqT.of Yt, atI_nat (j := 1) rfl, ?_⟩
      walk_at "rd"
      refine ⟨Yo.1, by have := Yo.2.1; omega, fun H1 S1 => ?_⟩
      have Yt := S1 _ _ Yt
      walk_at "rd"
      refine ⟨p, _, _, _, rfl, rfl, SqT.of Yt, atI_nat (j := 1) rfl, ?_⟩
      walk_at "rd"
      refine ⟨Yo.1, Yo.2.1, ?_⟩
      walk_at "rd"
      refine ⟨p, _, _, _, rfl, rfl, SqT.of Yt, atI_nat (j := 2) rfl, ?_⟩
      walk_at "rd"
      exact ⟨_, _, _, rfl, k _ S1⟩
    | frm m n u =>
      walk_at "rd"
      refine ⟨p, _, _, _, rfl, rfl, SqT.of Yt, atI_nat (j := 0) rfl, ?_⟩
      walk_at "rd"
      refine ⟨p, _, _, _, rfl, rfl, SqT.of Yt, atI_nat (j := 1) rfl, ?_⟩
      walk_at "rd"
      refine ⟨Yo.1.1, by have := Yo.1.2.1; omega, fun H1 S1 => ?_⟩
      have Yt := S1 _ _ Yt
      walk_at "rd"
      refine ⟨p, _, _, _, rfl, rfl, SqT.of Yt, atI_nat (j := 2) rfl, ?_⟩
      walk_at "rd"
      refine ⟨p, _, _, _, rfl, rfl, SqT.of Yt, atI_nat (j := 3) rfl, ?_⟩
      walk_at "rd"
      exact ⟨_, _, _, rfl, k _ S1⟩
    | unt m n u =>
      walk_at "rd"
      refine ⟨p, _, _, _, rfl, rfl, SqT.of Yt, atI_nat (j := 0) rfl, ?_⟩
      walk_at "rd"
      refine ⟨p, _, _, _, rfl, rfl, SqT.of Yt, atI_nat (j := 1) rfl, ?_⟩
      walk_at "rd"
      refine ⟨Yo.1.1, by have := Yo.1.2.1; omega, fun H1 S1 => ?_⟩
      have Yt := S1 _ _ Yt
      walk_at "rd"
      refine ⟨p, _, _, _, rfl, rfl, SqT.of Yt, atI_nat (j := 2) rfl, ?_⟩
      walk_at "rd"
      refine ⟨p, _, _, _, rfl, rfl, SqT.of Yt, atI_nat (j := 3) rfl, ?_⟩
      walk_at "rd"
      exact ⟨_, _, _, rfl, k _ S1⟩
    | date m n =>
      walk_at "rd"
      refine ⟨p, _, _, _, rfl, rfl, SqT.of Yt, atI_nat (j := 0) rfl, ?_⟩
      walk_at "rd"
      refine ⟨p, _, _, _, rfl, rfl, SqT.of Yt, atI_nat (j := 1) rfl, ?_⟩
      walk_at "rd"
      refine ⟨Yo.1, by have := Yo.2.1; omega, fun H1 S1 => ?_⟩
      have Yt := S1 _ _ Yt
      walk_at "rd"
      refine ⟨p, _, _, _, rfl, rfl, SqT.of Yt, atI_nat (j := 2) rfl, ?_⟩
      walk_at "rd"
      exact k _ S1
    | day n =>
      walk_at "rd"
      refine ⟨p, _, _, _, rfl, rfl, SqT.of Yt, atI_nat (j := 0) rfl, ?_⟩
      walk_at "rd"
      refine ⟨p, _, _, _, rfl, rfl, SqT.of Yt, atI_nat (j := 1) rfl, ?_⟩
      walk_at "rd"
      exact k _ (Same.refl _)
/-! ### kind_of, day_in -/
def spKindOf : Sp := fun vs H Q _ => ∃ y : Int, vs = [.int y] ∧ ∀ (H' : Hp) (q : Addr), Same H H' → H q = none → H' q = some (.tup [.int (k1 y), .bl (leapB y)]) → Q (.ref q) H'
theorem scKindOf : FnScope ["year"] ["year"] (defScope sKindOf) := ⟨rfl, rfl, rfl, by decide +kernel, rfl, by decide +kernel, by decide +kernel⟩
theorem ok_kindof {f : Addr} {fd : FuncData} (F : Fun K "kind_of" "kind_of" sKindOf f fd) (D_check_number : Df P w K mg base 2 "check_number" ["value", "least"] [.non] spCheck) (D_weekday : Df P w K mg base 3 "weekday" ["day"] [] spWeekday) (D_year_start : Df P w K mg base 3 "year_start" ["year"] [] spYs) (D_is_leap : Df P w K mg base 3 "is_leap" ["year"] [] spLeap) : FnOk P w K mg base CX0 4 f fd ["year"] spKindOf := by
  refine F.ok scKindOf (fun vs H Q E h => ?_) (fun cdv A outer s H vs Q E hr h => ?_)
  · obtain ⟨_, rfl, _⟩ := h
    rfl
  · obtain ⟨y, rfl, k⟩ := h
    refine ⟨_, (pss_cons (ps_expr (pe_df D_check_number (hr.mono (by decide)) (pa_cons (pv 0) pa_nil)))
      (pss_one (ps_ret (pe_tup (pa_cons (pe_df D_weekday (hr.mono (by decide)) (pa_cons (pe_df D_year_start (hr.mono (by decide)) (pa_cons (pv 0) pa_nil)) pa_nil)) (pa_cons (pe_df D_is_leap (hr.mono (by decide)) (pa_cons (pv 0) pa_nil)) pa_nil)))))), ?_⟩
    walk_at "rd"
    exact ⟨by show 2 ≤ sizeLine; decide, fun q hq => k _ q (Same.new hq) hq (by rw [upd_same]; rfl)⟩
end
end Cf
namespace Cf
open PySem L2
set_option hygiene false
local macro_rules | `(tactic| walk_at "len") => `(tactic| repeat (first | (obtain ⟨e, _⟩ := h; subst e; rfl; done) | (obtain ⟨_, h⟩ := h)))
local macro_rules | `(tactic| walk_at "rd") => `(tactic| repeat (first | refine ⟨_, rfl, ?_⟩ | refine ⟨_, _, rfl, rfl, ?_⟩ | refine ⟨rfl, ?_⟩ | refine ⟨_, _, rfl, ?_⟩))
local macro_rules | `(tactic| walk_at "yes") => `(tactic| (dsimp only [tYes]; rw [if_pos rfl]))
set_option hygiene true
section
variable {P : Program} {w : World} {K : PySem.W.Frag} {mg : Str → Option Value} {base : Heap}
/-! ### all_kinds -/
def KindAt (H : Hp) (q : Addr) (k : Int × Bool) : Prop := H q = some (.tup [.int k.1, .bl k.2])
structure KindsAt (H : Hp) (L : Addr) (qs : List Addr) (ks : List (Int × Bool)) : Prop where
  lst : H L = some (.lst (qs.map V.ref))
  at_ : Paired (KindAt H) qs ks
theorem kinds_same {H H' : Hp} {qs : List Addr} {ks : List (Int × Bool)} (h : Paired (KindAt H) qs ks) (s : Same H H') : Paired (KindAt H') qs ks := Paired.mapP h fun a b e => s _ _ e
theorem kinds_at : ∀ i : Nat, i < 7 → ∀ j : Nat, j < 2 → kinds[2 * i + j]? = some ((i : Int), decide (j = 1)) := by decide
theorem kinds_snoc {i j : Nat} (hi : i < 7) (hj : j < 2) : kinds.take (2 * i + (j + 1)) = kinds.take (2 * i + j) ++ [((i : Int), decide (j = 1))] := by
  rw [show 2 * i + (j + 1) = 2 * i + j + 1 by omega, List.take_succ, kinds_at i hi j hj]; rfl
def spAllKinds : Sp := fun vs H Q _ => vs = [] ∧ ∀ (H' : Hp) (L : Addr) (qs : List Addr), Same H H' → H L = none → KindsAt H' L qs kinds → Q (.ref L) H'
theorem scAllKinds : FnScope ["first", "leap"] [] (defScope sAllKinds) := ⟨rfl, rfl, rfl, by decide +kernel, rfl, by decide +kernel, by decide +kernel⟩
theorem ok_allkinds {f : Addr} {fd : FuncData} (F : Fun K "all_kinds" "all_kinds" sAllKinds f fd) (T : Nm mg) : FnOk P w K mg base CX0 1 f fd [] spAllKinds := by
  refine F.ok scAllKinds (fun vs H Q E h => ?_) (fun cdv A outer s H vs Q E hr h => ?_)
  · obtain ⟨rfl, _⟩ := h
    rfl
  · obtain ⟨rfl, k⟩ := h
    have nd := scAllKinds.nd
    refine ⟨_, (pss_one (ps_ret (pe_lc2 (own := [("first", 0), ("leap", 1)]) (vs1 := [1]) (g := (gName 0)) (g1 := (gName 1)) (tt := tYes) (tt1 := tYes) rfl nd (pi_range1 (by rfl) T.range (pa_cons pe_int pa_nil)) (blkOk_by (N := ["first", "leap"]) (sc := defScope sAllKinds) (by decide +kernel)) (by decide) (fun _ _ _ _ _ => pg_name (i := 0) nd rfl (Or.inl rfl)) (fun _ _ _ _ _ => pts_nil) (fun _ _ _ _ _ => (show PI _ _ _ (iTup K (tTup (tCons (tC (.bl false)) (tCons (tC (.bl true)) tNil)))) from (pi_tup (pe_tup (pa_cons pe_bl (pa_cons pe_bl pa_nil)))))) (fun _ _ _ _ _ => pg_name (i := 1) nd rfl (Or.inl rfl)) (fun _ _ _ _ _ => pts_nil) (fun _ _ _ _ _ => (pe_tup (pa_cons (pv 0) (pa_cons (pv 1) pa_nil))))))), ?_⟩
    walk_at "rd"
    refine ⟨by decide, by decide, fun D hD => ⟨fun i m H1 => i + m = 7 ∧ Same H H1 ∧ ∃ qs : List Addr, H1 D = some (.lst (qs.map V.ref)) ∧ Paired (KindAt H1) qs (kinds.take (2 * i)), ⟨7, rfl, Same.new hD, [], by rw [upd_same]; rfl, .nil⟩, fun i m H1 w => ?_⟩⟩
    obtain ⟨e1, S1, qs, d1, p1⟩ := w
    by_cases c : i = 7
    · subst c
      exact .inl ⟨Nat.le_refl _, k H1 D qs S1 hD ⟨d1, p1⟩⟩
    · refine .inr ⟨by show i < 7; omega, fun H' => i + 1 + (m - 1) = 7 ∧ Same H H' ∧ ∃ qs : List Addr, H' D = some (.lst (qs.map V.ref)) ∧ Paired (KindAt H') qs (kinds.take (2 * (i + 1))), fun H' w => ⟨m - 1, by omega, w⟩, fun x H' y => ?_⟩
      obtain ⟨rfl, rfl⟩ := y
      refine ⟨rfl, ?_⟩
      walk_at "yes"
      walk_at "rd"
      refine ⟨by show 2 ≤ sizeLine; decide, fun a ha => ?_⟩
      have aD : a ≠ D := fun e => by rw [e, d1] at ha; cases ha
      have sa := SqT.of (K := K) (show (upd H' a (.tup [V.bl false, V.bl true])) a = some (.tup [V.bl false, V.bl true]) by rw [upd_same])
      refine ⟨a, rfl, ⟨_, sa⟩, fun j n H2 => j + n = 2 ∧ Same H H2 ∧ H2 a = some (.tup [V.bl false, V.bl true]) ∧ ∃ qs : List Addr, H2 D = some (.lst (qs.map V.ref)) ∧ Paired (KindAt H2) qs (kinds.take (2 * i + j)), ⟨2, rfl, S1.trans (Same.new ha), by rw [upd_same], qs, by rw [upd_ne (Ne.symm aD)]; exact d1, kinds_same p1 (Same.new ha)⟩, fun j n H2 w => ?_⟩
      obtain ⟨e2, S2, ta, qs2, d2, p2⟩ := w
      by_cases c2 : j = 2
      · subst c2
        refine .inl ⟨?_, ?_⟩
        · exact ⟨_, SqT.of ta, Nat.le_refl 2⟩
        · exact ⟨by omega, S2, qs2, d2, p2⟩
      · refine .inr ⟨?_, fun H' => j + 1 + (n - 1) = 2 ∧ Same H H' ∧ H' a = some (.tup [V.bl false, V.bl true]) ∧ ∃ qs : List Addr, H' D = some (.lst (qs.map V.ref)) ∧ Paired (KindAt H') qs (kinds.take (2 * i + (j + 1))), fun H' w => ⟨n - 1, by omega, w⟩, fun x H' y => ?_⟩
        · exact ⟨_, _, SqT.of ta, List.getElem?_eq_getElem (by show j < 2; omega)⟩
        · obtain ⟨rfl, y⟩ := y
          have hx := y _ (SqT.of ta)
          have hx2 : x = .bl (decide (j = 1)) := by
            have : j = 0 ∨ j = 1 := by omega
            rcases this with e | e <;> subst e <;> (cases hx; rfl)
          subst hx2
          refine ⟨rfl, ?_⟩
          rw [if_pos rfl]
          walk_at "rd"
          refine ⟨by show 2 ≤ sizeLine; decide, fun q hq => ?_⟩
          have qD : q ≠ D := fun e => by rw [e, d2] at hq; cases hq
          have qa : q ≠ a := fun e => by rw [e, ta] at hq; cases hq
          have lq : qs2.length = 2 * i + j := by
            rw [paired_len p2, List.length_take]
            show min (2 * i + j) 14 = 2 * i + j
            omega
          have dq : (upd H' q (.tup [.int (0 + (i : Int)), .bl (decide (j = 1))])) D = some (.lst (qs2.map V.ref)) := by rw [upd_ne (Ne.symm qD)]; exact d2
          have Sq : Same H' (upd H' q (.tup [.int (0 + (i : Int)), .bl (decide (j = 1))])) := Same.new hq
          refine ⟨_, dq, by rw [List.length_map, lq]; have : 14 < sizeLine := by decide
                            omega, by omega, ?_, ?_, qs2 ++ [q], ?_, ?_⟩
          · intro b o e
            have : b ≠ D := fun g => by rw [g, hD] at e; cases e
            rw [upd_ne this]
            exact Sq _ _ (S2 _ _ e)
          · rw [upd_ne aD, upd_ne (Ne.symm qa)]; exact ta
          · rw [upd_same, List.map_append]; rfl
          · rw [kinds_snoc (by omega) (by omega)]
            refine paired_snoc ?_ ?_
            · refine Paired.mapP (kinds_same p2 Sq) fun b k e => ?_
              have : b ≠ D := fun g => by rw [g, KindAt, dq] at e; cases e
              show (upd (upd H' q _) D _) b = _
              rw [upd_ne this]; exact e
            · show (upd (upd H' q _) D _) q = _
              rw [upd_ne qD, upd_same, Int.zero_add]
/-! ### table_of -/
def keyK (k : Int × Bool) : List Int := [k.1, if k.2 = true then 1 else 0]
def tabE (qs : List Addr) (y : Yd) : List Ent := List.zipWith (fun q k => (q, keyK k, V.int (numIn y k.1 k.2))) qs kinds
theorem keyK_nodup : (kinds.map keyK).Nodup := by decide
theorem tabE_keys {qs : List Addr} (h : qs.length = 14) (y : Yd) : (tabE qs y).map (fun x => x.2.1) = kinds.map keyK := by
  match qs, h with
  | [_, _, _, _, _, _, _, _, _, _, _, _, _, _], _ => rfl
theorem tabE_len {qs : List Addr} (h : qs.length = 14) (y : Yd) : (tabE qs y).length = 14 := by
  unfold tabE
  rw [List.length_zipWith, h]; rfl
theorem tabE_get {qs : List Addr} {y : Yd} {i : Nat} {q : Addr} {k : Int × Bool} (hq : qs[i]? = some q) (hk : kinds[i]? = some k) : (tabE qs y)[i]? = some (q, keyK k, V.int (numIn y k.1 k.2)) := by
  unfold tabE
  rw [List.getElem?_zipWith, hq, hk]
theorem kindAt_key {H : Hp} {q : Addr} {k : Int × Bool} (h : KindAt H q k) : KeyAt H q (keyK k) := ⟨by show 2 ≤ 8; decide, [.int k.1, .bl k.2], h, .cons (.int _) (.cons (.bl _) .nil)⟩
theorem zip_keysAt {H : Hp} (y : Yd) : ∀ {qs : List Addr} {ks : List (Int × Bool)}, Paired (KindAt H) qs ks → KeysAt H (List.zipWith (fun q k => (q, keyK k, V.int (numIn y k.1 k.2))) qs ks)
  | _, _, .nil => fun x hx => nomatch hx
  | _, _, .cons h t => fun x hx => by
    rw [List.zipWith_cons_cons] at hx
    rcases List.mem_cons.mp hx with e | e
    · subst e; exact kindAt_key h
    · exact zip_keysAt y t x e
theorem tabE_keysAt {H : Hp} {qs : List Addr} {y : Yd} (h : Paired (KindAt H) qs kinds) : KeysAt H (tabE qs y) := zip_keysAt y h
theorem not_in_take {α : Type} {l : List α} (nd : l.Nodup) {i : Nat} {x : α} (h : l[i]? = some x) : x ∉ l.take i := by
  intro hm
  obtain ⟨j, hj, e⟩ := List.mem_iff_getElem.mp hm
  rw [List.length_take] at hj
  rw [List.getElem_take] at e
  have hj2 : j < l.length := by omega
  have : j = i := (List.getElem?_inj hj2 nd).mp (by rw [h, List.getElem?_eq_getElem hj2, e])
  omega
end
end Cf
namespace Cf
open PySem L2
set_option hygiene false
local macro_rules | `(tactic| walk_at "len") => `(tactic| repeat (first | (obtain ⟨e, _⟩ := h; subst e; rfl; done) | (obtain ⟨_, h⟩ := h)))
local macro_rules | `(tactic| walk_at "rd") => `(tactic| repeat (first | refine ⟨_, rfl, ?_⟩ | refine ⟨_, _, rfl, rfl, ?_⟩ | refine ⟨rfl, ?_⟩ | refine ⟨_, _, rfl, ?_⟩))
local macro_rules | `(tactic| walk_at "yes") => `(tactic| (dsimp only [tYes]; rw [if_pos rfl]))
set_option hygiene true
section
variable {P : Program} {w : World} {K : PySem.W.Frag} {mg : Str → Option Value} {base : Heap}
/-! ### first_year_apart -/
theorem for_rangeC {lo : Int} {n : Nat} {g : TG} {tb : TS} {D : Ends} {σ : L2.St} {H : Hp} (Pv : Nat → L2.St → Hp → Prop) (h0 : Pv 0 σ H)
    (hs : ∀ (i : Nat) (σ : L2.St) (H : Hp), i < n → Pv i σ H → g (V.int (lo + (i : Int))) σ H fun σ2 H2 => tb { nx := Pv (i + 1), rt := D.rt, bk := D.nx, ct := Pv (i + 1) } σ2 H2)
    (hd : ∀ (σ : L2.St) (H : Hp), Pv n σ H → D.nx σ H) :
    ∃ W : Nat → Nat → L2.St → Hp → Prop, (∃ m, W 0 m σ H) ∧ ∀ (i m : Nat) (σ : L2.St) (H : Hp), W i m σ H → (Itc lo 1 n).stop i H ∧ D.nx σ H ∨ (Itc lo 1 n).go i H ∧ ∃ N : L2.St → Hp → Prop, (∀ (σ' : L2.St) (H' : Hp), N σ' H' → ∃ m', m' < m ∧ W (i + 1) m' σ' H') ∧
      ∀ (x : V) (H' : Hp), (Itc lo 1 n).yld i H x H' → g x σ H' fun σ2 H2 => tb { nx := N, rt := D.rt, bk := D.nx, ct := N } σ2 H2 := by
  refine ⟨fun i m σ H => m = n - i ∧ i ≤ n ∧ Pv i σ H, ⟨n, rfl, Nat.zero_le n, h0⟩, fun i m σ H wv => ?_⟩
  obtain ⟨rfl, hi, p⟩ := wv
  by_cases c : i < n
  · refine .inr ⟨c, Pv (i + 1), fun σ' H' p' => ⟨n - (i + 1), by omega, rfl, c, p'⟩, fun x H' y => ?_⟩
    obtain ⟨rfl, rfl⟩ := y
    rw [Int.mul_one]
    exact hs i σ H' c p
  · have : i = n := by omega
    subst this
    exact .inl ⟨Nat.le_refl _, hd σ H p⟩
def optV : Option Int → V
  | .none => .non
  | .some z => .int z
def two (x1 x2 : Int) (j : Nat) : Int := if j = 0 then x1 else x2
def sS (x : Nat → Int) : Nat → Int → Bool
  | 0 => fun _ => false
  | j + 1 => fun z => sS x j z || decide (z = x j)
def sN (x : Nat → Int) : Nat → Nat
  | 0 => 0
  | j + 1 => if sS x j (x j) = true then sN x j else sN x j + 1
theorem sN_two (x1 x2 : Int) : sN (two x1 x2) 2 = if x1 = x2 then 1 else 2 := by
  by_cases c : x1 = x2
  · subst c; simp [sN, sS, two]
  · have : ¬ x2 = x1 := fun e => c e.symm
    simp [sN, sS, two, c, this]
theorem sN_le (x : Nat → Int) : ∀ j, sN x j ≤ j
  | 0 => Nat.le_refl 0
  | j + 1 => by
    have := sN_le x j
    unfold sN
    split <;> omega
theorem valK_get {k : List Int} {z : V} {q : Addr} : ∀ {xs : List Ent} {i : Nat}, (xs.map fun x => x.2.1).Nodup → xs[i]? = some (q, k, z) → valK xs k = some z
  | [], i, _, h => by simp at h
  | x :: xs, 0, _, h => by
    simp at h; subst h; unfold valK; simp
  | x :: xs, i + 1, nd, h => by
    rw [List.getElem?_cons_succ] at h
    rw [List.map_cons, List.nodup_cons] at nd
    have ne : ¬ x.2.1 = k := fun e => nd.1 (by rw [e]; exact List.mem_map.mpr ⟨_, List.mem_of_getElem? h, rfl⟩)
    have := valK_get nd.2 h
    unfold valK at this ⊢
    rw [List.find?_cons_of_neg (by simpa using ne)]
    exact this
theorem kinds_ix {f : Int} (l : Bool) (h0 : 0 ≤ f) (h7 : f < 7) : kinds[2 * f.toNat + l.toNat]? = some (f, l) := by
  have : f = 0 ∨ f = 1 ∨ f = 2 ∨ f = 3 ∨ f = 4 ∨ f = 5 ∨ f = 6 := by omega
  rcases this with h | h | h | h | h | h | h <;> subst h <;> cases l <;> rfl
theorem valK_tab {qs : List Addr} {y : Yd} {f : Int} {l : Bool} (lq : qs.length = 14) (h0 : 0 ≤ f) (h7 : f < 7) : valK (tabE qs y) (keyK (f, l)) = some (.int (numIn y f l)) := by
  have hk := kinds_ix l h0 h7
  obtain ⟨q, hq⟩ : ∃ q, qs[2 * f.toNat + l.toNat]? = some q := ⟨_, List.getElem?_eq_getElem (by rw [lq]; have := Bool.toNat_le l; omega)⟩
  exact valK_get (by rw [tabE_keys lq]; exact keyK_nodup) (tabE_get hq hk)
end
end Cf
namespace Cf
open PySem L2
set_option hygiene false
local macro_rules | `(tactic| walk_at "len") => `(tactic| repeat (first | (obtain ⟨e, _⟩ := h; subst e; rfl; done) | (obtain ⟨_, h⟩ := h)))
local macro_rules | `(tactic| walk_at "rd") => `(tactic| repeat (first | refine ⟨_, rfl, ?_⟩ | refine ⟨_, _, rfl, rfl, ?_⟩ | refine ⟨rfl, ?_⟩ | refine ⟨_, _, rfl, ?_⟩))
local macro_rules | `(tactic| walk_at "yes") => `(tactic| (dsimp only [tYes]; rw [if_pos rfl]))
set_option hygiene true
section
variable {P : Program} {w : World} {K : PySem.W.Frag} {mg : Str → Option Value} {base : Heap}
/-! ### is_yearly, check_yearly -/
structure Gy (K : PySem.W.Frag) (w : World) (mg : Str → Option Value) (wd lf fu : Addr) : Prop where
  words : mg "WORDS" = some (.ref wd)
  kd : ∃ es n, KDict K w wd es n
  nth : ∃ t, PySem.W.nsIn K wd "nth" = some (some (.int 3 t))
  last : ∃ t, PySem.W.nsIn K wd "last" = some (some (.int 2 t))
  frm : ∃ t, PySem.W.nsIn K wd "from" = some (some (.int 3 t))
  unt : ∃ t, PySem.W.nsIn K wd "until" = some (some (.int 3 t))
  date : ∃ t, PySem.W.nsIn K wd "date" = some (some (.int 2 t))
  day : ∃ t, PySem.W.nsIn K wd "day" = some (some (.int 1 t))
  gl : mg "LAST_FROM" = some (.ref lf)
  gf : mg "FIRST_UNTIL" = some (.ref fu)
  lfq : ∀ H : Hp, SqT K H lf [.int 12, .int 25]
  fuq : ∀ H : Hp, SqT K H fu [.int 1, .int 7]
def Yd.word : Yd → Str
  | .nth .. => "nth"
  | .last .. => "last"
  | .frm .. => "from"
  | .unt .. => "until"
  | .date .. => "date"
  | .day .. => "day"
def Yd.nums : Yd → List Int
  | .nth m k w => [m, k, w]
  | .last m w => [m, w]
  | .frm m n w => [m, n, w]
  | .unt m n w => [m, n, w]
  | .date m n => [m, n]
  | .day n => [n]
theorem Yd.vals_eq (y : Yd) : y.vals = .str y.word :: y.nums.map V.int := by cases y <;> rfl
theorem ltL_two (a b c d : Int) : HT.lexLt [a, b] [c, d] = (decide (a < c) || (decide (a = c) && decide (b < d))) := by
  by_cases h1 : a < c
  · have h2 : ¬ a = c := by omega
    simp [HT.lexLt, h1, h2]
  · by_cases h2 : a = c
    · subst h2
      by_cases h3 : b < d
      · have h4 : ¬ b = d := by omega
        simp [HT.lexLt, h3, h4]
      · simp [HT.lexLt, h3]
    · simp [HT.lexLt, h1, h2]
def spInB (K : PySem.W.Frag) : Sp := fun vs H Q _ => ∃ (a : Addr) (y : Yd), vs = [.str y.word, .ref a] ∧ H a = some (.tup (y.nums.map V.int)) ∧ y.Ok ∧ ∀ H', Same H H' → Q (.bl true) H'
theorem scInBounds : FnScope ["word", "numbers"] ["word", "numbers"] (defScope sInBounds) := ⟨rfl, rfl, rfl, by decide +kernel, rfl, by decide +kernel, by decide +kernel⟩
theorem ok_inb {wd lf fu : Addr} {f : Addr} {fd : FuncData} (F : Fun K "in_bounds" "in_bounds" sInBounds f fd) (T : Nm mg) (G : Gy K w mg wd lf fu) (D_month_length : Df P w K mg base 1 "month_length" ["month", "leap"] [] spMlen) : FnOk P w K mg base CX0 2 f fd ["word", "numbers"] (spInB K) := by
  refine F.ok scInBounds (fun vs H Q E h => ?_) (fun cdv A outer s H vs Q E hr h => ?_)
  · obtain ⟨_, _, rfl, _⟩ := h
    rfl
  · obtain ⟨a, y, rfl, ha, ok, k⟩ := h
    have nd := scInBounds.nd
    have hu := hr.units
    refine ⟨_, (pss_cons (ps_if (pt_cmpR op_eq (pv 0) pe_str (nomark _))
        (pss_one (ps_ret (pe_chain op_le op_le pe_int (pe_ix ix_tup (pv 1) pe_int (fun _ _ => rfl)) pe_int)))
        pss_nil)
      (pss_cons (ps_if (pt_not (pt_chain op_le op_le pe_int (pe_ix ix_tup (pv 1) pe_int (fun _ _ => rfl)) pe_int))
        (pss_one (ps_ret pe_bl))
        pss_nil)
      (pss_cons (ps_if (PW.pt (pw_and (pt_cmpR op_eq (pv 0) pe_str (nomark _)) (pw_and1 (pt_not (pt_chain op_le op_le pe_int (pe_ix ix_tup (pv 1) pe_int (fun _ _ => rfl)) pe_int)))))
        (pss_one (ps_ret pe_bl))
        pss_nil)
      (pss_cons (ps_if (PW.pt (pw_and (pt_cmpR (show OpR _ _ (rIn K false) from op_in_seq) (pv 0) (pe_tup (pa_cons pe_str (pa_cons pe_str (pa_cons pe_str pa_nil)))) rfl) (pw_and1 (pt_not (pt_chain op_le op_le pe_int (pe_ix ix_tup (pv 1) pe_int (fun _ _ => rfl)) (pe_df D_month_length (hr.mono (by decide)) (pa_cons (pe_ix ix_tup (pv 1) pe_int (fun _ _ => rfl)) (pa_cons pe_bl pa_nil))))))))
        (pss_one (ps_ret pe_bl))
        pss_nil)
      (pss_cons (ps_if (PW.pt (pw_and (pt_cmpR op_eq (pv 0) pe_str (nomark _)) (pw_and1 (pt_cmpR (op_gtT (lt0 hu)) (pe_slice sl_tupA (pv 1) po_none (po_some pe_int)) (pe_glob (v := .ref lf) rfl G.gl rfl) (nomark _)))))
        (pss_one (ps_ret pe_bl))
        pss_nil)
      (pss_cons (ps_if (PW.pt (pw_and (pt_cmpR op_eq (pv 0) pe_str (nomark _)) (pw_and1 (pt_cmpR (op_ltT (lt0 hu)) (pe_slice sl_tupA (pv 1) po_none (po_some pe_int)) (pe_glob (v := .ref fu) rfl G.gf rfl) (nomark _)))))
        (pss_one (ps_ret pe_bl))
        pss_nil)
      (pss_one (ps_ret (pe_or (pe_cmpR op_eq (pv 0) pe_str (nomark _)) (pe_one (pe_chain op_le op_le pe_int (pe_ix ix_tup (pv 1) (pe_un un_neg pe_int) (fun _ _ => rfl)) pe_int))))))))))), ?_⟩
    cases y with
    | nth m n u =>
      have sq := SqT.of (K := K) ha
      walk_at "rd"
      refine ⟨a, _, _, _, rfl, rfl, sq, atI_nat (j := 0) rfl, ?_⟩
      walk_at "rd"
      refine iteTT (decide_eq_true ok.1) ?_
      walk_at "rd"
      refine iteFF (by rw [decide_eq_true ok.2.1]; rfl) ?_
      walk_at "rd"
      refine ⟨a, _, _, _, rfl, rfl, sq, atI_nat (j := 1) rfl, ?_⟩
      walk_at "rd"
      refine iteTT (decide_eq_true ok.2.2.1) ?_
      walk_at "rd"
      refine iteFF (by rw [decide_eq_true ok.2.2.2.1]; rfl) ?_
      walk_at "rd"
      refine ⟨by show 3 ≤ sizeLine; decide, fun t ht => ?_⟩
      have S1 := Same.new (o := .tup [.str ("from" : Str), .str ("until" : Str), .str ("date" : Str)]) ht
      have sq1 := SqT.of (K := K) (S1 _ _ ha)
      refine ⟨t, _, rfl, .inr (SqT.of (by rw [upd_same])), rfl, rfl, ?_⟩
      walk_at "rd"
      refine ⟨a, _, _, _, rfl, rfl, sq1, (by rfl), ?_⟩
      walk_at "rd"
      refine iteTT (decide_eq_true ok.2.2.2.2.1) ?_
      walk_at "rd"
      show Q (V.bl (decide (_ ≤ _))) _
      rw [decide_eq_true ok.2.2.2.2.2]
      exact k _ S1
    | last m u =>
      have sq := SqT.of (K := K) ha
      walk_at "rd"
      refine ⟨a, _, _, _, rfl, rfl, sq, atI_nat (j := 0) rfl, ?_⟩
      walk_at "rd"
      refine iteTT (decide_eq_true ok.1) ?_
      walk_at "rd"
      refine iteFF (by rw [decide_eq_true ok.2.1]; rfl) ?_
      walk_at "rd"
      refine ⟨by show 3 ≤ sizeLine; decide, fun t ht => ?_⟩
      have S1 := Same.new (o := .tup [.str ("from" : Str), .str ("until" : Str), .str ("date" : Str)]) ht
      have sq1 := SqT.of (K := K) (S1 _ _ ha)
      refine ⟨t, _, rfl, .inr (SqT.of (by rw [upd_same])), rfl, rfl, ?_⟩
      walk_at "rd"
      refine ⟨a, _, _, _, rfl, rfl, sq1, (by rfl), ?_⟩
      walk_at "rd"
      refine iteTT (decide_eq_true ok.2.2.1) ?_
      walk_at "rd"
      show Q (V.bl (decide (_ ≤ _))) _
      rw [decide_eq_true ok.2.2.2]
      exact k _ S1
    | frm m n u =>
      have sq := SqT.of (K := K) ha
      walk_at "rd"
      refine ⟨a, _, _, _, rfl, rfl, sq, atI_nat (j := 0) rfl, ?_⟩
      walk_at "rd"
      refine iteTT (decide_eq_true ok.1.1) ?_
      walk_at "rd"
      refine iteFF (by rw [decide_eq_true ok.1.2.1]; rfl) ?_
      walk_at "rd"
      refine ⟨by show 3 ≤ sizeLine; decide, fun t ht => ?_⟩
      have S1 := Same.new (o := .tup [.str ("from" : Str), .str ("until" : Str), .str ("date" : Str)]) ht
      have sq1 := SqT.of (K := K) (S1 _ _ ha)
      refine ⟨t, _, rfl, .inr (SqT.of (by rw [upd_same])), rfl, rfl, ?_⟩
      walk_at "rd"
      refine ⟨a, _, _, _, rfl, rfl, sq1, atI_nat (j := 1) rfl, ?_⟩
      walk_at "rd"
      refine iteTT (decide_eq_true ok.1.2.2.1) ?_
      walk_at "rd"
      refine ⟨a, _, _, _, rfl, rfl, sq1, atI_nat (j := 0) rfl, ?_⟩
      walk_at "rd"
      refine ⟨ok.1.1, ok.1.2.1, ?_⟩
      walk_at "rd"
      refine iteFF (by rw [decide_eq_true ok.1.2.2.2]; rfl) ?_
      walk_at "rd"
      refine ⟨a, _, rfl, sq1, fun e => absurd e (show ¬ (HT.sIx 3 0 none = 0 ∧ HT.sIx 3 3 (some 2) = 3) by decide), fun _ q2 hq2 => ?_⟩
      have S2 := Same.new (o := .tup [.int m, .int n]) hq2
      have sq2 := SqT.of (K := K) (S2 _ _ (S1 _ _ ha))
      walk_at "rd"
      refine ⟨q2, lf, [m, n], [12, 25], rfl, rfl, SqT.of (by rw [upd_same]; rfl), G.lfq _, ?_⟩
      refine ⟨_, rfl, iteFF (by rw [gtL_two]; have := ok.2.1; unfold LeDec at this; simp; omega) ?_⟩
      walk_at "rd"
      refine ⟨a, _, _, _, rfl, rfl, sq2, (by rfl), ?_⟩
      walk_at "rd"
      refine iteTT (decide_eq_true ok.2.2.1) ?_
      walk_at "rd"
      show Q (V.bl (decide (_ ≤ _))) _
      rw [decide_eq_true ok.2.2.2]
      exact k _ (S1.trans S2)
    | unt m n u =>
      have sq := SqT.of (K := K) ha
      walk_at "rd"
      refine ⟨a, _, _, _, rfl, rfl, sq, atI_nat (j := 0) rfl, ?_⟩
      walk_at "rd"
      refine iteTT (decide_eq_true ok.1.1) ?_
      walk_at "rd"
      refine iteFF (by rw [decide_eq_true ok.1.2.1]; rfl) ?_
      walk_at "rd"
      refine ⟨by show 3 ≤ sizeLine; decide, fun t ht => ?_⟩
      have S1 := Same.new (o := .tup [.str ("from" : Str), .str ("until" : Str), .str ("date" : Str)]) ht
      have sq1 := SqT.of (K := K) (S1 _ _ ha)
      refine ⟨t, _, rfl, .inr (SqT.of (by rw [upd_same])), rfl, rfl, ?_⟩
      walk_at "rd"
      refine ⟨a, _, _, _, rfl, rfl, sq1, atI_nat (j := 1) rfl, ?_⟩
      walk_at "rd"
      refine iteTT (decide_eq_true ok.1.2.2.1) ?_
      walk_at "rd"
      refine ⟨a, _, _, _, rfl, rfl, sq1, atI_nat (j := 0) rfl, ?_⟩
      walk_at "rd"
      refine ⟨ok.1.1, ok.1.2.1, ?_⟩
      walk_at "rd"
      refine iteFF (by rw [decide_eq_true ok.1.2.2.2]; rfl) ?_
      walk_at "rd"
      refine ⟨a, _, rfl, sq1, fun e => absurd e (show ¬ (HT.sIx 3 0 none = 0 ∧ HT.sIx 3 3 (some 2) = 3) by decide), fun _ q2 hq2 => ?_⟩
      have S2 := Same.new (o := .tup [.int m, .int n]) hq2
      have sq2 := SqT.of (K := K) (S2 _ _ (S1 _ _ ha))
      walk_at "rd"
      refine ⟨q2, fu, [m, n], [1, 7], rfl, rfl, SqT.of (by rw [upd_same]; rfl), G.fuq _, ?_⟩
      refine ⟨_, rfl, iteFF (by rw [ltL_two]; have := ok.2.1; unfold GeJan at this; simp; omega) ?_⟩
      walk_at "rd"
      refine ⟨a, _, _, _, rfl, rfl, sq2, (by rfl), ?_⟩
      walk_at "rd"
      refine iteTT (decide_eq_true ok.2.2.1) ?_
      walk_at "rd"
      show Q (V.bl (decide (_ ≤ _))) _
      rw [decide_eq_true ok.2.2.2]
      exact k _ (S1.trans S2)
    | date m n =>
      have sq := SqT.of (K := K) ha
      walk_at "rd"
      refine ⟨a, _, _, _, rfl, rfl, sq, atI_nat (j := 0) rfl, ?_⟩
      walk_at "rd"
      refine iteTT (decide_eq_true ok.1) ?_
      walk_at "rd"
      refine iteFF (by rw [decide_eq_true ok.2.1]; rfl) ?_
      walk_at "rd"
      refine ⟨by show 3 ≤ sizeLine; decide, fun t ht => ?_⟩
      have S1 := Same.new (o := .tup [.str ("from" : Str), .str ("until" : Str), .str ("date" : Str)]) ht
      have sq1 := SqT.of (K := K) (S1 _ _ ha)
      refine ⟨t, _, rfl, .inr (SqT.of (by rw [upd_same])), rfl, rfl, ?_⟩
      walk_at "rd"
      refine ⟨a, _, _, _, rfl, rfl, sq1, atI_nat (j := 1) rfl, ?_⟩
      walk_at "rd"
      refine iteTT (decide_eq_true ok.2.2.1) ?_
      walk_at "rd"
      refine ⟨a, _, _, _, rfl, rfl, sq1, atI_nat (j := 0) rfl, ?_⟩
      walk_at "rd"
      refine ⟨ok.1, ok.2.1, ?_⟩
      walk_at "rd"
      refine iteFF (by rw [decide_eq_true ok.2.2.2]; rfl) ?_
      walk_at "rd"
      exact k _ S1
    | day n =>
      have sq := SqT.of (K := K) ha
      walk_at "rd"
      refine ⟨a, _, _, _, rfl, rfl, sq, atI_nat (j := 0) rfl, ?_⟩
      walk_at "rd"
      refine iteTT (decide_eq_true ok.1) ?_
      walk_at "rd"
      show Q (V.bl (decide (_ ≤ _))) _
      rw [decide_eq_true ok.2]
      exact k _ (Same.refl _)
end
end Cf
namespace Cf
open PySem L2
set_option hygiene false
local macro_rules | `(tactic| walk_at "len") => `(tactic| repeat (first | (obtain ⟨e, _⟩ := h; subst e; rfl; done) | (obtain ⟨_, h⟩ := h)))
local macro_rules | `(tactic| walk_at "rd") => `(tactic| repeat (first | refine ⟨_, rfl, ?_⟩ | refine ⟨_, _, rfl, rfl, ?_⟩ | refine ⟨rfl, ?_⟩ | refine ⟨_, _, rfl, ?_⟩))
local macro_rules | `(tactic| walk_at "yes") => `(tactic| (dsimp only [tYes]; rw [if_pos rfl]))
set_option hygiene true
section
variable {P : Program} {w : World} {K : PySem.W.Frag} {mg : Str → Option Value} {base : Heap}
theorem Yd.nums_len (y : Yd) : y.nums.length ≤ 3 := by cases y <;> simp [Yd.nums]
theorem Gy.word {wd lf fu : Addr} (G : Gy K w mg wd lf fu) (y : Yd) : ∃ t, PySem.W.nsIn K wd y.word = some (some (.int (y.nums.length : Nat) t)) := by
  cases y
  · exact G.nth
  · exact G.last
  · exact G.frm
  · exact G.unt
  · exact G.date
  · exact G.day
def spIsY : Sp := fun vs H Q _ => ∃ (p : Addr) (y : Yd), vs = [.ref p] ∧ YAt H p y ∧ ∀ H', Same H H' → Q (.bl true) H'
theorem scIsYearly : FnScope ["value", "word", "numbers", "number"] ["value"] (defScope sIsYearly) := ⟨rfl, rfl, rfl, by decide +kernel, rfl, by decide +kernel, by decide +kernel⟩
theorem ok_isy {wd lf fu : Addr} {f : Addr} {fd : FuncData} (F : Fun K "is_yearly" "is_yearly" sIsYearly f fd) (T : Nm mg) (G : Gy K w mg wd lf fu) (D_is_number : Df P w K mg base 1 "is_number" ["value"] [] spIsNum) (D_in_bounds : Df P w K mg base 2 "in_bounds" ["word", "numbers"] [] (spInB K)) : FnOk P w K mg base CX0 3 f fd ["value"] spIsY := by
  refine F.ok scIsYearly (fun vs H Q E h => ?_) (fun cdv A outer s H vs Q E hr h => ?_)
  · obtain ⟨_, _, rfl, _⟩ := h
    rfl
  · obtain ⟨p, y, rfl, Y, k⟩ := h
    have nd := scIsYearly.nd
    have hu := hr.units
    obtain ⟨es, n, hkd⟩ := G.kd
    refine ⟨_, (pss_cons (ps_if (PW.pt (pw_or (pt_not (pt_val (pe_callB call_isi (by rfl) T.isinstance (by decide +kernel) (pa_cons (pv 0) (pa_cons (pe_bltn (v := .ty "tuple") (by rfl) T.tuple (by decide +kernel) rfl) pa_nil))))) (pw_or (pt_not (pt_truth (pv 0) (fun _ => rfl))) (pw_or1 (pt_not (pt_val (pe_callB call_isi (by rfl) T.isinstance (by decide +kernel) (pa_cons (pe_ix ix_tup (pv 0) pe_int (fun _ _ => rfl)) (pa_cons (pe_bltn (v := .ty "str") (by rfl) T.str (by decide +kernel) rfl) pa_nil)))))))))
        (pss_one (ps_ret pe_bl))
        pss_nil)
      (pss_cons (ps_asg (pv 0) (pg_star rfl (pgs_cons (pg_name (i := 1) nd rfl (Or.inl rfl)) (pgs_star (pgs_cons (pg_name (i := 2) nd rfl (Or.inl rfl)) pgs_nil)))))
      (pss_cons (ps_if (PW.pt (pw_or (pt_cmpR op_ne (pe_kget hkd (pe_glob (v := .ref wd) rfl G.words rfl) (pv 1) (by constructor <;> rfl)) (pe_callB call_len_seq (by rfl) T.len (by decide +kernel) (pa_cons (pv 2) pa_nil)) (nomark _)) (pw_or1 (pt_not (pt_val (pe_callB (cr_all rfl) (by rfl) T.all (by decide +kernel) (pa_cons (pe_lc (own := [("number", 3)]) (g := (gName 3)) (tt := tYes) rfl nd (pi_list (pv 2)) (blkOk_by (N := ["value", "word", "numbers", "number"]) (sc := defScope sIsYearly) (by decide +kernel)) (fun _ _ _ _ _ => pg_name (i := 3) nd rfl (Or.inl rfl)) (fun _ _ _ _ _ => pts_nil) (fun _ _ _ _ _ => (pe_df D_is_number (hr.mono (by decide)) (pa_cons (pv 3) pa_nil)))) pa_nil)))))))
        (pss_one (ps_ret pe_bl))
        pss_nil)
      (pss_one (ps_ret (pe_df D_in_bounds (hr.mono (by decide)) (pa_cons (pv 1) (pa_cons (pe_callTy call_tuple_of (by rfl) T.tuple (by decide +kernel) (pa_cons (pv 2) pa_nil)) pa_nil)))))))), ?_⟩
    walk_at "rd"
    refine ⟨_, _, _, _, true, rfl, .ty "tuple", .base (.tup Y.tup), kit_ty (by decide +kernel), ?_⟩
    walk_at "rd"
    have sq : SqT K H p (.str y.word :: y.nums.map V.int) := by rw [← Yd.vals_eq]; exact Y.sq
    refine ⟨true, .inr (.inl ⟨_, sq, rfl⟩), ?_⟩
    walk_at "rd"
    refine ⟨p, _, _, _, rfl, rfl, sq, atI_nat (j := 0) rfl, ?_⟩
    walk_at "rd"
    refine ⟨_, _, _, _, true, rfl, .ty "str", .base (.str _), kit_ty (by decide +kernel), ?_⟩
    walk_at "rd"
    refine ⟨p, _, rfl, sq, by show 1 ≤ (V.str y.word :: y.nums.map V.int).length; simp, fun L hL => ?_⟩
    walk_at "rd"
    obtain ⟨tw, gw⟩ := G.word y
    refine ⟨y.word, _, .int (y.nums.length : Nat), rfl, gw, ⟨tw, rfl⟩, ?_⟩
    walk_at "rd"
    have S1 : Same H (upd H L (.lst (y.nums.map V.int))) := Same.new hL
    refine ⟨L, y.nums.map V.int, rfl, .inl (SqL.of (by rw [upd_same]; rfl)), ?_⟩
    walk_at "rd"
    refine iteFF (by simp) ?_
    walk_at "rd"
    have hL1 : (upd H L (.lst (y.nums.map V.int))) L = some (.lst (y.nums.map V.int)) := by rw [upd_same]
    refine ⟨⟨y.nums.map V.int, SqL.of hL1⟩, fun D hD => ?_⟩
    have LD : L ≠ D := fun e => by rw [← e] at hD; exact nomatch hD.symm.trans hL1
    have hD2 : (upd H L (.lst (y.nums.map V.int))) D = none := hD
    refine lc_it (walk_list (K := K) (a := L) (xs := y.nums.map V.int)) (fun i H' => Same (upd H L (.lst (y.nums.map V.int))) H' ∧ H' D = some (.lst ((List.replicate i true).map V.bl))) ⟨Same.new hD2, upd_same⟩ (fun i H' _ ⟨s1, _⟩ => SqL.of (s1 _ _ hL1)) ?_ ?_
    · rintro i z H' H'' hil ⟨s1, hDl⟩ ⟨rfl, hi⟩
      rw [List.length_map] at hil
      obtain ⟨z, hz, rfl⟩ := ints_get hi
      walk_at "rd"
      refine acc_step s1 hD hDl (by rw [List.length_map, List.length_replicate]; have := y.nums_len; have : 3 < sizeLine := by decide
                                    omega) ?_
      rw [List.replicate_succ', List.map_append]; rfl
    · rintro H2 ⟨s1, hDl⟩
      rw [List.length_map] at hDl
      refine ⟨D, _, rfl, SqL.of hDl, ?_⟩
      have e : (List.replicate y.nums.length true).all id = true := by rw [List.all_eq_true]; intro x hx; exact List.eq_of_mem_replicate hx
      rw [e]
      walk_at "rd"
      refine ⟨L, y.nums.map V.int, rfl, .inl ⟨SqL.of (s1 _ _ hL1), fun q hq => ?_⟩⟩
      walk_at "rd"
      exact ⟨by rw [upd_same], Y.ok, fun H' S => k H' (((S1.trans s1).trans (Same.new hq)).trans S)⟩
end
end Cf
namespace Cf
open PySem L2
set_option hygiene false
local macro_rules | `(tactic| walk_at "len") => `(tactic| repeat (first | (obtain ⟨e, _⟩ := h; subst e; rfl; done) | (obtain ⟨_, h⟩ := h)))
local macro_rules | `(tactic| walk_at "rd") => `(tactic| repeat (first | refine ⟨_, rfl, ?_⟩ | refine ⟨_, _, rfl, rfl, ?_⟩ | refine ⟨rfl, ?_⟩ | refine ⟨_, _, rfl, ?_⟩))
local macro_rules | `(tactic| walk_at "yes") => `(tactic| (dsimp only [tYes]; rw [if_pos rfl]))
set_option hygiene true
section
variable {P : Program} {w : World} {K : PySem.W.Frag} {mg : Str → Option Value} {base : Heap}
/-! ### the law's own calendar -/
def spNy : Sp := fun vs H Q _ => ∃ y : Int, vs = [.int y] ∧ Q (.int (ysOf y)) H
theorem scLawNewYear : FnScope ["year", "gone"] ["year"] (defScope sLawNewYear) := ⟨rfl, rfl, rfl, by decide +kernel, rfl, by decide +kernel, by decide +kernel⟩
theorem ok_ny {f : Addr} {fd : FuncData} (F : Fun K "_law_new_year" "_law_new_year" sLawNewYear f fd) : FnOk P w K mg base CX0 1 f fd ["year"] spNy := by
  refine F.ok scLawNewYear (fun vs H Q E h => ?_) (fun cdv A outer s H vs Q E hr h => ?_)
  · obtain ⟨n, rfl, _⟩ := h
    rfl
  · obtain ⟨y, rfl, k⟩ := h
    refine ⟨_, pss_cons (ps_set (i := 1) scLawNewYear.nd rfl (Or.inl rfl) (pe_op op_sub (pv 0) pe_int)) (pss_one (ps_ret (pe_op op_add (pe_op op_sub (pe_op op_add (pe_op op_mul pe_int (pv 1)) (pe_op op_fdiv (pe_op op_add (pv 1) pe_int) pe_int))
      (pe_op op_fdiv (pe_op op_add (pv 1) pe_int) pe_int)) (pe_op op_fdiv (pe_op op_add (pv 1) pe_int) pe_int)))), ?_⟩
    refine ⟨_, rfl, _, _, rfl, rfl, _, rfl, _, _, rfl, rfl, .inl ⟨by decide, by decide⟩, _, rfl, _, _, rfl, rfl, _, _, rfl, rfl, ⟨by decide, by decide⟩, _, _, rfl, rfl, _, rfl, _, _, rfl, rfl, _, _, rfl, rfl, ⟨by decide, by decide⟩, _, _, rfl, rfl,
      _, rfl, _, _, rfl, rfl, _, _, rfl, rfl, ⟨by decide, by decide⟩, _, _, rfl, rfl, ?_⟩
    rw [← lawNY_eq] at k
    exact k
def spMonth : Sp := fun vs H Q _ => ∃ y m : Int, vs = [.int y, .int m] ∧ 1 ≤ m ∧ m ≤ 13 ∧ ∀ H', Same H H' → Q (.int (ysOf y + mst m (leapB y))) H'
theorem scLawMonth : FnScope ["year", "month", "leap", "sizes"] ["year", "month"] (defScope sLawMonth) := ⟨rfl, rfl, rfl, by decide +kernel, rfl, by decide +kernel, by decide +kernel⟩
theorem cut12 {m : Int} (h1 : 1 ≤ m) (h2 : m ≤ 13) (a b c d e f g h i j k l : V) : cutV [a, b, c, d, e, f, g, h, i, j, k, l] none (some (m - 1)) = [a, b, c, d, e, f, g, h, i, j, k, l].take (m - 1).toNat := by
  rcases m13 h1 h2 with rfl | ⟨g1, g2⟩
  · rfl
  · rcases m12 g1 g2 with rfl | rfl | rfl | rfl | rfl | rfl | rfl | rfl | rfl | rfl | rfl | rfl <;> rfl
theorem lawMonth13 {y m : Int} (h1 : 1 ≤ m) (h2 : m ≤ 13) : ysOf y + (([31, 28 + (ysOf (y + 1) - ysOf y - 365), 31, 30, 31, 30, 31, 31, 30, 31, 30, 31] : List Int).take (m - 1).toNat).sum = ysOf y + mst m (leapB y) := by
  rcases m13 h1 h2 with rfl | ⟨g1, g2⟩
  · rw [mst_13]
    have := ys_succ y
    unfold leapI at this
    show ysOf y + (31 + ((28 + (ysOf (y + 1) - ysOf y - 365)) + (31 + (30 + (31 + (30 + (31 + (31 + (30 + (31 + (30 + (31 + 0)))))))))))) = _
    omega
  · have e := lawMonth_eq (y := y) g1 g2
    rw [lawNY_eq, lawNY_eq] at e
    exact e
theorem ok_month {f : Addr} {fd : FuncData} (F : Fun K "_law_month" "_law_month" sLawMonth f fd) (T : Nm mg) (DN : Df P w K mg base 1 "_law_new_year" ["year"] [] spNy) : FnOk P w K mg base CX0 2 f fd ["year", "month"] spMonth := by
  refine F.ok scLawMonth (fun vs H Q E h => ?_) (fun cdv A outer s H vs Q E hr h => ?_)
  · obtain ⟨n, m, rfl, _⟩ := h
    rfl
  · obtain ⟨y, m, rfl, m1, m2, k⟩ := h
    have nd := scLawMonth.nd
    refine ⟨_, pss_cons (ps_set (i := 2) nd rfl (Or.inl rfl) (pe_op op_sub (pe_op op_sub (pe_df DN hr (pa_cons (pe_op op_add (pv 0) pe_int) pa_nil)) (pe_df DN hr (pa_cons (pv 0) pa_nil))) pe_int))
      (pss_cons (ps_set (i := 3) nd rfl (Or.inl rfl) (pe_lst (pa_cons pe_int (pa_cons (pe_op op_add pe_int (pv 2)) (pa_cons pe_int (pa_cons pe_int (pa_cons pe_int (pa_cons pe_int (pa_cons pe_int (pa_cons pe_int (pa_cons pe_int (pa_cons pe_int (pa_cons pe_int (pa_cons pe_int pa_nil))))))))))))))
      (pss_one (ps_ret (pe_op op_add (pe_df DN hr (pa_cons (pv 0) pa_nil)) (pe_callB (cr_sum rfl) (by rfl) T.sum (by decide +kernel) (pa_cons (pe_slice sl_list (pv 3) po_none (po_some (pe_op op_sub (pv 1) pe_int))) pa_nil)))))), ?_⟩
    refine ⟨_, rfl, _, _, rfl, rfl, y + 1, rfl, _, rfl, y, rfl, _, _, rfl, rfl, _, _, rfl, rfl, _, rfl, _, _, rfl, rfl, (by show 12 ≤ sizeLine; decide), fun p hp => ?_⟩
    refine ⟨_, rfl, y, rfl, _, rfl, _, rfl, _, _, rfl, rfl, _, rfl, p, _, rfl, SqL.of upd_same, fun q hq => ?_⟩
    rw [cut12 m1 m2]
    have e := lawMonth13 (y := y) m1 m2
    refine ⟨q, ([31, 28 + (ysOf (y + 1) - ysOf y - 365), 31, 30, 31, 30, 31, 31, 30, 31, 30, 31] : List Int).take (m - 1).toNat, rfl, ?_, _, _, rfl, rfl, ?_⟩
    · refine SqL.of ?_
      rw [upd_same, List.map_take]
      rfl
    · show Q (.int (ysOf y + (([31, 28 + (ysOf (y + 1) - ysOf y - 365), 31, 30, 31, 30, 31, 31, 30, 31, 30, 31] : List Int).take (m - 1).toNat).sum)) _
      rw [e]
      exact k _ ((Same.new hp).step hq)
end
/-! ### _law_pick -/
def spPick : Sp := fun vs H Q _ => ∃ (p a b l : Addr) (n : Nat) (xs : List V), vs = [.ref p, .ref l] ∧ Stt p a b n H ∧ n ≤ 1000000 ∧ H l = some (.lst xs) ∧ l ≠ p ∧ l ≠ a ∧ 0 < xs.length ∧ xs.length ≤ 1000 ∧
  ∀ (i : Nat) (v : V) (H' : Hp), xs[i]? = some v → Stt p a b (n + 1) H' → But p a H H' → Q v H'
theorem scLawPick : FnScope ["state", "some"] ["state", "some"] (defScope sLawPick) := ⟨rfl, rfl, rfl, by decide +kernel, rfl, by decide +kernel, by decide +kernel⟩
theorem ok_pick {f : Addr} {fd : FuncData} (F : Fun K "_law_pick" "_law_pick" sLawPick f fd) (T : Nm mg) (DT : Df P w K mg base 2 "_law_take" ["state", "size"] [] spTake) : FnOk P w K mg base CX0 3 f fd ["state", "some"] spPick := by
  refine F.ok scLawPick (fun vs H Q E h => ?_) (fun cdv A outer s H vs Q E hr h => ?_)
  · obtain ⟨p, a, b, l, n, xs, rfl, _⟩ := h
    rfl
  · obtain ⟨p, a, b, l, n, xs, rfl, S, hn, hl, n1, n2, l0, l1, k⟩ := h
    refine ⟨_, pss_one (ps_ret (pe_ix ix_list (pv 1) (pe_df DT hr (pa_cons (pv 0) (pa_cons (pe_callB call_len_seq (by rfl) T.len PySem.boot_len (pa_cons (pv 1) pa_nil)) pa_nil))) (fun _ _ => rfl))), ?_⟩
    refine ⟨_, rfl, _, rfl, _, rfl, l, xs, rfl, .inl (SqL.of hl), p, a, b, n, _, rfl, S, hn, by omega, by omega, fun z H' z0 z1 S' B' => ?_⟩
    have hlt : z.toNat < xs.length := by omega
    refine ⟨l, xs, z, xs[z.toNat], rfl, rfl, SqL.of (B' _ _ hl n1 n2), at_of (j := z.toNat) (by omega) (by simp [hlt]), ?_⟩
    exact k z.toNat _ H' (by simp [hlt]) S' B'
end Cf
namespace Cf
open PySem L2
set_option hygiene false
local macro_rules | `(tactic| walk_at "len") => `(tactic| repeat (first | (obtain ⟨e, _⟩ := h; subst e; rfl; done) | (obtain ⟨_, h⟩ := h)))
local macro_rules | `(tactic| walk_at "rd") => `(tactic| repeat (first | refine ⟨_, rfl, ?_⟩ | refine ⟨_, _, rfl, rfl, ?_⟩ | refine ⟨rfl, ?_⟩ | refine ⟨_, _, rfl, ?_⟩))
local macro_rules | `(tactic| walk_at "yes") => `(tactic| (dsimp only [tYes]; rw [if_pos rfl]))
set_option hygiene true
section
variable {P : Program} {w : World} {K : PySem.W.Frag} {mg : Str → Option Value} {base : Heap}
/-! ### rows of a rule -/
structure Cz (mg : Str → Option Value) : Prop where
  day : ∃ t, mg "DAY" = some (.int 86400 t)
  most : ∃ t, mg "MOST_OFFSET" = some (.int 86399 t)
def bas (b : Bool) : Str := if b = true then "wall" else "utc"
structure RowAt (H : Hp) (p : Addr) (r : Row) : Prop where
  ex : ∃ q, H p = some (.tup [.ref q, .int r.sec, .str (bas r.wall), .int r.off]) ∧ YAt H q r.yd
theorem RowAt.same {H H' : Hp} {p : Addr} {r : Row} (h : RowAt H p r) (s : Same H H') : RowAt H' p r := by
  obtain ⟨q, e, y⟩ := h.ex
  exact ⟨q, s _ _ e, y.same s⟩
structure RulAt (H : Hp) (p : Addr) (rs : List Row) : Prop where
  ex : ∃ ps : List Addr, H p = some (.tup (ps.map V.ref)) ∧ Paired (RowAt H) ps rs
theorem RulAt.same {H H' : Hp} {p : Addr} {rs : List Row} (h : RulAt H p rs) (s : Same H H') : RulAt H' p rs := by
  obtain ⟨ps, e, r⟩ := h.ex
  exact ⟨ps, s _ _ e, Paired.mapP r fun a b x => x.same s⟩
/-- what stands ahead in a ring -/
theorem atI_prev {α : Type} {xs : List α} {i : Nat} {v : α} (hi : i < xs.length) (h : xs[if i = 0 then xs.length - 1 else i - 1]? = some v) : atI xs ((i : Int) - 1) = some v := by
  cases i with
  | zero =>
    rw [if_pos rfl] at h
    have ne : xs ≠ [] := fun e => by rw [e] at hi; cases hi
    have e := List.dropLast_concat_getLast ne
    have ev : xs.getLast ne = v := by
      rw [List.getLast_eq_getElem]
      exact (List.getElem?_eq_some_iff.mp h).2
    rw [ev] at e
    show atI xs (-1) = some v
    rw [← e]
    exact atI_last _ _
  | succ j =>
    rw [if_neg (by omega)] at h
    rw [show ((j + 1 : Nat) : Int) - 1 = (j : Int) by omega]
    exact atI_nat h
def spIsOff : Sp := fun vs H Q _ => ∃ n : Int, vs = [.int n] ∧ -86399 ≤ n ∧ n ≤ 86399 ∧ Q (.bl true) H
theorem scIsOffset : FnScope ["value"] ["value"] (defScope sIsOffset) := ⟨rfl, rfl, rfl, by decide +kernel, rfl, by decide +kernel, by decide +kernel⟩
theorem ok_isoff {f : Addr} {fd : FuncData} (F : Fun K "is_offset" "is_offset" sIsOffset f fd) (Z : Cz mg) (D_is_number : Df P w K mg base 1 "is_number" ["value"] [] spIsNum) : FnOk P w K mg base CX0 2 f fd ["value"] spIsOff := by
  refine F.ok scIsOffset (fun vs H Q E h => ?_) (fun cdv A outer s H vs Q E hr h => ?_)
  · obtain ⟨_, rfl, _⟩ := h
    rfl
  · obtain ⟨n, rfl, n0, n1, k⟩ := h
    have nd := scIsOffset.nd
    obtain ⟨tm, zM⟩ := Z.most
    refine ⟨_, (pss_one (ps_ret (pe_and (pe_df D_is_number (hr.mono (by decide)) (pa_cons (pv 0) pa_nil)) (pe_one (pe_chain op_le op_le (pe_un un_neg (pe_glob (v := .int 86399) rfl zM ⟨_, rfl⟩)) (pv 0) (pe_glob (v := .int 86399) rfl zM ⟨_, rfl⟩)))))), ?_⟩
    walk_at "rd"
    refine iteTT (decide_eq_true n0) ?_
    walk_at "rd"
    show Q (V.bl (decide (n ≤ (86399 : Int)))) H
    rw [decide_eq_true n1]
    exact k
/-! ### is_row -/
def spIsRow : Sp := fun vs H Q _ => ∃ (p : Addr) (r : Row), vs = [.ref p] ∧ RowAt H p r ∧ r.Ok ∧ ∀ H', Same H H' → Q (.bl true) H'
theorem scIsRow : FnScope ["value", "yearly", "second", "basis", "offset"] ["value"] (defScope sIsRow) := ⟨rfl, rfl, rfl, by decide +kernel, rfl, by decide +kernel, by decide +kernel⟩
theorem ok_isrow {f : Addr} {fd : FuncData} (F : Fun K "is_row" "is_row" sIsRow f fd) (T : Nm mg) (Z : Cz mg) (D_is_number : Df P w K mg base 1 "is_number" ["value"] [] spIsNum) (D_is_yearly : Df P w K mg base 3 "is_yearly" ["value"] [] spIsY) (D_is_offset : Df P w K mg base 2 "is_offset" ["value"] [] spIsOff) : FnOk P w K mg base CX0 4 f fd ["value"] spIsRow := by
  refine F.ok scIsRow (fun vs H Q E h => ?_) (fun cdv A outer s H vs Q E hr h => ?_)
  · obtain ⟨_, _, rfl, _⟩ := h
    rfl
  · obtain ⟨p, r, rfl, R, ok, k⟩ := h
    have nd := scIsRow.nd
    have hu := hr.units
    obtain ⟨tD, zD⟩ := Z.day
    obtain ⟨q, hp, Y⟩ := R.ex
    refine ⟨_, (pss_cons (ps_if (PW.pt (pw_or (pt_not (pt_val (pe_callB call_isi (by rfl) T.isinstance (by decide +kernel) (pa_cons (pv 0) (pa_cons (pe_bltn (v := .ty "tuple") (by rfl) T.tuple (by decide +kernel) rfl) pa_nil))))) (pw_or1 (pt_cmpR op_ne (pe_callB call_len_seq (by rfl) T.len (by decide +kernel) (pa_cons (pv 0) pa_nil)) pe_int (nomark _)))))
        (pss_one (ps_ret pe_bl))
        pss_nil)
      (pss_cons (ps_asg (pv 0) (pg_tup (by rfl) (pgs_cons (pg_name (i := 1) nd rfl (Or.inl rfl)) (pgs_cons (pg_name (i := 2) nd rfl (Or.inl rfl)) (pgs_cons (pg_name (i := 3) nd rfl (Or.inl rfl)) (pgs_cons (pg_name (i := 4) nd rfl (Or.inl rfl)) pgs_nil))))))
      (pss_cons (ps_if (PW.pt (pw_or (pt_not (pt_val (pe_df D_is_yearly (hr.mono (by decide)) (pa_cons (pv 1) pa_nil)))) (pw_or (pt_not (pt_val (pe_df D_is_number (hr.mono (by decide)) (pa_cons (pv 2) pa_nil)))) (pw_or1 (pt_not (pt_chain op_le op_le (pe_un un_neg (pe_glob (v := .int 86400) rfl zD ⟨_, rfl⟩)) (pv 2) (pe_op op_mul pe_int (pe_glob (v := .int 86400) rfl zD ⟨_, rfl⟩))))))))
        (pss_one (ps_ret pe_bl))
        pss_nil)
      (pss_one (ps_ret (pe_and (pe_cmpR (show OpR _ _ (rIn K false) from op_in_seq) (pv 3) (pe_tup (pa_cons pe_str (pa_cons pe_str pa_nil))) rfl) (pe_one (pe_df D_is_offset (hr.mono (by decide)) (pa_cons (pv 4) pa_nil))))))))), ?_⟩
    walk_at "rd"
    refine ⟨_, _, _, _, true, rfl, .ty "tuple", .base (.tup hp), kit_ty (by decide +kernel), ?_⟩
    walk_at "rd"
    refine ⟨p, _, rfl, .inr (SqT.of hp), ?_⟩
    walk_at "rd"
    refine ⟨p, _, rfl, SqT.of hp, rfl, ?_⟩
    walk_at "rd"
    refine ⟨q, r.yd, rfl, Y, fun H1 S1 => ⟨true, rfl, ?_⟩⟩
    walk_at "rd"
    refine iteTT (decide_eq_true ok.2.1.1) ?_
    walk_at "rd"
    refine ⟨.inl ⟨by decide, by decide⟩, ?_⟩
    walk_at "rd"
    refine iteFF (by rw [decide_eq_true (show r.sec ≤ 2 * 86400 from ok.2.1.2)]; rfl) ?_
    walk_at "rd"
    refine ⟨by show 2 ≤ sizeLine; decide, fun t ht => ?_⟩
    have S2 := Same.new (o := .tup [.str ("utc" : Str), .str ("wall" : Str)]) ht
    refine ⟨t, _, rfl, .inr (SqT.of (by rw [upd_same])), rfl, rfl, ?_⟩
    have eb : inV (V.str (bas r.wall)) [V.str ("utc" : Str), V.str ("wall" : Str)] = true := by cases r.wall <;> rfl
    rw [eb]
    walk_at "rd"
    exact ⟨ok.2.2.1, ok.2.2.2, k _ (S1.trans S2)⟩
/-! ### row_seconds -/
def spRowSec : Sp := fun vs H Q _ => ∃ (p q : Addr) (rs : List Row) (k : Int × Bool), vs = [.ref p, .ref q] ∧ RulAt H p rs ∧ RulOk rs ∧ H q = some (.tup [.int k.1, .bl k.2]) ∧
  ∀ (H' : Hp) (L : Addr), Same H H' → H L = none → H' L = some (.lst ((secs rs k.1 k.2).map V.int)) → Q (.ref L) H'
theorem scRowSeconds : FnScope ["rule", "kind", "seconds", "index", "yearly", "second", "basis", "_", "ahead"] ["rule", "kind"] (defScope sRowSeconds) := ⟨rfl, rfl, rfl, by decide +kernel, rfl, by decide +kernel, by decide +kernel⟩
theorem ok_rowsec {f : Addr} {fd : FuncData} (F : Fun K "row_seconds" "row_seconds" sRowSeconds f fd) (T : Nm mg) (Z : Cz mg) (D_number_in : Df P w K mg base 2 "number_in" ["yearly", "kind"] [] spNumIn) : FnOk P w K mg base CX0 3 f fd ["rule", "kind"] spRowSec := by
  refine F.ok scRowSeconds (fun vs H Q E h => ?_) (fun cdv A outer s H vs Q E hr h => ?_)
  · obtain ⟨_, _, _, _, rfl, _⟩ := h
    rfl
  · obtain ⟨p, q, rs, kk, rfl, R, ok, hq, k⟩ := h
    have nd := scRowSeconds.nd
    have hu := hr.units
    obtain ⟨tD, zD⟩ := Z.day
    obtain ⟨ps, hp, rows⟩ := R.ex
    refine ⟨_, (pss_cons (ps_set (i := 2) nd rfl (Or.inl rfl) (pe_lst pa_nil))
      (pss_cons (ps_for PassesOwn.never rfl (pi_enumT (by rfl) T.enumerate (pa_cons (pv 0) pa_nil)) (pg_tup (by rfl) (pgs_cons (pg_name (i := 3) nd rfl (Or.inl rfl)) (pgs_cons (pg_tup (by rfl) (pgs_cons (pg_name (i := 4) nd rfl (Or.inl rfl)) (pgs_cons (pg_name (i := 5) nd rfl (Or.inl rfl)) (pgs_cons (pg_name (i := 6) nd rfl (Or.inl rfl)) (pgs_cons (pg_name (i := 7) nd rfl (Or.inl rfl)) pgs_nil))))) pgs_nil)))
        (pss_cons (ps_set (i := 8) nd rfl (Or.inl rfl) (pe_ifExp (pt_cmpR op_eq (pv 6) pe_str (nomark _)) (pe_ix ix_tup (pe_ix ix_tup (pv 0) (pe_op op_sub (pv 3) pe_int) (fun _ _ => rfl)) pe_int (fun _ _ => rfl)) pe_int))
        (pss_one (ps_expr (pe_bm PySem.F.plainAttrs_list PySem.F.slot_list_append PySem.F.type_list_append mt_append (pv 2) (pa_cons (pe_op op_sub (pe_op op_add (pe_op op_mul (pe_glob (v := .int 86400) rfl zD ⟨_, rfl⟩) (pe_df D_number_in (hr.mono (by decide)) (pa_cons (pv 4) (pa_cons (pv 1) pa_nil)))) (pv 5)) (pv 8)) pa_nil))))))
      (pss_one (ps_ret (pv 2))))), ?_⟩
    walk_at "rd"
    refine ⟨by show 0 ≤ sizeLine; decide, fun L hL => ?_⟩
    walk_at "rd"
    have lp : ps.length = rs.length := rows.length
    have S0 := Same.new (o := .lst []) hL
    refine ⟨p, ps.map V.ref, rfl, SqT.of (S0 _ _ hp), for_it walk_enumT (fun i σ H' => Same H H' ∧ H' L = some (.lst (((secs rs kk.1 kk.2).take i).map V.int)) ∧ ∃ v3 v4 v5 v6 v7 v8 : Option V, σ = [some (.ref p), some (.ref q), some (.ref L), v3, v4, v5, v6, v7, v8])
      ⟨S0, by rw [upd_same]; rfl, _, _, _, _, _, _, rfl⟩ (fun i σ H' _ inv => SqT.of (inv.1 _ _ hp)) (fun i x σ H3 H4 hi inv y => ?_) fun σ H3 inv => ?_⟩
    · obtain ⟨S3, hL3, v3, v4, v5, v6, v7, v8, rfl⟩ := inv
      obtain ⟨t, x1, x2, rfl, nt, rfl, e1, e2⟩ := y
      obtain ⟨rp, hrp⟩ : ∃ rp, ps[i]? = some rp := ⟨_, List.getElem?_eq_getElem (by rw [List.length_map] at hi; exact hi)⟩
      have hi' : i < ps.length := by rw [List.length_map] at hi; exact hi
      have hip : (List.map V.ref ps)[i]? = some (.ref rp) := by rw [List.getElem?_map, hrp]; rfl
      have e2' : (List.map V.ref ps)[i]? = some x2 := e2
      have e1' : some (V.int (i : Nat)) = some x1 := e1
      rw [hip] at e2'
      cases e2'
      cases e1'
      obtain ⟨r, hr, Rw⟩ := paired_get' rows i rp hrp
      have nt' : H t = none := by
        cases e : H t with
        | none => rfl
        | some o => rw [S3 _ _ e] at nt; cases nt
      have S4 := S3.wr (o := .tup [.int (i : Nat), .ref rp]) nt'
      have Lt : L ≠ t := fun g => by rw [← g, hL3] at nt; cases nt
      have hL4 : (upd H3 t (.tup [.int (i : Nat), .ref rp])) L = some (.lst (((secs rs kk.1 kk.2).take i).map V.int)) := by rw [upd_ne Lt]; exact hL3
      have g4 : (upd H3 t (.tup [.int (i : Nat), .ref rp])) t = some (.tup [.int (i : Nat), .ref rp]) := upd_same
      generalize (upd H3 t (.tup [.int (i : Nat), .ref rp])) = H4 at *
      obtain ⟨yq, hrow, Yr⟩ := Rw.ex
      refine ⟨t, _, rfl, SqT.of g4, rfl, ?_⟩
      walk_at "rd"
      refine ⟨rp, _, rfl, SqT.of (S4 _ _ hrow), rfl, ?_⟩
      walk_at "rd"
      have il : (if i = 0 then ps.length - 1 else i - 1) < ps.length := by split <;> omega
      cases hw : r.wall with
      | true =>
        refine iteTT (by decide) ?_
        obtain ⟨pj, hpj⟩ : ∃ pj, ps[if i = 0 then ps.length - 1 else i - 1]? = some pj := ⟨_, List.getElem?_eq_getElem il⟩
        obtain ⟨rj, hrj, Rj⟩ := paired_get' rows _ pj hpj
        obtain ⟨yj, hrowj, _⟩ := Rj.ex
        have pv : prevOff rs i = rj.off := by
          unfold prevOff
          rw [← lp, hrj]
          rfl
        walk_at "rd"
        refine ⟨p, _, _, _, rfl, rfl, SqT.of (S4 _ _ hp), atI_prev (v := V.ref pj) (by rw [List.length_map]; exact hi') (by rw [List.length_map, List.getElem?_map, hpj]; rfl), ?_⟩
        walk_at "rd"
        refine ⟨pj, _, _, _, rfl, rfl, SqT.of (S4 _ _ hrowj), atI_nat (j := 3) rfl, ?_⟩
        walk_at "rd"
        refine ⟨.inl ⟨rfl, _, SqL.of hL4⟩, ?_⟩
        walk_at "rd"
        refine ⟨yq, q, r.yd, kk.1, kk.2, rfl, Yr.same S4, S4 _ _ hq, fun H5 S5 => ?_⟩
        have hL5 := S5 _ _ hL4
        walk_at "rd"
        refine ⟨.inl ⟨by decide, by decide⟩, ?_⟩
        walk_at "rd"
        refine ⟨L, _, _, rfl, rfl, hL5, ?_, ?_⟩
        · rw [List.length_map]
          exact szl (by have := List.length_take_le i (secs rs kk.1 kk.2); have := ok.four; omega)
        · walk_at "rd"
          refine ⟨(S4.trans S5).wr hL, ?_, _, _, _, _, _, _, rfl⟩
          rw [upd_same, List.take_succ, secs_get hr, List.map_append]
          unfold secAt
          rw [hw]
          rw [if_pos rfl, pv]
          rfl
      | false =>
        refine iteFF (by decide) ?_
        walk_at "rd"
        refine ⟨.inl ⟨rfl, _, SqL.of hL4⟩, ?_⟩
        walk_at "rd"
        refine ⟨yq, q, r.yd, kk.1, kk.2, rfl, Yr.same S4, S4 _ _ hq, fun H5 S5 => ?_⟩
        have hL5 := S5 _ _ hL4
        walk_at "rd"
        refine ⟨.inl ⟨by decide, by decide⟩, ?_⟩
        walk_at "rd"
        refine ⟨L, _, _, rfl, rfl, hL5, ?_, ?_⟩
        · rw [List.length_map]
          exact szl (by have := List.length_take_le i (secs rs kk.1 kk.2); have := ok.four; omega)
        · walk_at "rd"
          refine ⟨(S4.trans S5).wr hL, ?_, _, _, _, _, _, _, rfl⟩
          rw [upd_same, List.take_succ, secs_get hr, List.map_append]
          unfold secAt
          rw [hw]
          rfl
    · obtain ⟨S3, hL3, v3, v4, v5, v6, v7, v8, rfl⟩ := inv
      walk_at "rd"
      refine k H3 L S3 hL ?_
      rw [hL3, List.length_map, lp, ← secs_len rs kk.1 kk.2, List.take_length]
/-! ### first_misplaced -/
def optN : Option Nat → V
  | none => .non
  | some i => .int (i : Nat)
def spMisp : Sp := fun vs H Q _ => ∃ (L : Addr) (e : Int) (xs : List Int), vs = [.ref L, .int e] ∧ H L = some (.lst (xs.map V.int)) ∧ ∀ H', Same H H' → Q (optN (mis (-1) e xs 0)) H'
theorem scFirstMisplaced : FnScope ["seconds", "length", "before", "index", "second"] ["seconds", "length"] (defScope sFirstMisplaced) := ⟨rfl, rfl, rfl, by decide +kernel, rfl, by decide +kernel, by decide +kernel⟩
theorem ok_misp {f : Addr} {fd : FuncData} (F : Fun K "first_misplaced" "first_misplaced" sFirstMisplaced f fd) (T : Nm mg) : FnOk P w K mg base CX0 1 f fd ["seconds", "length"] spMisp := by
  refine F.ok scFirstMisplaced (fun vs H Q E h => ?_) (fun cdv A outer s H vs Q E hr h => ?_)
  · obtain ⟨_, _, _, rfl, _⟩ := h
    rfl
  · obtain ⟨L, e, xs, rfl, hL, k⟩ := h
    have nd := scFirstMisplaced.nd
    have hu := hr.units
    refine ⟨_, (pss_cons (ps_set (i := 2) nd rfl (Or.inl rfl) (pe_un un_neg pe_int))
      (pss_cons (ps_for PassesOwn.never rfl (pi_enum (by rfl) T.enumerate (pa_cons (pv 0) pa_nil)) (pg_tup (by rfl) (pgs_cons (pg_name (i := 3) nd rfl (Or.inl rfl)) (pgs_cons (pg_name (i := 4) nd rfl (Or.inl rfl)) pgs_nil)))
        (pss_cons (ps_if (PW.pt (pw_or (pt_cmpR op_le (pv 4) (pv 2) (nomark _)) (pw_or1 (pt_cmpR op_ge (pv 4) (pv 1) (nomark _)))))
          (pss_one (ps_ret (pv 3)))
          pss_nil)
        (pss_one (ps_set (i := 2) nd rfl (Or.inl rfl) (pv 4)))))
      (pss_one (ps_ret pe_non)))), ?_⟩
    walk_at "rd"
    refine ⟨L, xs.map V.int, rfl, SqL.of hL, for_it walk_enum (fun i σ H' => Same H H' ∧ ∃ (b : Int) (v3 v4 : Option V), mis (-1) e xs 0 = mis b e (xs.drop i) i ∧ σ = [some (.ref L), some (.int e), some (.int b), v3, v4])
      ⟨Same.refl _, -1, _, _, rfl, rfl⟩ (fun i σ H' _ inv => SqL.of (inv.1 _ _ hL)) (fun i x σ H3 H4 hi inv y => ?_) fun σ H3 inv => ?_⟩
    · obtain ⟨S3, b, v3, v4, em, rfl⟩ := inv
      obtain ⟨t, x1, x2, rfl, nt, rfl, e1, e2⟩ := y
      have e1' : some (V.int (i : Nat)) = some x1 := e1
      have e2' : (xs.map V.int)[i]? = some x2 := e2
      cases e1'
      obtain ⟨z, hz, rfl⟩ := ints_get e2'
      have S4 := S3.trans (Same.new (o := .tup [.int (i : Nat), .int z]) nt)
      refine ⟨t, _, rfl, SqT.of upd_same, rfl, ?_⟩
      rw [mis_at hz] at em
      walk_at "rd"
      by_cases c1 : z ≤ b
      · refine iteTT (decide_eq_true c1) ?_
        walk_at "rd"
        rw [if_pos (.inl c1)] at em
        have k' := k _ S4
        rw [em] at k'
        exact k'
      · refine iteFF (decide_eq_false c1) ?_
        walk_at "rd"
        by_cases c2 : e ≤ z
        · refine iteTT (decide_eq_true c2) ?_
          walk_at "rd"
          rw [if_pos (.inr c2)] at em
          have k' := k _ S4
          rw [em] at k'
          exact k'
        · refine iteFF (decide_eq_false c2) ?_
          walk_at "rd"
          rw [if_neg (by rintro (g | g) <;> contradiction)] at em
          exact ⟨S4, z, _, _, em, rfl⟩
    · obtain ⟨S3, b, v3, v4, em, rfl⟩ := inv
      walk_at "rd"
      rw [mis_end (by simp)] at em
      have k' := k _ S3
      rw [em] at k'
      exact k'
end
end Cf
namespace Cf
open PySem L2
set_option hygiene false
local macro_rules | `(tactic| walk_at "len") => `(tactic| repeat (first | (obtain ⟨e, _⟩ := h; subst e; rfl; done) | (obtain ⟨_, h⟩ := h)))
local macro_rules | `(tactic| walk_at "rd") => `(tactic| repeat (first | refine ⟨_, rfl, ?_⟩ | refine ⟨_, _, rfl, rfl, ?_⟩ | refine ⟨rfl, ?_⟩ | refine ⟨_, _, rfl, ?_⟩))
local macro_rules | `(tactic| walk_at "yes") => `(tactic| (dsimp only [tYes]; rw [if_pos rfl]))
set_option hygiene true
section
variable {P : Program} {w : World} {K : PySem.W.Frag} {mg : Str → Option Value} {base : Heap} {cN : Addr}
/-! ### errors let out -/
/-- what the __init__ of such a class promises: the fields stand in a new dict -/
def spI (C : Addr) (n : Nat) (mk : List V → List (Str × V)) : Sp := fun vs H Q _ => ∃ (a : Addr) (us : List V), vs = .ref a :: us ∧ us.length = n ∧ H a = some (exo a C none) ∧
  ∀ (H' : Hp) (dx : Addr), (∀ b o, H b = some o → b ≠ a → H' b = some o) → H dx = none → dx ≠ a → H' a = some (exo a C (some dx)) → H' dx = some (exd dx (mk us)) → Q .non H'
def mkO : List V → List (Str × V) := fun us => [("index", us.getD 1 .non), ("year", us.getD 0 .non)]
theorem scInitO : FnScope ["self", "year", "index"] ["self", "year", "index"] (defScope sBadOrderInit) := ⟨rfl, rfl, rfl, by decide +kernel, rfl, by decide +kernel, by decide +kernel⟩
theorem ok_initO {C f : Addr} {fd : FuncData} (F : Fun K "__init__" "BadOrder.__init__" sBadOrderInit f fd) (O : OexC K C) (h0 : PySem.W.findIn K (.ref C) "year" = some none) (h1 : PySem.W.findIn K (.ref C) "index" = some none) : FnOk P w K mg base (L2.CX P w) 1 f fd ["self", "year", "index"] (spI C 2 mkO) := by
  refine F.okX scInitO (fun vs H Q E h => ?_) (fun cdv A outer s H vs Q E hr h => ?_)
  · obtain ⟨a, us, rfl, l, _⟩ := h
    match us, l with
    | [_, _], _ => rfl
  · obtain ⟨a, us, rfl, l, ha, go⟩ := h
    match us, l, go with
    | [v, u], _, go =>
      refine ⟨_, pss_cons (ps_ost (pv 0) (pv 1)) (pss_one (ps_ost (pv 0) (pv 2))), ?_⟩
      refine ⟨_, rfl, _, rfl, a, C, rfl, O, h0, .inl ⟨ha, fun dx hx ne => ?_⟩⟩
      refine ⟨_, rfl, _, rfl, a, C, rfl, O, h1, .inr ⟨dx, _, upd_same, by rw [upd_ne ne]; exact upd_same, by show (1 : Nat) ≤ 900; decide, ?_⟩⟩
      exact go _ dx (fun b o e nb => by rw [upd_ne (ne_of_none e hx), upd_ne nb, upd_ne (ne_of_none e hx)]; exact e) hx ne (by rw [upd_ne (Ne.symm ne)]; exact upd_same) upd_same
/-- a def that may let errors out, as its callers see it -/
structure Dx (P : Program) (w : World) (K : PySem.W.Frag) (mg : Str → Option Value) (base : Heap) (k : Nat) (x : Str) (ps : List Str) (dvs : List V) (sp : Sp) : Prop where
  ex : ∃ (f : Addr) (fd : FuncData) (ds : List Value), FnOk P w K mg base (L2.CX P w) k f fd ps sp ∧ mg x = some (.ref f) ∧ PySem.W.keepIn K (.ref f) = true ∧ Vals dvs ds ∧ Binds K fd ps ds
section
variable {X : Cx} {W : WX} {k : Nat} {x : Str} {ps : List Str} {sp : Sp} {dvs : List V} {p pos : Pos} {e : Expr} {es : List Expr} {t : TA} {rest : List Stmt}
theorem pe_dx (D : Dx X.prog X.w X.K X.mg X.base k x ps dvs sp) (hr : Room k X.A) (tk : L2.Takes X W) (ha : PA X (e :: es) t) (hg : Gl X x := by rfl) (hdb : (x == ("__debug__" : Str)) = false := by decide)
    (he : starEach (e :: es) X.env = (false, eval e X.env) :: starEach es X.env := by rfl) (hpl : (backTo pos (starEach es X.env)).any (·.1) = false := by rfl) :
    PE X (.Call (.Name x p) (e :: es) [] pos) (tCallSD sp dvs (WE W) t) := by
  obtain ⟨f, fd, ds, F, m, kp, hv, b⟩ := D.ex
  exact pe_callSD F hr hg m kp b hv (fun σ => L2.passAt tk σ) ha hdb he hpl
/-- what is never reached -/
theorem pss_never : PSs X rest (fun _ _ _ => False) := ⟨fun _ _ _ _ _ _ h => h.elim⟩
end
theorem raise_read {C : Addr} {n : Nat} {mk : List V → List (Str × V)} {vs : List V} {H1 : Hp} {Q : XK} (ln : vs.length = n) (go : ∀ (dd : Addr) (H2 : Hp), Same H1 H2 → H1 dd = none → H2 dd = some (.xd (mk vs)) → Q (.ref C) (some dd) H2) :
    ∀ a, H1 a = none → spI C n mk (.ref a :: (vs ++ [])) (upd H1 a (exo a C none)) (fun v H2 => v = .non ∧ ∃ (d : Addr) (fs : List (Str × V)), H2 a = some (exo a C (some d)) ∧ H2 d = some (exd d fs) ∧ H1 d = none ∧ Q (.ref C) (some d) (upd (del H2 a) d (.xd fs))) (fun _ _ _ => False) := by
  intro a ha
  rw [List.append_nil]
  refine ⟨a, vs, rfl, ln, upd_same, fun H' dx keep hx ne at_ ad => ⟨rfl, dx, _, at_, ad, ?_, ?_⟩⟩
  · rw [upd_ne ne] at hx
    exact hx
  · have h0 : H1 dx = none := by rw [upd_ne ne] at hx; exact hx
    refine go dx _ (fun b o e => ?_) h0 upd_same
    have nb := ne_of_none e ha
    rw [upd_ne (ne_of_none e h0), del_ne nb]
    exact keep b o (by rw [upd_ne nb]; exact e) nb
/-- a class that is raised -/
structure Rs (P : Program) (w : World) (K : PySem.W.Frag) (mg : Str → Option Value) (base : Heap) (x : Str) (C : Addr) (n : Nat) (mk : List V → List (Str × V)) : Prop where
  ox : OexC K C
  m : mg x = some (.ref C)
  ex : ∃ (fI : Addr) (fd : FuncData) (ps : List Str), PySem.W.findIn K (.ref C) "__init__" = some (some (.ref fI)) ∧ PySem.W.typeIn K (.ref fI) = some (.type "function") ∧ FnOk P w K mg base (L2.CX P w) 1 fI fd ps (spI C n mk) ∧ Binds K fd ps []
theorem pmk_rs {X : Cx} {x : Str} {C : Addr} {n : Nat} {mk : List V → List (Str × V)} {e : Expr} {es : List Expr} {ta : TA} {p pos : Pos} {W : WX} (R : Rs X.prog X.w X.K X.mg X.base x C n mk) (hr : Room 2 X.A) (tk : L2.Takes X W) (ha : PA X (e :: es) ta) (hg : Gl X x := by rfl)
    (hdb : (x == ("__debug__" : Str)) = false := by decide) (he : starEach (e :: es) X.env = (false, eval e X.env) :: starEach es X.env := by rfl) (hpl : (backTo pos (starEach es X.env)).any (·.1) = false := by rfl) :
    PMk X (.Call (.Name x p) (e :: es) [] pos) (tMkO C (spI C n mk) [] ta) := by
  obtain ⟨fI, fd, ps, h1, h2, F, b⟩ := R.ex
  exact pmk_oex R.ox h1 h2 F hr b .nil (L2.passes_call tk (fun _ _ _ _ z => z.elim)) hg R.m ha hdb he hpl
end
end Cf
namespace Cf
open PySem L2
set_option hygiene false
local macro_rules | `(tactic| walk_at "len") => `(tactic| repeat (first | (obtain ⟨e, _⟩ := h; subst e; rfl; done) | (obtain ⟨_, h⟩ := h)))
local macro_rules | `(tactic| walk_at "rd") => `(tactic| repeat (first | refine ⟨_, rfl, ?_⟩ | refine ⟨_, _, rfl, rfl, ?_⟩ | refine ⟨rfl, ?_⟩ | refine ⟨_, _, rfl, ?_⟩))
local macro_rules | `(tactic| walk_at "yes") => `(tactic| (dsimp only [tYes]; rw [if_pos rfl]))
set_option hygiene true
section
variable {P : Program} {w : World} {K : PySem.W.Frag} {mg : Str → Option Value} {base : Heap} {cO : Addr}
/-! ### check_order -/
/-- BadOrder(y, i) is let out -/
def OutO (cO : Addr) (y : Int) (i : Nat) (E : XK) (H : Hp) : Prop := ∀ (dd : Addr) (H' : Hp), Same H H' → H dd = none → H' dd = some (.xd [("index", .int (i : Nat)), ("year", .int y)]) → E (.ref cO) (some dd) H'
/-- the kinds of years in which a row is out of order -/
def wE (rs : List Row) (qs : List Addr) (i : Nat) : List Ent := ((qs.zip kinds).take i).filterMap fun x => (misK rs x.2).map fun j => (x.1, keyK x.2, V.int (j : Nat))
theorem wE_succ {rs : List Row} {qs : List Addr} {i : Nat} {q : Addr} {k : Int × Bool} (hq : qs[i]? = some q) (hk : kinds[i]? = some k) : wE rs qs (i + 1) = wE rs qs i ++ (match misK rs k with | none => [] | some j => [(q, keyK k, V.int (j : Nat))]) := by
  have h : (qs.zip kinds)[i]? = some (q, k) := by rw [List.getElem?_zip_eq_some]; exact ⟨hq, hk⟩
  unfold wE
  rw [List.take_succ, h, List.filterMap_append]
  congr 1
  cases e : misK rs k <;> simp [e]
theorem wE_key {rs : List Row} {qs : List Addr} {i : Nat} {x : Ent} (h : x ∈ wE rs qs i) : ∃ m, m < i ∧ ∃ k, kinds[m]? = some k ∧ qs[m]? = some x.1 ∧ x.2.1 = keyK k ∧ ∃ j : Nat, misK rs k = some j ∧ x.2.2 = V.int j := by
  unfold wE at h
  obtain ⟨⟨q, k⟩, hm, e⟩ := List.mem_filterMap.mp h
  obtain ⟨m, hm1, hm2⟩ := List.mem_iff_getElem.mp hm
  rw [List.length_take] at hm1
  rw [List.getElem_take] at hm2
  have hz : (qs.zip kinds)[m]? = some (q, k) := by rw [List.getElem?_eq_getElem (by omega), hm2]
  rw [List.getElem?_zip_eq_some] at hz
  cases g : misK rs k with
  | none => rw [g] at e; cases e
  | some j =>
    rw [g] at e
    cases e
    exact ⟨m, by omega, k, hz.2, hz.1, rfl, j, g, rfl⟩
theorem keyK_inj : ∀ {m n : Nat} {k l : Int × Bool}, kinds[m]? = some k → kinds[n]? = some l → keyK k = keyK l → m = n := by
  intro m n k l h1 h2 e
  have a : (kinds.map keyK)[m]? = some (keyK k) := by rw [List.getElem?_map, h1]; rfl
  have b : (kinds.map keyK)[n]? = some (keyK l) := by rw [List.getElem?_map, h2]; rfl
  have hm : m < (kinds.map keyK).length := (List.getElem?_eq_some_iff.mp a).1
  exact (List.getElem?_inj hm keyK_nodup).mp (by rw [a, b, e])
theorem wE_new {rs : List Row} {qs : List Addr} {i : Nat} {k : Int × Bool} (hk : kinds[i]? = some k) : keyK k ∉ (wE rs qs i).map fun x => x.2.1 := by
  intro h
  obtain ⟨x, hx, e⟩ := List.mem_map.mp h
  obtain ⟨m, hm, k', hk', _, e', _⟩ := wE_key hx
  have := keyK_inj hk' hk (by rw [← e', e])
  omega
theorem wE_keysAt {H : Hp} {rs : List Row} {qs : List Addr} {i : Nat} (h : Paired (KindAt H) qs kinds) : KeysAt H (wE rs qs i) := fun x hx => by
  obtain ⟨m, _, k, hk, hq, e, _⟩ := wE_key hx
  obtain ⟨k', hk', at_⟩ := paired_get' h m x.1 hq
  rw [hk] at hk'
  cases hk'
  rw [e]
  exact kindAt_key at_
theorem wE_len {rs : List Row} {qs : List Addr} {i : Nat} : (wE rs qs i).length ≤ 14 := by
  unfold wE
  refine Nat.le_trans (List.length_filterMap_le _ _) ?_
  rw [List.length_take, List.length_zip]
  have : kinds.length = 14 := rfl
  omega
theorem wE_nodup {rs : List Row} {qs : List Addr} (lq : qs.length = 14) : ∀ i : Nat, i ≤ 14 → ((wE rs qs i).map fun x => x.2.1).Nodup
  | 0, _ => by simp [wE]
  | i + 1, h => by
    obtain ⟨q, hq⟩ : ∃ q, qs[i]? = some q := ⟨_, List.getElem?_eq_getElem (by omega)⟩
    obtain ⟨k, hk⟩ : ∃ k, kinds[i]? = some k := ⟨_, List.getElem?_eq_getElem (show i < 14 by omega)⟩
    have ih := wE_nodup (rs := rs) lq i (by omega)
    rw [wE_succ hq hk]
    cases e : misK rs k with
    | none => simpa using ih
    | some j =>
      rw [List.map_append, List.nodup_append]
      refine ⟨ih, by simp, fun a ha b hb e => ?_⟩
      simp only [List.map_cons, List.map_nil, List.mem_singleton] at hb
      subst hb e
      exact wE_new hk ha
theorem wE_mem {rs : List Row} {qs : List Addr} {m : Nat} {q : Addr} {k : Int × Bool} {j : Nat} (hq : qs[m]? = some q) (hk : kinds[m]? = some k) (h : misK rs k = some j) : (q, keyK k, V.int (j : Nat)) ∈ wE rs qs 14 := by
  unfold wE
  have hz : (qs.zip kinds)[m]? = some (q, k) := by rw [List.getElem?_zip_eq_some]; exact ⟨hq, hk⟩
  have l : (qs.zip kinds).length ≤ 14 := by rw [List.length_zip]; have : kinds.length = 14 := rfl; omega
  rw [List.take_of_length_le l]
  exact List.mem_filterMap.mpr ⟨(q, k), List.mem_of_getElem? hz, by simp [h]⟩
theorem wE_val {rs : List Row} {qs : List Addr} {k : Int × Bool} (lq : qs.length = 14) (hk : k ∈ kinds) : valK (wE rs qs 14) (keyK k) = (misK rs k).map fun j : Nat => V.int j := by
  obtain ⟨m, hm, em⟩ := List.mem_iff_getElem.mp hk
  have hk' : kinds[m]? = some k := by rw [List.getElem?_eq_getElem hm, em]
  cases e : misK rs k with
  | none =>
    refine valK_none fun h => ?_
    obtain ⟨x, hx, e1⟩ := List.mem_map.mp h
    obtain ⟨n, _, k2, hk2, _, e2, j, e3, _⟩ := wE_key hx
    have := keyK_inj hk2 hk' (by rw [← e2, e1])
    subst this
    rw [hk2] at hk'
    cases hk'
    rw [e] at e3; cases e3
  | some j =>
    obtain ⟨q, hq⟩ : ∃ q, qs[m]? = some q := ⟨_, List.getElem?_eq_getElem (by rw [lq]; exact hm)⟩
    have mem := wE_mem hq hk' e
    obtain ⟨n, hn, en⟩ := List.mem_iff_getElem.mp mem
    exact valK_get (wE_nodup lq 14 (Nat.le_refl _)) (show (wE rs qs 14)[n]? = some (q, keyK k, V.int (j : Nat)) by rw [List.getElem?_eq_getElem hn, en])
theorem wE_empty {rs : List Row} {qs : List Addr} (lq : qs.length = 14) : (wE rs qs 14).isEmpty = true ↔ ∀ k ∈ kinds, misK rs k = none := by
  rw [List.isEmpty_iff]
  constructor
  · intro h k hk
    have v := wE_val (rs := rs) lq hk
    rw [h] at v
    cases e : misK rs k with
    | none => rfl
    | some j => rw [e] at v; cases v
  · intro h
    cases e : wE rs qs 14 with
    | nil => rfl
    | cons x xs =>
      obtain ⟨m, _, k, hk, _, _, j, e2, _⟩ := wE_key (rs := rs) (qs := qs) (i := 14) (x := x) (by rw [e]; exact List.mem_cons_self)
      rw [h k (List.mem_of_getElem? hk)] at e2; cases e2
def spOrd (cO : Addr) : Sp := fun vs H Q E => ∃ (p : Addr) (rs : List Row), vs = [.ref p] ∧ RulAt H p rs ∧ RulOk rs ∧ ((∀ k ∈ kinds, misK rs k = none) → ∀ H', Same H H' → Q .non H') ∧ ∀ y i, Wrong rs y i → OutO cO y i E H
theorem scCheckOrder : FnScope ["rule", "wrong", "kind", "index", "year"] ["rule"] (defScope sCheckOrder) := ⟨rfl, rfl, rfl, by decide +kernel, rfl, by decide +kernel, by decide +kernel⟩
set_option maxHeartbeats 1000000 in
theorem ok_ord {f : Addr} {fd : FuncData} (F : Fun K "check_order" "check_order" sCheckOrder f fd) (T : Nm mg) (Z : Cz mg) (C : Cn K mg) (R : Rs P w K mg base "BadOrder" cO 2 mkO) (D_all_kinds : Df P w K mg base 1 "all_kinds" [] [] spAllKinds) (D_row_seconds : Df P w K mg base 3 "row_seconds" ["rule", "kind"] [] spRowSec) (D_first_misplaced : Df P w K mg base 1 "first_misplaced" ["seconds", "length"] [] spMisp) (D_month_start : Df P w K mg base 1 "month_start" ["month", "leap"] [] spMst) (D_kind_of : Df P w K mg base 4 "kind_of" ["year"] [] spKindOf) :
    FnOk P w K mg base (L2.CX P w) 5 f fd ["rule"] (spOrd cO) := by
  refine F.okX scCheckOrder (fun vs H Q E h => ?_) (fun cdv A outer s H vs Q E hr h => ?_)
  · obtain ⟨_, _, rfl, _⟩ := h
    rfl
  · obtain ⟨p, rs, rfl, Rl, ok, k0, k1'⟩ := h
    have nd := scCheckOrder.nd
    have hu := hr.units
    obtain ⟨tD, zD⟩ := Z.day
    obtain ⟨t1, c1⟩ := C.cy
    refine ⟨_, (pss_cons (ps_set (i := 1) nd rfl (Or.inl rfl) pe_dnewQ)
      (pss_cons (ps_for (L2.passes_of rfl) rfl (pi_list (pe_df0 D_all_kinds (hr.mono (by decide)))) (pg_name (i := 2) nd rfl (Or.inl rfl))
        (pss_cons (ps_set (i := 3) nd rfl (Or.inl rfl) (pe_df D_first_misplaced (hr.mono (by decide)) (pa_cons (pe_df D_row_seconds (hr.mono (by decide)) (pa_cons (pv 0) (pa_cons (pv 2) pa_nil))) (pa_cons (pe_op op_mul (pe_glob (v := .int 86400) rfl zD ⟨_, rfl⟩) (pe_df D_month_start (hr.mono (by decide)) (pa_cons pe_int (pa_cons (pe_ix ix_tup (pv 2) pe_int (fun _ _ => rfl)) pa_nil)))) pa_nil))))
        (pss_one (ps_if (pt_cmpR op_notN (pv 3) pe_non (nomark _))
          (pss_one (ps_asg (pv 3) (pg_sub (pv 1) (pv 2) (set_K (lt10 hu)))))
          pss_nil))))
      (pss_cons (ps_if (pt_not (pt_truthK (pv 1)))
        (pss_one ps_retN)
        pss_nil)
      (pss_one (ps_for (L2.passes_of rfl) rfl (pi_range2W (by rfl) T.range (pa_cons pe_int (pa_cons (pe_op op_add pe_int (pe_glob (v := .int 400) rfl c1 ⟨_, rfl⟩)) pa_nil))) (pg_name (i := 4) nd rfl (Or.inl rfl))
        (pss_cons (ps_set (i := 2) nd rfl (Or.inl rfl) (pe_df D_kind_of (hr.mono (by decide)) (pa_cons (pv 4) pa_nil)))
        (pss_one (ps_if (pt_cmpR (op_inK (lt10 hu)) (pv 2) (pv 1) rfl)
          (pss_one (ps_raise rfl (L2.takes_of rfl rfl rfl rfl) (pmk_rs R (hr.mono (by decide)) (L2.takes_of rfl rfl rfl rfl) (pa_cons (pv 4) (pa_cons (pe_dgetK (lt10 hu) (pv 1) (pv 2) (fun _ _ => rfl)) pa_nil)))))
          pss_nil)))))))), ?_⟩
    refine fun D hD => ?_
    walk_at "rd"
    refine fun H1 L qs S1 nL ks => ?_
    have lq : qs.length = 14 := paired_len ks.at_
    have Sd := Same.new (o := KDo P w D []) hD
    have d1 := S1 _ _ (show (upd H D (KDo P w D [])) D = some (KDo P w D []) from upd_same)
    have S01 : Same H H1 := Sd.trans S1
    refine ⟨L, rfl, ⟨_, SqL.of ks.lst⟩, for_list (K := K) (a := L) (xs := qs.map V.ref) (fun i σ H' => Same H H' ∧ Paired (KindAt H') qs kinds ∧ H' L = some (.lst (qs.map V.ref)) ∧ H' D = some (KDo P w D (wE rs qs i)) ∧ ∃ v2 v3 v4 : Option V, σ = [some (.ref p), some (.ref D), v2, v3, v4])
      ⟨S01, ks.at_, ks.lst, d1, _, _, _, rfl⟩ (fun i σ H' _ inv => SqL.of inv.2.2.1) (fun i x σ H2 hx inv => ?_) fun σ H2 inv => ?_⟩
    · obtain ⟨S2, ka, hL, d2, v2, v3, v4, rfl⟩ := inv
      obtain ⟨q, hq, rfl⟩ : ∃ q, qs[i]? = some q ∧ x = .ref q := by
        rw [List.getElem?_map] at hx
        cases e : qs[i]? with
        | none => rw [e] at hx; cases hx
        | some q => rw [e] at hx; cases hx; exact ⟨q, rfl, rfl⟩
      obtain ⟨k, hk, kq⟩ := paired_get' ka i q hq
      walk_at "rd"
      refine ⟨p, q, rs, k, rfl, Rl.same S2, ok, kq, fun H3 M S3 nM hM => ?_⟩
      walk_at "rd"
      refine ⟨q, _, _, _, rfl, rfl, SqT.of (S3 _ _ kq), atI_nat (j := 1) rfl, ?_⟩
      refine ⟨13, k.2, rfl, by decide, by decide, fun H4 S4 => ?_⟩
      walk_at "rd"
      refine ⟨.inl ⟨by decide, by decide⟩, ?_⟩
      walk_at "rd"
      refine ⟨M, 86400 * mst 13 k.2, secs rs k.1 k.2, rfl, S4 _ _ hM, fun H5 S5 => ?_⟩
      have em : mis (-1) (86400 * mst 13 k.2) (secs rs k.1 k.2) 0 = misK rs k := rfl
      rw [em]
      have S35 := (S3.trans S4).trans S5
      have S25 := S2.trans S35
      have d5 := S35 _ _ d2
      have ka5 := kinds_same ka S35
      have hL5 := S35 _ _ hL
      cases e : misK rs k with
      | none =>
        walk_at "rd"
        refine ⟨S25, ka5, hL5, ?_, _, _, _, rfl⟩
        rw [wE_succ hq hk, e, List.append_nil]
        exact d5
      | some j =>
        walk_at "rd"
        refine ⟨D, q, wE rs qs i, keyK k, rfl, rfl, d5, wE_keysAt ka5, ?_, kindAt_key (S35 _ _ kq), wE_new hk, ?_⟩
        · have := wE_len (rs := rs) (qs := qs) (i := i)
          exact szl (by omega)
        · have keep : ∀ (b : Addr) (vs : List V), H5 b = some (.tup vs) → (upd H5 D (KDo P w D (wE rs qs i ++ [(q, keyK k, optN (some j))]))) b = some (.tup vs) := fun b vs g => by
            have : b ≠ D := fun z => by rw [z, d5] at g; cases g
            rw [upd_ne this]; exact g
          have LD : L ≠ D := fun z => by rw [z, d5] at hL5; cases hL5
          refine ⟨S25.wr hD, Paired.mapP ka5 fun a b r => keep _ _ r, ?_, ?_, _, _, _, rfl⟩
          · rw [upd_ne LD]; exact hL5
          · rw [upd_same, wE_succ hq hk, e]
            rfl
    · obtain ⟨S2, ka, hL, d2, v2, v3, v4, rfl⟩ := inv
      rw [List.length_map, lq] at d2
      walk_at "rd"
      refine ⟨D, wE rs qs 14, rfl, d2, wE_keysAt ka, ?_⟩
      by_cases al : ∀ k ∈ kinds, misK rs k = none
      · rw [(wE_empty lq).mpr al]
        walk_at "rd"
        exact k0 al _ S2
      · have ne : (wE rs qs 14).isEmpty = false := by
          cases e : (wE rs qs 14).isEmpty with
          | false => rfl
          | true => exact absurd ((wE_empty lq).mp e) al
        rw [ne]
        walk_at "rd"
        have sz4 : Builtin.Range.rangeSize 2000 2400 1 = (400 : Nat) := by decide
        refine ⟨_, _, 400, rfl, sz4, for_rangeC (fun i σ H' => Same H2 H' ∧ (∀ x, 2000 ≤ x → x < 2000 + (i : Int) → wrongY rs x = none) ∧ ∃ v2 v3 v4 : Option V, σ = [some (.ref p), some (.ref D), v2, v3, v4])
          ⟨Same.refl _, fun x h1 h2 => by omega, _, _, _, rfl⟩ (fun i σ H3 hi inv => ?_) fun σ H3 inv => ?_⟩
        · obtain ⟨S3, no, v2, v3, v4, rfl⟩ := inv
          walk_at "rd"
          refine fun H4 kq S4 nk hkq => ?_
          have kb := k1_bd (2000 + (i : Int))
          have S24 := S3.trans S4
          have d4 := S24 _ _ d2
          have ka4 := wE_keysAt (rs := rs) (i := 14) (kinds_same ka S24)
          have ky := kindAt_key (q := kq) (k := (k1 (2000 + (i : Int)), leapB (2000 + (i : Int)))) hkq
          have ev := wE_val (rs := rs) lq (mem_kinds (leapB (2000 + (i : Int))) kb.1 kb.2)
          walk_at "rd"
          refine ⟨D, wE rs qs 14, kq, keyK (k1 (2000 + (i : Int)), leapB (2000 + (i : Int))), rfl, rfl, d4, ka4, ky, ?_⟩
          cases e : misK rs (k1 (2000 + (i : Int)), leapB (2000 + (i : Int))) with
          | none =>
            rw [ev, e]
            walk_at "rd"
            refine ⟨S24, fun x h1 h2 => ?_, _, _, _, rfl⟩
            by_cases c : x = 2000 + (i : Int)
            · rw [c]; exact e
            · exact no x h1 (by omega)
          | some j =>
            rw [ev, e]
            walk_at "rd"
            have lt : 2000 + (i : Int) < 2028 := by
              refine Decidable.byContradiction fun g => al fun k hk => ?_
              obtain ⟨y, y0, y1, yf, yl⟩ := kind_28 hk
              have := no y y0 (by omega)
              unfold wrongY at this
              rw [yf, yl] at this
              exact this
            have W : Wrong rs (2000 + (i : Int)) j := ⟨by omega, lt, e, no⟩
            refine ⟨D, wE rs qs 14, kq, keyK (k1 (2000 + (i : Int)), leapB (2000 + (i : Int))), V.int j, rfl, rfl, d4, ka4, ky, by rw [ev, e]; rfl, ?_⟩
            walk_at "rd"
            have SH := S2.trans S24
            exact ⟨by show 2 ≤ 1000; decide, raise_read rfl fun dd H5 s5 h0 h1 => k1' _ _ W dd H5 (SH.trans s5) (SH.free h0) h1⟩
        · obtain ⟨S3, no, v2, v3, v4, rfl⟩ := inv
          refine absurd (fun k hk => ?_) al
          obtain ⟨y, y0, y1, yf, yl⟩ := kind_28 hk
          have := no y y0 (by omega)
          unfold wrongY at this
          rw [yf, yl] at this
          exact this
end
end Cf
namespace Cf
open PySem L2
set_option hygiene false
local macro_rules | `(tactic| walk_at "len") => `(tactic| repeat (first | (obtain ⟨e, _⟩ := h; subst e; rfl; done) | (obtain ⟨_, h⟩ := h)))
local macro_rules | `(tactic| walk_at "rd") => `(tactic| repeat (first | refine ⟨_, rfl, ?_⟩ | refine ⟨_, _, rfl, rfl, ?_⟩ | refine ⟨rfl, ?_⟩ | refine ⟨_, _, rfl, ?_⟩))
local macro_rules | `(tactic| walk_at "yes") => `(tactic| (dsimp only [tYes]; rw [if_pos rfl]))
set_option hygiene true
section
variable {P : Program} {w : World} {K : PySem.W.Frag} {mg : Str → Option Value} {base : Heap} {cO : Addr}
/-! ### check_rule -/
def Turned (rs : List Row) : Prop := ∀ (i : Nat) (r : Row), rs[i]? = some r → r.off ≠ prevOff rs i
def spRule (cO : Addr) : Sp := fun vs H Q E => ∃ (p : Addr) (rs : List Row), vs = [.ref p] ∧ RulAt H p rs ∧ RulOk rs ∧ Turned rs ∧ ((∀ k ∈ kinds, misK rs k = none) → ∀ H', Same H H' → Q .non H') ∧ ∀ y i, Wrong rs y i → OutO cO y i E H
theorem OutO.same {cO : Addr} {y : Int} {i : Nat} {E : XK} {H H' : Hp} (o : OutO cO y i E H) (s : Same H H') : OutO cO y i E H' := fun dd H2 s2 h0 h1 => o dd H2 (s.trans s2) (s.free h0) h1
theorem scCheckRule : FnScope ["rule", "index", "row"] ["rule"] (defScope sCheckRule) := ⟨rfl, rfl, rfl, by decide +kernel, rfl, by decide +kernel, by decide +kernel⟩
set_option maxHeartbeats 1000000 in
theorem ok_rule {f : Addr} {fd : FuncData} (F : Fun K "check_rule" "check_rule" sCheckRule f fd) (T : Nm mg) (D_is_row : Df P w K mg base 4 "is_row" ["value"] [] spIsRow) (D_check_order : Dx P w K mg base 5 "check_order" ["rule"] [] (spOrd cO)) :
    FnOk P w K mg base (L2.CX P w) 6 f fd ["rule"] (spRule cO) := by
  refine F.okX scCheckRule (fun vs H Q E h => ?_) (fun cdv A outer s H vs Q E hr h => ?_)
  · obtain ⟨_, _, rfl, _⟩ := h
    rfl
  · obtain ⟨p, rs, rfl, R, ok, tu, k0, k1'⟩ := h
    have nd := scCheckRule.nd
    have hu := hr.units
    obtain ⟨ps, hp, rows⟩ := R.ex
    have lp : ps.length = rs.length := rows.length
    refine ⟨_, (pss_cons (ps_if (PW.pt (pw_or (pt_not (pt_val (pe_callB call_isi (by rfl) T.isinstance (by decide +kernel) (pa_cons (pv 0) (pa_cons (pe_bltn (v := .ty "tuple") (by rfl) T.tuple (by decide +kernel) rfl) pa_nil))))) (pw_or1 (pt_not (pt_chain op_le op_le pe_int (pe_callB call_len_seq (by rfl) T.len (by decide +kernel) (pa_cons (pv 0) pa_nil)) pe_int)))))
        (pss_one ps_never)
        pss_nil)
      (pss_cons (ps_for (L2.passes_of rfl) rfl (pi_enumT (by rfl) T.enumerate (pa_cons (pv 0) pa_nil)) (pg_tup (by rfl) (pgs_cons (pg_name (i := 1) nd rfl (Or.inl rfl)) (pgs_cons (pg_name (i := 2) nd rfl (Or.inl rfl)) pgs_nil)))
        (pss_one (ps_if (pt_not (pt_val (pe_df D_is_row (hr.mono (by decide)) (pa_cons (pv 2) pa_nil))))
          (pss_one ps_never)
          pss_nil)))
      (pss_cons (ps_for (L2.passes_of rfl) rfl (pi_enumT (by rfl) T.enumerate (pa_cons (pv 0) pa_nil)) (pg_tup (by rfl) (pgs_cons (pg_name (i := 1) nd rfl (Or.inl rfl)) (pgs_cons (pg_name (i := 2) nd rfl (Or.inl rfl)) pgs_nil)))
        (pss_one (ps_if (pt_cmpR op_eq (pe_ix ix_tup (pv 2) pe_int (fun _ _ => rfl)) (pe_ix ix_tup (pe_ix ix_tup (pv 0) (pe_op op_sub (pv 1) pe_int) (fun _ _ => rfl)) pe_int (fun _ _ => rfl)) (nomark _))
          (pss_one ps_never)
          pss_nil)))
      (pss_one (ps_expr (pe_dx D_check_order (hr.mono (by decide)) (L2.takes_of rfl rfl rfl rfl) (pa_cons (pv 0) pa_nil))))))), ?_⟩
    walk_at "rd"
    refine ⟨_, _, _, _, true, rfl, .ty "tuple", .base (.tup hp), kit_ty (by decide +kernel), ?_⟩
    walk_at "rd"
    refine ⟨p, _, rfl, .inr (SqT.of hp), ?_⟩
    have l2 : (2 : Int) ≤ ((ps.map V.ref).length : Nat) := by rw [List.length_map, lp]; have := ok.two; omega
    have l4 : (((ps.map V.ref).length : Nat) : Int) ≤ 4 := by rw [List.length_map, lp]; have := ok.four; omega
    walk_at "rd"
    refine iteTT (decide_eq_true l2) ?_
    walk_at "rd"
    refine iteFF (by rw [decide_eq_true l4]; rfl) ?_
    walk_at "rd"
    refine ⟨p, ps.map V.ref, rfl, SqT.of hp, for_it walk_enumT (fun i σ H' => Same H H' ∧ ∃ v1 v2 : Option V, σ = [some (.ref p), v1, v2]) ⟨Same.refl _, _, _, rfl⟩ (fun i σ H' _ inv => SqT.of (inv.1 _ _ hp)) (fun i x σ H3 H4 hi inv y => ?_) fun σ H3 inv => ?_⟩
    · obtain ⟨S3, v1, v2, rfl⟩ := inv
      obtain ⟨t, x1, x2, rfl, nt, rfl, e1, e2⟩ := y
      have hi' : i < ps.length := by rw [List.length_map] at hi; exact hi
      obtain ⟨rp, hrp⟩ : ∃ rp, ps[i]? = some rp := ⟨_, List.getElem?_eq_getElem hi'⟩
      have e1' : some (V.int (i : Nat)) = some x1 := e1
      have e2' : (List.map V.ref ps)[i]? = some x2 := e2
      rw [List.getElem?_map, hrp] at e2'
      cases e1'
      cases e2'
      obtain ⟨r, hrr, Rw⟩ := paired_get' rows i rp hrp
      have S4 := S3.trans (Same.new (o := .tup [.int (i : Nat), .ref rp]) nt)
      refine ⟨t, _, rfl, SqT.of upd_same, rfl, ?_⟩
      walk_at "rd"
      refine ⟨rp, r, rfl, Rw.same S4, ok.row r (List.mem_of_getElem? hrr), fun H5 S5 => ⟨true, rfl, ?_⟩⟩
      walk_at "rd"
      exact ⟨S4.trans S5, _, _, rfl⟩
    · obtain ⟨S3, v1, v2, rfl⟩ := inv
      walk_at "rd"
      refine ⟨p, ps.map V.ref, rfl, SqT.of (S3 _ _ hp), for_it walk_enumT (fun i σ H' => Same H H' ∧ ∃ v1 v2 : Option V, σ = [some (.ref p), v1, v2]) ⟨S3, _, _, rfl⟩ (fun i σ H' _ inv => SqT.of (inv.1 _ _ hp)) (fun i x σ H3 H4 hi inv y => ?_) fun σ H6 inv => ?_⟩
      · obtain ⟨S3, v1, v2, rfl⟩ := inv
        obtain ⟨t, x1, x2, rfl, nt, rfl, e1, e2⟩ := y
        have hi' : i < ps.length := by rw [List.length_map] at hi; exact hi
        obtain ⟨rp, hrp⟩ : ∃ rp, ps[i]? = some rp := ⟨_, List.getElem?_eq_getElem hi'⟩
        have e1' : some (V.int (i : Nat)) = some x1 := e1
        have e2' : (List.map V.ref ps)[i]? = some x2 := e2
        rw [List.getElem?_map, hrp] at e2'
        cases e1'
        cases e2'
        obtain ⟨r, hrr, Rw⟩ := paired_get' rows i rp hrp
        obtain ⟨yq, hrow, _⟩ := Rw.ex
        have S4 := S3.trans (Same.new (o := .tup [.int (i : Nat), .ref rp]) nt)
        refine ⟨t, _, rfl, SqT.of upd_same, rfl, ?_⟩
        have il : (if i = 0 then ps.length - 1 else i - 1) < ps.length := by split <;> omega
        obtain ⟨pj, hpj⟩ : ∃ pj, ps[if i = 0 then ps.length - 1 else i - 1]? = some pj := ⟨_, List.getElem?_eq_getElem il⟩
        obtain ⟨rj, hrj, Rj⟩ := paired_get' rows _ pj hpj
        obtain ⟨yj, hrowj, _⟩ := Rj.ex
        have pv : prevOff rs i = rj.off := by
          unfold prevOff
          rw [← lp, hrj]
          rfl
        walk_at "rd"
        refine ⟨rp, _, _, _, rfl, rfl, SqT.of (S4 _ _ hrow), atI_nat (j := 3) rfl, ?_⟩
        walk_at "rd"
        refine ⟨p, _, _, _, rfl, rfl, SqT.of (S4 _ _ hp), atI_prev (v := V.ref pj) (by rw [List.length_map]; exact hi') (by rw [List.length_map, List.getElem?_map, hpj]; rfl), ?_⟩
        walk_at "rd"
        refine ⟨pj, _, _, _, rfl, rfl, SqT.of (S4 _ _ hrowj), atI_nat (j := 3) rfl, ?_⟩
        walk_at "rd"
        refine iteFF (decide_eq_false fun g => tu i r hrr (by rw [pv]; exact V.int.inj g)) ?_
        walk_at "rd"
        exact ⟨S4, _, _, rfl⟩
      · obtain ⟨S6, v1, v2, rfl⟩ := inv
        walk_at "rd"
        exact ⟨p, rs, rfl, R.same S6, ok, fun al H7 S7 => k0 al H7 (S6.trans S7), fun y i W => (k1' y i W).same S6⟩
/-- what lets nothing out may be called where nothing may come out -/
theorem fn_x0 {k : Nat} {f : Addr} {fd : FuncData} {ps : List Str} {sp : Sp} (F : FnOk P w K mg base (L2.CX P w) k f fd ps sp) : FnOk P w K mg base CX0 k f fd ps (fun vs H Q _ => sp vs H Q E0) := by
  refine ⟨fun vs H Q E h => F.len vs H Q E0 h, fun A outer s H args us vs Q E hr he hb hv hs => ?_⟩
  refine codeAny_mono (F.run A outer s H args us vs Q E0 hr he hb hv hs) fun r s' h => ?_
  match r, h with
  | .ok (.ret u), h => exact h
  | .error e, h =>
    obtain ⟨_, _, _, _, _, _, _, _, _, _, _, _, g⟩ := h
    exact g.elim
end
end Cf
namespace Cf
open PySem L2
set_option hygiene false
local macro_rules | `(tactic| walk_at "len") => `(tactic| repeat (first | (obtain ⟨e, _⟩ := h; subst e; rfl; done) | (obtain ⟨_, h⟩ := h)))
local macro_rules | `(tactic| walk_at "rd") => `(tactic| repeat (first | refine ⟨_, rfl, ?_⟩ | refine ⟨_, _, rfl, rfl, ?_⟩ | refine ⟨rfl, ?_⟩ | refine ⟨_, _, rfl, ?_⟩))
local macro_rules | `(tactic| walk_at "yes") => `(tactic| (dsimp only [tYes]; rw [if_pos rfl]))
set_option hygiene true
section
variable {P : Program} {w : World} {K : PySem.W.Frag} {mg : Str → Option Value} {base : Heap} {cO : Addr}
/-! ### rule_table -/
def spRule0 : Sp := fun vs H Q _ => ∃ (p : Addr) (rs : List Row), vs = [.ref p] ∧ RulAt H p rs ∧ RulOk rs ∧ Turned rs ∧ (∀ k ∈ kinds, misK rs k = none) ∧ ∀ H', Same H H' → Q .non H'
theorem ok_rule0 {f : Addr} {fd : FuncData} (F : FnOk P w K mg base (L2.CX P w) 6 f fd ["rule"] (spRule cO)) : FnOk P w K mg base CX0 6 f fd ["rule"] spRule0 :=
  (fn_x0 F).imp fun vs H Q E h => by
    obtain ⟨p, rs, e, R, ok, tu, al, k⟩ := h
    refine ⟨p, rs, e, R, ok, tu, fun _ => k, fun y i W => ?_⟩
    have := fine_all al y
    rw [W.at_] at this; cases this
/-- a tuple of pairs of numbers -/
def PrsAt (H : Hp) (T : Addr) (ps : List (Int × Int)) : Prop := ∃ ts : List Addr, H T = some (.tup (ts.map V.ref)) ∧ Paired (fun t p => H t = some (.tup [.int p.1, .int p.2])) ts ps
theorem PrsAt.same {H H' : Hp} {T : Addr} {ps : List (Int × Int)} (h : PrsAt H T ps) (s : Same H H') : PrsAt H' T ps := by
  obtain ⟨ts, e, r⟩ := h
  exact ⟨ts, s _ _ e, Paired.mapP r fun a b x => s _ _ x⟩
def prs (rs : List Row) (k : Int × Bool) : List (Int × Int) := (secs rs k.1 k.2).zip (rs.map Row.off)
def rE (qs Ts : List Addr) : List Ent := List.zipWith (fun (x : Addr × (Int × Bool)) T => (x.1, keyK x.2, V.ref T)) (qs.zip kinds) Ts
theorem rE_nil {qs : List Addr} : rE qs [] = [] := by simp [rE]
theorem rE_snoc {qs Ts : List Addr} {q T : Addr} {k : Int × Bool} (hq : qs[Ts.length]? = some q) (hk : kinds[Ts.length]? = some k) : rE qs (Ts ++ [T]) = rE qs Ts ++ [(q, keyK k, V.ref T)] := by
  have h : (qs.zip kinds)[Ts.length]? = some (q, k) := by rw [List.getElem?_zip_eq_some]; exact ⟨hq, hk⟩
  have hl : Ts.length < (qs.zip kinds).length := (List.getElem?_eq_some_iff.mp h).1
  apply List.ext_getElem?
  intro i
  unfold rE
  by_cases c : i < Ts.length
  · rw [List.getElem?_append_left (by rw [List.length_zipWith]; omega), List.getElem?_zipWith, List.getElem?_zipWith, List.getElem?_append_left c]
  · by_cases d : i = Ts.length
    · subst d
      rw [List.getElem?_append_right (by rw [List.length_zipWith]; omega), List.getElem?_zipWith, h, List.getElem?_append_right (Nat.le_refl _)]
      have e1 : (List.zipWith (fun (x : Addr × (Int × Bool)) T => (x.1, keyK x.2, V.ref T)) (qs.zip kinds) Ts).length = Ts.length := by rw [List.length_zipWith]; omega
      rw [e1]
      simp
    · rw [List.getElem?_eq_none (by rw [List.length_zipWith, List.length_append]; simp; omega), List.getElem?_eq_none (by rw [List.length_append, List.length_zipWith]; simp; omega)]
theorem rE_get {qs Ts : List Addr} {i : Nat} {q T : Addr} {k : Int × Bool} (hq : qs[i]? = some q) (hk : kinds[i]? = some k) (hT : Ts[i]? = some T) : (rE qs Ts)[i]? = some (q, keyK k, V.ref T) := by
  have h : (qs.zip kinds)[i]? = some (q, k) := by rw [List.getElem?_zip_eq_some]; exact ⟨hq, hk⟩
  unfold rE
  rw [List.getElem?_zipWith, h, hT]
theorem rE_at {qs Ts : List Addr} {i : Nat} {x : Ent} (h : (rE qs Ts)[i]? = some x) : i < Ts.length ∧ ∃ q k T, qs[i]? = some q ∧ kinds[i]? = some k ∧ Ts[i]? = some T ∧ x = (q, keyK k, V.ref T) := by
  unfold rE at h
  rw [List.getElem?_zipWith] at h
  cases e1 : (qs.zip kinds)[i]? with
  | none => rw [e1] at h; simp at h
  | some z =>
    cases e2 : Ts[i]? with
    | none => rw [e1, e2] at h; simp at h
    | some T =>
      rw [e1, e2] at h
      rw [List.getElem?_zip_eq_some] at e1
      have := (List.getElem?_eq_some_iff.mp e2).1
      exact ⟨this, z.1, z.2, T, e1.1, e1.2, rfl, (Option.some.inj h).symm⟩
theorem rE_new {qs Ts : List Addr} {k : Int × Bool} (hk : kinds[Ts.length]? = some k) : keyK k ∉ (rE qs Ts).map fun x => x.2.1 := by
  intro h
  obtain ⟨x, hx, e⟩ := List.mem_map.mp h
  obtain ⟨i, hi⟩ := List.mem_iff_getElem?.mp hx
  obtain ⟨li, q, k', T, _, hk', _, rfl⟩ := rE_at hi
  have := keyK_inj hk' hk e
  omega
theorem rE_nodup {qs Ts : List Addr} : ((rE qs Ts).map fun x => x.2.1).Nodup := by
  unfold List.Nodup
  rw [List.pairwise_iff_getElem]
  intro i j hi hj hij e
  rw [List.length_map] at hi hj
  rw [List.getElem_map, List.getElem_map] at e
  obtain ⟨_, _, k, _, _, hk, _, e1⟩ := rE_at (List.getElem?_eq_getElem hi)
  obtain ⟨_, _, k', _, _, hk', _, e2⟩ := rE_at (List.getElem?_eq_getElem hj)
  rw [e1, e2] at e
  have := keyK_inj hk hk' e
  omega
theorem rE_keysAt {H : Hp} {qs Ts : List Addr} (h : Paired (KindAt H) qs kinds) : KeysAt H (rE qs Ts) := fun x hx => by
  obtain ⟨i, hi⟩ := List.mem_iff_getElem?.mp hx
  obtain ⟨_, q, k, T, hq, hk, _, rfl⟩ := rE_at hi
  obtain ⟨k', hk', at_⟩ := paired_get' h i q hq
  rw [hk] at hk'
  cases hk'
  exact kindAt_key at_
theorem rE_val {qs Ts : List Addr} {f : Int} {l : Bool} (lq : qs.length = 14) (lT : Ts.length = 14) (h0 : 0 ≤ f) (h7 : f < 7) : ∃ T, Ts[2 * f.toNat + l.toNat]? = some T ∧ valK (rE qs Ts) (keyK (f, l)) = some (.ref T) := by
  have hk := kinds_ix l h0 h7
  have lt : 2 * f.toNat + l.toNat < 14 := by have := Bool.toNat_le l; omega
  obtain ⟨q, hq⟩ : ∃ q, qs[2 * f.toNat + l.toNat]? = some q := ⟨_, List.getElem?_eq_getElem (by omega)⟩
  obtain ⟨T, hT⟩ : ∃ T, Ts[2 * f.toNat + l.toNat]? = some T := ⟨_, List.getElem?_eq_getElem (by omega)⟩
  exact ⟨T, hT, valK_get rE_nodup (rE_get hq hk hT)⟩
theorem rE_len {qs Ts : List Addr} : (rE qs Ts).length ≤ 14 := by
  unfold rE
  rw [List.length_zipWith, List.length_zip]
  have : kinds.length = 14 := rfl
  omega
theorem paired_map {α β γ : Type} {F : α → γ → Prop} {g : β → γ} : ∀ {xs : List α} {ys : List β}, Paired F xs (ys.map g) → Paired (fun x y => F x (g y)) xs ys
  | [], [], _ => .nil
  | [], _ :: _, h => nomatch h
  | _ :: _, [], h => nomatch h
  | _ :: _, _ :: _, .cons r rs => .cons r (paired_map rs)
theorem zip_ints (a b : List Int) : (a.map V.int).zip (b.map V.int) = (a.zip b).map fun p => (V.int p.1, V.int p.2) := by
  induction a generalizing b with
  | nil => rfl
  | cons x a ih =>
    cases b with
    | nil => rfl
    | cons y b => simp only [List.map_cons, List.zip_cons_cons, ih]
structure TabAt (P : Program) (w : World) (H : Hp) (D : Addr) (rs : List Row) : Prop where
  ex : ∃ qs Ts : List Addr, Paired (KindAt H) qs kinds ∧ H D = some (KDo P w D (rE qs Ts)) ∧ Paired (fun T k => PrsAt H T (prs rs k)) Ts kinds
def spRTab (P : Program) (w : World) : Sp := fun vs H Q _ => ∃ (p : Addr) (rs : List Row), vs = [.ref p] ∧ RulAt H p rs ∧ RulOk rs ∧ Turned rs ∧ (∀ k ∈ kinds, misK rs k = none) ∧ ∀ (H' : Hp) (D : Addr), Same H H' → TabAt P w H' D rs → Q (.ref D) H'
theorem scRuleTable : FnScope ["rule", "offsets", "row", "kind"] ["rule"] (defScope sRuleTable) := ⟨rfl, rfl, rfl, by decide +kernel, rfl, by decide +kernel, by decide +kernel⟩
set_option maxHeartbeats 1000000 in
theorem ok_rtab {f : Addr} {fd : FuncData} (F : Fun K "rule_table" "rule_table" sRuleTable f fd) (T : Nm mg) (D_check_rule : Df P w K mg base 6 "check_rule" ["rule"] [] spRule0) (D_all_kinds : Df P w K mg base 1 "all_kinds" [] [] spAllKinds) (D_row_seconds : Df P w K mg base 3 "row_seconds" ["rule", "kind"] [] spRowSec) : FnOk P w K mg base CX0 7 f fd ["rule"] (spRTab P w) := by
  refine F.ok scRuleTable (fun vs H Q E h => ?_) (fun cdv A outer s H vs Q E hr h => ?_)
  · obtain ⟨_, _, rfl, _⟩ := h
    rfl
  · obtain ⟨p, rs, rfl, R, ok, tu, al, k⟩ := h
    have nd := scRuleTable.nd
    have hu := hr.units
    refine ⟨_, (pss_cons (ps_expr (pe_df D_check_rule (hr.mono (by decide)) (pa_cons (pv 0) pa_nil)))
      (pss_cons (ps_set (i := 1) nd rfl (Or.inr rfl) (pe_lc (own := [("row", 2)]) (g := (gName 2)) (tt := tYes) rfl nd (pi_tup (pv 0)) (blkOk_by (N := ["rule", "offsets", "row", "kind"]) (sc := defScope sRuleTable) (by decide +kernel)) (fun _ _ _ _ _ => pg_name (i := 2) nd rfl (Or.inl rfl)) (fun _ _ _ _ _ => pts_nil) (fun _ _ _ _ _ => (pe_ix (show IxR _ (rIxT K) from ix_tup) (pv 2) pe_int (fun _ _ => rfl)))))
      (pss_one (ps_ret (pe_dcK (own := [("kind", 3)]) (g := (gName 3)) (tt := tYes) (lt8 hu) rfl nd (pi_list (pe_df0 D_all_kinds (hr.mono (by decide)))) (blkOk_by (N := ["rule", "offsets", "row", "kind"]) (sc := defScope sRuleTable) (by decide +kernel)) (fun _ _ _ _ _ => pg_name (i := 3) nd rfl (Or.inl rfl)) (fun _ _ _ _ _ => pts_nil) (fun _ _ _ _ _ => (pv 3)) (fun _ _ _ _ _ => (show PE _ _ (tTupZip K _) from pe_tupZip rfl (by rfl) T.tuple (by rfl) T.zip (pa_cons (pe_df D_row_seconds (hr.mono (by decide)) (pa_cons (pv 0) (pa_cons (pv 3) pa_nil))) (pa_cons (pv 1) pa_nil))))))))), ?_⟩
    walk_at "rd"
    refine ⟨p, rs, rfl, R, ok, tu, al, fun H1 S1 => ?_⟩
    walk_at "rd"
    obtain ⟨ps, hp, rows⟩ := R.ex
    have lp : ps.length = rs.length := rows.length
    have hp1 := S1 _ _ hp
    refine ⟨⟨_, SqT.of hp1⟩, fun D hD => ⟨fun i m H' => i + m = rs.length ∧ Same H1 H' ∧ H' D = some (.lst (((rs.map Row.off).take i).map V.int)), ⟨rs.length, by omega, Same.new hD, by rw [upd_same]; rfl⟩, fun i m H3 w3 => ?_⟩⟩
    obtain ⟨e3, S3, d3⟩ := w3
    have sq3 : SqT K H3 p (ps.map V.ref) := SqT.of (S3 _ _ hp1)
    by_cases c : i = rs.length
    · refine .inl ⟨⟨_, sq3, by rw [List.length_map]; omega⟩, ?_⟩
      have d3' : H3 D = some (.lst ((rs.map Row.off).map V.int)) := by rw [d3, List.take_of_length_le (by rw [List.length_map]; omega)]
      walk_at "rd"
      refine fun H4 L qs S4 nL ks => ?_
      have lq : qs.length = 14 := paired_len ks.at_
      have S14 := (S1.trans S3).trans S4
      refine ⟨L, rfl, ⟨_, SqL.of ks.lst⟩, fun D2 hD2 => ⟨fun i m H' => i + m = 14 ∧ Same H4 H' ∧ ∃ Ts : List Addr, Ts.length = i ∧ H' D2 = some (KDo P w D2 (rE qs Ts)) ∧ Paired (fun T k => PrsAt H' T (prs rs k)) Ts (kinds.take i), ⟨14, rfl, Same.new hD2, [], rfl, by rw [upd_same, rE_nil]; rfl, .nil⟩, fun i m H5 w5 => ?_⟩⟩
      obtain ⟨e5, S5, Ts, lT, d5, pT⟩ := w5
      have sq5 : SqL K H5 L (qs.map V.ref) := SqL.of (S5 _ _ ks.lst)
      have ks5 := kinds_same ks.at_ S5
      by_cases c : i = 14
      · subst c
        refine .inl ⟨⟨_, sq5, by rw [List.length_map]; omega⟩, ?_⟩
        exact k H5 D2 (S14.trans S5) ⟨qs, Ts, ks5, d5, pT⟩
      · have hi : i < 14 := by omega
        obtain ⟨q, hq⟩ : ∃ q, qs[i]? = some q := ⟨_, List.getElem?_eq_getElem (by omega)⟩
        obtain ⟨kk, hk, kq⟩ := paired_get' ks5 i q hq
        refine .inr ⟨⟨_, _, sq5, by rw [List.getElem?_map, hq]; rfl⟩, fun H' => i + 1 + (m - 1) = 14 ∧ Same H4 H' ∧ ∃ Ts : List Addr, Ts.length = i + 1 ∧ H' D2 = some (KDo P w D2 (rE qs Ts)) ∧ Paired (fun T k => PrsAt H' T (prs rs k)) Ts (kinds.take (i + 1)), fun H' w => ⟨m - 1, by omega, w⟩, fun x H' yy => ?_⟩
        obtain ⟨rfl, yy⟩ := yy
        have hx := yy _ sq5
        rw [List.getElem?_map, hq] at hx
        cases hx
        refine ⟨rfl, ?_⟩
        walk_at "yes"
        walk_at "rd"
        refine ⟨p, q, rs, kk, rfl, R.same (S14.trans S5), ok, kq, fun H6 M S6 nM hM => ?_⟩
        have dO := S6 _ _ (S5 _ _ (S4 _ _ d3'))
        walk_at "rd"
        refine ⟨M, D, _, _, rfl, SqL.of hM, SqL.of dO, by rw [List.length_map, List.length_map, secs_len, List.length_map], by rw [List.length_map, secs_len]; have := ok.four; omega, fun U ts H7 nU S7 pr => ?_⟩
        have S8 := (S6.trans S7).trans (Same.new (o := .tup (ts.map V.ref)) nU)
        have d8 := S8 _ _ d5
        rw [zip_ints] at pr
        have pU : PrsAt (upd H7 U (.tup (ts.map V.ref))) U (prs rs kk) := ⟨ts, upd_same, Paired.mapP (paired_map pr) fun a b r => Same.new (o := .tup (ts.map V.ref)) nU _ _ r⟩
        refine ⟨rE qs Ts, q, keyK kk, rfl, d8, rE_keysAt (kinds_same ks5 S8), Nat.lt_of_le_of_lt rE_len (by decide), kindAt_key (S8 _ _ kq), rE_new (by rw [lT]; exact hk), by omega, ?_⟩
        have keep : ∀ (o : HO) (c : Addr) (vs : List V), (upd H7 U (.tup (ts.map V.ref))) c = some (.tup vs) → (upd (upd H7 U (.tup (ts.map V.ref))) D2 o) c = some (.tup vs) := fun o c vs g => by
          have : c ≠ D2 := fun z => by rw [z, d8] at g; cases g
          rw [upd_ne this]; exact g
        have keepP : ∀ (o : HO) (c : Addr) (l : List (Int × Int)), PrsAt (upd H7 U (.tup (ts.map V.ref))) c l → PrsAt (upd (upd H7 U (.tup (ts.map V.ref))) D2 o) c l := fun o c l ⟨us, g, r⟩ => ⟨us, keep o _ _ g, Paired.mapP r fun a b x => keep o _ _ x⟩
        refine ⟨fun b o e => ?_, Ts ++ [U], by rw [List.length_append, lT]; rfl, ?_, ?_⟩
        · have : b ≠ D2 := fun z => by rw [z, hD2] at e; cases e
          rw [upd_ne this]
          exact S8 _ _ (S5 _ _ e)
        · rw [upd_same, rE_snoc (by rw [lT]; exact hq) (by rw [lT]; exact hk)]
          rfl
        · rw [List.take_succ, hk]
          exact Paired.snoc (Paired.mapP pT fun a b r => keepP _ _ _ (r.same S8)) (keepP _ _ _ pU)
    · have hi : i < rs.length := by omega
      obtain ⟨rp, hrp⟩ : ∃ rp, ps[i]? = some rp := ⟨_, List.getElem?_eq_getElem (by omega)⟩
      obtain ⟨r, hrr, Rw⟩ := paired_get' rows i rp hrp
      obtain ⟨yq, hrow, _⟩ := Rw.ex
      refine .inr ⟨⟨_, _, sq3, by rw [List.getElem?_map, hrp]; rfl⟩, fun H' => i + 1 + (m - 1) = rs.length ∧ Same H1 H' ∧ H' D = some (.lst (((rs.map Row.off).take (i + 1)).map V.int)), fun H' w => ⟨m - 1, by omega, w⟩, fun x H' yy => ?_⟩
      obtain ⟨rfl, yy⟩ := yy
      have hx := yy _ sq3
      rw [List.getElem?_map, hrp] at hx
      cases hx
      refine ⟨rfl, ?_⟩
      walk_at "yes"
      walk_at "rd"
      refine ⟨rp, _, _, _, rfl, rfl, SqT.of (S3 _ _ (S1 _ _ hrow)), atI_nat (j := 3) rfl, ?_⟩
      refine ⟨_, d3, by rw [List.length_map]; have := List.length_take_le i (rs.map Row.off); have := ok.four; exact szl (by omega), by omega, fun b o e => ?_, ?_⟩
      · have : b ≠ D := fun g => by rw [g, hD] at e; cases e
        rw [upd_ne this]
        exact S3 _ _ e
      · rw [upd_same, List.take_succ, List.getElem?_map, hrr, List.map_append]
        rfl
/-! ### changes_in, rule_changes -/
/-- a list of pairs of numbers -/
def PlsAt (H : Hp) (L : Addr) (ps : List (Int × Int)) : Prop := ∃ ts : List Addr, H L = some (.lst (ts.map V.ref)) ∧ Paired (fun t p => H t = some (.tup [.int p.1, .int p.2])) ts ps
def tps (rs : List Row) (y : Int) : List (Int × Int) := (turns rs y).zip (rs.map Row.off)
def spChin (P : Program) (w : World) : Sp := fun vs H Q _ => ∃ (D : Addr) (rs : List Row) (y : Int), vs = [.ref D, .int y] ∧ TabAt P w H D rs ∧ rs.length ≤ 4 ∧ ∀ (H' : Hp) (L : Addr), Same H H' → H L = none → PlsAt H' L (tps rs y) → Q (.ref L) H'
theorem scChangesIn : FnScope ["table", "year", "begin", "second", "offset"] ["table", "year"] (defScope sChangesIn) := ⟨rfl, rfl, rfl, by decide +kernel, rfl, by decide +kernel, by decide +kernel⟩
theorem ok_chin {f : Addr} {fd : FuncData} (F : Fun K "changes_in" "changes_in" sChangesIn f fd) (T : Nm mg) (Z : Cz mg) (D_year_start : Df P w K mg base 3 "year_start" ["year"] [] spYs) (D_kind_of : Df P w K mg base 4 "kind_of" ["year"] [] spKindOf) : FnOk P w K mg base CX0 5 f fd ["table", "year"] (spChin P w) := by
  refine F.ok scChangesIn (fun vs H Q E h => ?_) (fun cdv A outer s H vs Q E hr h => ?_)
  · obtain ⟨_, _, _, rfl, _⟩ := h
    rfl
  · obtain ⟨D, rs, y, rfl, TA, l4, k⟩ := h
    have nd := scChangesIn.nd
    have hu := hr.units
    obtain ⟨tD, zD⟩ := Z.day
    refine ⟨_, (pss_cons (ps_set (i := 2) nd rfl (Or.inr rfl) (pe_op op_mul (pe_glob (v := .int 86400) rfl zD ⟨_, rfl⟩) (pe_df D_year_start (hr.mono (by decide)) (pa_cons (pv 1) pa_nil))))
      (pss_one (ps_ret (pe_lc (own := [("second", 3), ("offset", 4)]) (g := (gTup K 2 (gCons (gName 3) (gCons (gName 4) gNil)))) (tt := tYes) rfl nd (pi_tup (pe_dgetK (lt10 hu) (pv 0) (pe_df D_kind_of (hr.mono (by decide)) (pa_cons (pv 1) pa_nil)) (fun _ _ => rfl))) (blkOk_by (N := ["table", "year", "begin", "second", "offset"]) (sc := defScope sChangesIn) (by decide +kernel)) (fun _ _ _ _ _ => pg_tup (by rfl) (pgs_cons (pg_name (i := 3) nd rfl (Or.inl rfl)) (pgs_cons (pg_name (i := 4) nd rfl (Or.inl rfl)) pgs_nil))) (fun _ _ _ _ _ => pts_nil) (fun _ _ _ _ _ => (pe_tup (pa_cons (pe_op op_add (pv 2) (pv 3)) (pa_cons (pv 4) pa_nil)))))))), ?_⟩
    walk_at "rd"
    refine ⟨.inl ⟨by decide, by decide⟩, ?_⟩
    walk_at "rd"
    obtain ⟨qs, Ts, ks, hD, pT⟩ := TA.ex
    have lq : qs.length = 14 := paired_len ks
    have lT : Ts.length = 14 := pT.length
    have kb := k1_bd y
    obtain ⟨U, hU, vU⟩ := rE_val (l := leapB y) lq lT kb.1 kb.2
    obtain ⟨kk, hk, PU⟩ := paired_get' pT _ U hU
    rw [kinds_ix (leapB y) kb.1 kb.2] at hk
    cases hk
    intro H1 q S1 nq hq
    have PU1 := PU.same S1
    obtain ⟨ts, hT, pr⟩ := PU1
    have et : tps rs y = (prs rs (k1 y, leapB y)).map fun p => (p.1 + 86400 * ysOf y, p.2) := by
      unfold tps prs
      rw [turns_secs, List.zip_map_left]
      rfl
    have ln : (prs rs (k1 y, leapB y)).length = rs.length := by
      unfold prs
      rw [List.length_zip, secs_len, List.length_map]
      omega
    have lt : ts.length = rs.length := by rw [pr.length, ln]
    refine ⟨D, rE qs Ts, q, keyK (k1 y, leapB y), _, rfl, rfl, S1 _ _ hD, rE_keysAt (kinds_same ks S1), kindAt_key hq, vU, ?_⟩
    refine ⟨U, rfl, ⟨_, SqT.of hT⟩, fun L hL => ⟨fun i m H' => i + m = rs.length ∧ Same H1 H' ∧ ∃ us : List Addr, H' L = some (.lst (us.map V.ref)) ∧ Paired (fun t p => H' t = some (.tup [.int p.1, .int p.2])) us ((tps rs y).take i), ⟨rs.length, by omega, Same.new hL, [], by rw [upd_same]; rfl, .nil⟩, fun i m H3 w3 => ?_⟩⟩
    obtain ⟨e3, S3, us, dL, pu⟩ := w3
    have sq3 : SqT K H3 U (ts.map V.ref) := SqT.of (S3 _ _ hT)
    by_cases c : i = rs.length
    · refine .inl ⟨⟨_, sq3, by rw [List.length_map]; omega⟩, ?_⟩
      refine k H3 L (S1.trans S3) ?_ ⟨us, dL, ?_⟩
      · cases g : H L with
        | none => rfl
        | some o => exact absurd (S1 _ _ g) (by rw [hL]; simp)
      · rwa [List.take_of_length_le (by rw [et, List.length_map, ln]; omega)] at pu
    · have hi : i < rs.length := by omega
      obtain ⟨t, ht⟩ : ∃ t, ts[i]? = some t := ⟨_, List.getElem?_eq_getElem (by omega)⟩
      obtain ⟨p, hp, tp⟩ := paired_get' pr i t ht
      refine .inr ⟨⟨_, _, sq3, by rw [List.getElem?_map, ht]; rfl⟩, fun H' => i + 1 + (m - 1) = rs.length ∧ Same H1 H' ∧ ∃ us : List Addr, H' L = some (.lst (us.map V.ref)) ∧ Paired (fun t p => H' t = some (.tup [.int p.1, .int p.2])) us ((tps rs y).take (i + 1)), fun H' w => ⟨m - 1, by omega, w⟩, fun x H' yy => ?_⟩
      obtain ⟨rfl, yy⟩ := yy
      have hx := yy _ sq3
      rw [List.getElem?_map, ht] at hx
      cases hx
      refine ⟨t, _, rfl, SqT.of (S3 _ _ tp), rfl, ?_⟩
      walk_at "rd"
      refine ⟨szle (by simp), fun V0 hV => ?_⟩
      have SV := Same.new (o := .tup [L2.V.int (86400 * ysOf y + p.1), L2.V.int p.2]) hV
      have lu : us.length = i := by rw [pu.length, List.length_take, et, List.length_map, ln]; omega
      have keep : ∀ (o : HO) (c : Addr) (vs : List L2.V), (upd H' V0 (.tup [L2.V.int (86400 * ysOf y + p.1), L2.V.int p.2])) c = some (.tup vs) → (upd (upd H' V0 (.tup [L2.V.int (86400 * ysOf y + p.1), L2.V.int p.2])) L o) c = some (.tup vs) := fun o c vs g => by
        have : c ≠ L := fun z => by rw [z, SV _ _ dL] at g; cases g
        rw [upd_ne this]; exact g
      refine ⟨us.map V.ref, SV _ _ dL, by rw [List.length_map, lu]; exact szl (by omega), by omega, fun b o e => ?_, us ++ [V0], ?_, ?_⟩
      · have : b ≠ L := fun g => by rw [g, hL] at e; cases e
        rw [upd_ne this]
        exact SV _ _ (S3 _ _ e)
      · rw [upd_same, List.map_append]
        rfl
      · rw [List.take_succ, et, List.getElem?_map, hp]
        refine Paired.snoc (by rw [et] at pu; exact Paired.mapP pu fun a b r => keep _ _ _ (SV _ _ r)) (keep _ _ _ ?_)
        rw [upd_same, Int.add_comm]
end
end Cf
namespace Cf
open PySem L2
set_option hygiene false
local macro_rules | `(tactic| walk_at "len") => `(tactic| repeat (first | (obtain ⟨e, _⟩ := h; subst e; rfl; done) | (obtain ⟨_, h⟩ := h)))
local macro_rules | `(tactic| walk_at "rd") => `(tactic| repeat (first | refine ⟨_, rfl, ?_⟩ | refine ⟨_, _, rfl, rfl, ?_⟩ | refine ⟨rfl, ?_⟩ | refine ⟨_, _, rfl, ?_⟩))
local macro_rules | `(tactic| walk_at "yes") => `(tactic| (dsimp only [tYes]; rw [if_pos rfl]))
set_option hygiene true
section
variable {P : Program} {w : World} {K : PySem.W.Frag} {mg : Str → Option Value} {base : Heap}
def spNamed : Sp := fun vs H Q _ => ∃ (a : Addr) (p : Yd) (y : Int), vs = [.ref a, .int y] ∧ YAt H a p ∧ ∀ H', Same H H' → Q (.int (dayIn p y)) H'
/-! ### _law_named -/
theorem nm_date {m n y : Int} : dayIn (.date m n) y = ysOf y + mst m (leapB y) + n - 1 := by
  show ysOf y + (mst m (leapB y) + n - 1) = _
  omega
theorem nm_nth {m n u y : Int} : ysOf y + mst m (leapB y) + (u - (ysOf y + mst m (leapB y)) - 5) % 7 + 7 * (n - 1) = dayIn (.nth m n u) y := by
  show _ = ysOf y + onAfter (mst m (leapB y) + 7 * (n - 1)) u (k1 y)
  unfold onAfter k1
  omega
theorem nm_last {m u y : Int} (h1 : 1 ≤ m) (h2 : m ≤ 12) : ysOf y + mst (m + 1) (leapB y) - 1 - (ysOf y + mst (m + 1) (leapB y) - 1 + 5 - u) % 7 = dayIn (.last m u) y := by
  show _ = ysOf y + onBefore (mst m (leapB y) + mlen m (leapB y) - 1) u (k1 y)
  rw [mst_succ h1 h2]
  unfold onBefore k1
  omega
theorem nm_frm {m n u y : Int} : ysOf y + mst m (leapB y) + n - 1 + (u - (ysOf y + mst m (leapB y) + n - 1) - 5) % 7 = dayIn (.frm m n u) y := by
  show _ = ysOf y + onAfter (mst m (leapB y) + n - 1) u (k1 y)
  unfold onAfter k1
  omega
theorem nm_unt {m n u y : Int} : ysOf y + mst m (leapB y) + n - 1 - (ysOf y + mst m (leapB y) + n - 1 + 5 - u) % 7 = dayIn (.unt m n u) y := by
  show _ = ysOf y + onBefore (mst m (leapB y) + n - 1) u (k1 y)
  unfold onBefore k1
  omega
theorem scLawNamed : FnScope ["yearly", "year", "word", "first", "final", "day"] ["yearly", "year"] (defScope sLawNamed) := ⟨rfl, rfl, rfl, by decide +kernel, rfl, by decide +kernel, by decide +kernel⟩
theorem ok_named {f : Addr} {fd : FuncData} (F : Fun K "_law_named" "_law_named" sLawNamed f fd) (T : Nm mg) (D_law_month : Df P w K mg base 2 "_law_month" ["year", "month"] [] spMonth) (D_law_new_year : Df P w K mg base 1 "_law_new_year" ["year"] [] spNy) : FnOk P w K mg base CX0 3 f fd ["yearly", "year"] spNamed := by
  refine F.ok scLawNamed (fun vs H Q E h => ?_) (fun cdv A outer s H vs Q E hr h => ?_)
  · obtain ⟨_, _, _, rfl, _⟩ := h
    rfl
  · obtain ⟨a, p, y, rfl, Y, k⟩ := h
    have nd := scLawNamed.nd
    have hu := hr.units
    refine ⟨_, (pss_cons (ps_set (i := 2) nd rfl (Or.inl rfl) (pe_ix ix_tup (pv 0) pe_int (fun _ _ => rfl)))
      (pss_cons (ps_if (pt_cmpR op_eq (pv 2) pe_str (nomark _))
        (pss_one (ps_ret (pe_op op_add (pe_df D_law_new_year (hr.mono (by decide)) (pa_cons (pv 1) pa_nil)) (pe_ix ix_tup (pv 0) pe_int (fun _ _ => rfl)))))
        pss_nil)
      (pss_cons (ps_if (pt_cmpR op_eq (pv 2) pe_str (nomark _))
        (pss_cons (ps_set (i := 3) nd rfl (Or.inl rfl) (pe_df D_law_month (hr.mono (by decide)) (pa_cons (pv 1) (pa_cons (pe_ix ix_tup (pv 0) pe_int (fun _ _ => rfl)) pa_nil))))
        (pss_one (ps_ret (pe_op op_add (pe_op op_add (pv 3) (pe_op op_mod (pe_callTy call_int1 (by rfl) T.int (by decide +kernel) (pa_cons (pe_op op_sub (pe_op op_sub (pe_ix ix_tup (pv 0) pe_int (fun _ _ => rfl)) (pv 3)) pe_int) pa_nil)) pe_int)) (pe_op op_mul pe_int (pe_op op_sub (pe_ix ix_tup (pv 0) pe_int (fun _ _ => rfl)) pe_int))))))
        pss_nil)
      (pss_cons (ps_if (pt_cmpR op_eq (pv 2) pe_str (nomark _))
        (pss_cons (ps_set (i := 4) nd rfl (Or.inl rfl) (pe_op op_sub (pe_df D_law_month (hr.mono (by decide)) (pa_cons (pv 1) (pa_cons (pe_op op_add (pe_ix ix_tup (pv 0) pe_int (fun _ _ => rfl)) pe_int) pa_nil))) pe_int))
        (pss_one (ps_ret (pe_op op_sub (pv 4) (pe_op op_mod (pe_callTy call_int1 (by rfl) T.int (by decide +kernel) (pa_cons (pe_op op_sub (pe_op op_add (pv 4) pe_int) (pe_ix ix_tup (pv 0) pe_int (fun _ _ => rfl))) pa_nil)) pe_int)))))
        pss_nil)
      (pss_cons (ps_set (i := 5) nd rfl (Or.inl rfl) (pe_op op_sub (pe_op op_add (pe_df D_law_month (hr.mono (by decide)) (pa_cons (pv 1) (pa_cons (pe_ix ix_tup (pv 0) pe_int (fun _ _ => rfl)) pa_nil))) (pe_ix ix_tup (pv 0) pe_int (fun _ _ => rfl))) pe_int))
      (pss_cons (ps_if (pt_cmpR op_eq (pv 2) pe_str (nomark _))
        (pss_one (ps_ret (pv 5)))
        pss_nil)
      (pss_cons (ps_if (pt_cmpR op_eq (pv 2) pe_str (nomark _))
        (pss_one (ps_ret (pe_op op_add (pv 5) (pe_op op_mod (pe_callTy call_int1 (by rfl) T.int (by decide +kernel) (pa_cons (pe_op op_sub (pe_op op_sub (pe_ix ix_tup (pv 0) pe_int (fun _ _ => rfl)) (pv 5)) pe_int) pa_nil)) pe_int))))
        pss_nil)
      (pss_one (ps_ret (pe_op op_sub (pv 5) (pe_op op_mod (pe_callTy call_int1 (by rfl) T.int (by decide +kernel) (pa_cons (pe_op op_sub (pe_op op_add (pv 5) pe_int) (pe_ix ix_tup (pv 0) pe_int (fun _ _ => rfl))) pa_nil)) pe_int))))))))))), ?_⟩
    have ht1 : H a = some (.tup p.vals) := Y.tup
    obtain ⟨_, ok⟩ := Y
    have B1 := k1_bd y
    cases p with
    | day n =>
      walk_at "rd"
      refine ⟨a, _, _, _, rfl, rfl, SqT.of ht1, atI_nat (j := 0) rfl, ?_⟩
      walk_at "rd"
      refine ⟨a, _, _, _, rfl, rfl, SqT.of ht1, atI_nat (j := 1) rfl, ?_⟩
      walk_at "rd"
      exact k H (Same.refl _)
    | date m n =>
      walk_at "rd"
      refine ⟨a, _, _, _, rfl, rfl, SqT.of ht1, atI_nat (j := 0) rfl, ?_⟩
      walk_at "rd"
      refine ⟨a, _, _, _, rfl, rfl, SqT.of ht1, atI_nat (j := 1) rfl, ?_⟩
      walk_at "rd"
      refine ⟨ok.1, by have := ok.2.1; omega, fun H2 S2 => ?_⟩
      have ht2 := S2 _ _ ht1
      walk_at "rd"
      refine ⟨a, _, _, _, rfl, rfl, SqT.of ht2, atI_nat (j := 2) rfl, ?_⟩
      walk_at "rd"
      have k5 := k H2 S2
      rw [show dayIn (.date m n) y = ysOf y + mst m (leapB y) + n - 1 from nm_date] at k5
      exact k5
    | nth m n u =>
      walk_at "rd"
      refine ⟨a, _, _, _, rfl, rfl, SqT.of ht1, atI_nat (j := 0) rfl, ?_⟩
      walk_at "rd"
      refine ⟨a, _, _, _, rfl, rfl, SqT.of ht1, atI_nat (j := 1) rfl, ?_⟩
      walk_at "rd"
      refine ⟨ok.1, by have := ok.2.1; omega, fun H2 S2 => ?_⟩
      have ht2 := S2 _ _ ht1
      walk_at "rd"
      refine ⟨a, _, _, _, rfl, rfl, SqT.of ht2, atI_nat (j := 3) rfl, ?_⟩
      walk_at "rd"
      refine .inl ⟨_, rfl, ?_⟩
      walk_at "rd"
      refine ⟨by show (0 : Int) < 7; decide, ?_⟩
      walk_at "rd"
      refine ⟨a, _, _, _, rfl, rfl, SqT.of ht2, atI_nat (j := 2) rfl, ?_⟩
      walk_at "rd"
      have k5 := k H2 S2
      rw [← nm_nth] at k5
      refine ⟨.inl ⟨by decide, by decide⟩, ?_⟩
      walk_at "rd"
      exact k5
    | last m u =>
      walk_at "rd"
      refine ⟨a, _, _, _, rfl, rfl, SqT.of ht1, atI_nat (j := 0) rfl, ?_⟩
      walk_at "rd"
      refine ⟨a, _, _, _, rfl, rfl, SqT.of ht1, atI_nat (j := 1) rfl, ?_⟩
      walk_at "rd"
      refine ⟨by have := ok.1; omega, by have := ok.2.1; omega, fun H2 S2 => ?_⟩
      have ht2 := S2 _ _ ht1
      walk_at "rd"
      refine ⟨a, _, _, _, rfl, rfl, SqT.of ht2, atI_nat (j := 2) rfl, ?_⟩
      walk_at "rd"
      refine .inl ⟨_, rfl, ?_⟩
      walk_at "rd"
      refine ⟨by show (0 : Int) < 7; decide, ?_⟩
      walk_at "rd"
      have k5 := k H2 S2
      rw [← nm_last ok.1 ok.2.1] at k5
      exact k5
    | frm m n u =>
      walk_at "rd"
      refine ⟨a, _, _, _, rfl, rfl, SqT.of ht1, atI_nat (j := 0) rfl, ?_⟩
      walk_at "rd"
      refine ⟨a, _, _, _, rfl, rfl, SqT.of ht1, atI_nat (j := 1) rfl, ?_⟩
      walk_at "rd"
      refine ⟨ok.1.1, by have := ok.1.2.1; omega, fun H2 S2 => ?_⟩
      have ht2 := S2 _ _ ht1
      walk_at "rd"
      refine ⟨a, _, _, _, rfl, rfl, SqT.of ht2, atI_nat (j := 2) rfl, ?_⟩
      walk_at "rd"
      refine ⟨a, _, _, _, rfl, rfl, SqT.of ht2, atI_nat (j := 3) rfl, ?_⟩
      walk_at "rd"
      refine .inl ⟨_, rfl, ?_⟩
      walk_at "rd"
      refine ⟨by show (0 : Int) < 7; decide, ?_⟩
      walk_at "rd"
      have k5 := k H2 S2
      rw [← nm_frm] at k5
      exact k5
    | unt m n u =>
      walk_at "rd"
      refine ⟨a, _, _, _, rfl, rfl, SqT.of ht1, atI_nat (j := 0) rfl, ?_⟩
      walk_at "rd"
      refine ⟨a, _, _, _, rfl, rfl, SqT.of ht1, atI_nat (j := 1) rfl, ?_⟩
      walk_at "rd"
      refine ⟨ok.1.1, by have := ok.1.2.1; omega, fun H2 S2 => ?_⟩
      have ht2 := S2 _ _ ht1
      walk_at "rd"
      refine ⟨a, _, _, _, rfl, rfl, SqT.of ht2, atI_nat (j := 2) rfl, ?_⟩
      walk_at "rd"
      refine ⟨a, _, _, _, rfl, rfl, SqT.of ht2, atI_nat (j := 3) rfl, ?_⟩
      walk_at "rd"
      refine .inl ⟨_, rfl, ?_⟩
      walk_at "rd"
      refine ⟨by show (0 : Int) < 7; decide, ?_⟩
      walk_at "rd"
      have k5 := k H2 S2
      rw [← nm_unt] at k5
      exact k5
end
end Cf
namespace Cf
open PySem L2
set_option hygiene false
local macro_rules | `(tactic| walk_at "len") => `(tactic| repeat (first | (obtain ⟨e, _⟩ := h; subst e; rfl; done) | (obtain ⟨_, h⟩ := h)))
local macro_rules | `(tactic| walk_at "rd") => `(tactic| repeat (first | refine ⟨_, rfl, ?_⟩ | refine ⟨_, _, rfl, rfl, ?_⟩ | refine ⟨rfl, ?_⟩ | refine ⟨_, _, rfl, ?_⟩))
local macro_rules | `(tactic| walk_at "yes") => `(tactic| (dsimp only [tYes]; rw [if_pos rfl]))
set_option hygiene true
section
variable {P : Program} {w : World} {K : PySem.W.Frag} {mg : Str → Option Value} {base : Heap}
/-! ### _law_turns -/
theorem tps_get {rs : List Row} {y : Int} {i : Nat} {r : Row} (h : rs[i]? = some r) : (tps rs y)[i]? = some (turnAt rs y i r, r.off) := by
  unfold tps
  rw [List.getElem?_zip_eq_some]
  exact ⟨turns_get h, by rw [List.getElem?_map, h]; rfl⟩
theorem tps_len {rs : List Row} {y : Int} : (tps rs y).length = rs.length := by
  unfold tps turns
  simp
def spTurns : Sp := fun vs H Q _ => ∃ (p : Addr) (rs : List Row) (y : Int), vs = [.ref p, .int y] ∧ RulAt H p rs ∧ RulOk rs ∧ ∀ (H' : Hp) (L : Addr), Same H H' → H L = none → PlsAt H' L (tps rs y) → Q (.ref L) H'
theorem scLawTurns : FnScope ["scheme", "year", "found", "last", "yearly", "second", "basis", "offset", "begin"] ["scheme", "year"] (defScope sLawTurns) := ⟨rfl, rfl, rfl, by decide +kernel, rfl, by decide +kernel, by decide +kernel⟩
theorem ok_turns {f : Addr} {fd : FuncData} (F : Fun K "_law_turns" "_law_turns" sLawTurns f fd) (T : Nm mg) (D_law_named : Df P w K mg base 3 "_law_named" ["yearly", "year"] [] spNamed) : FnOk P w K mg base CX0 4 f fd ["scheme", "year"] spTurns := by
  refine F.ok scLawTurns (fun vs H Q E h => ?_) (fun cdv A outer s H vs Q E hr h => ?_)
  · obtain ⟨_, _, _, rfl, _⟩ := h
    rfl
  · obtain ⟨p, rs, y, rfl, R, ok, k⟩ := h
    have nd := scLawTurns.nd
    have hu := hr.units
    obtain ⟨ps, hp, rows⟩ := R.ex
    refine ⟨_, (pss_cons (ps_par (i := 2) (j := 3) (by rfl) nd rfl rfl (by decide) rfl rfl (pa_cons (pe_lst pa_nil) (pa_cons (pe_ix ix_tup (pe_ix ix_tup (pv 0) (pe_un un_neg pe_int) (fun _ _ => rfl)) pe_int (fun _ _ => rfl)) pa_nil)) (by rfl))
      (pss_cons (ps_for PassesOwn.never rfl (pi_tup (pv 0)) (pg_tup (by rfl) (pgs_cons (pg_name (i := 4) nd rfl (Or.inl rfl)) (pgs_cons (pg_name (i := 5) nd rfl (Or.inl rfl)) (pgs_cons (pg_name (i := 6) nd rfl (Or.inl rfl)) (pgs_cons (pg_name (i := 7) nd rfl (Or.inl rfl)) pgs_nil)))))
        (pss_cons (ps_set (i := 8) nd rfl (Or.inl rfl) (pe_op op_add (pe_op op_mul (pe_df D_law_named (hr.mono (by decide)) (pa_cons (pv 4) (pa_cons (pv 1) pa_nil))) pe_int) (pv 5)))
        (pss_cons (ps_expr (pe_bm PySem.F.plainAttrs_list PySem.F.slot_list_append PySem.F.type_list_append mt_append (pv 2) (pa_cons (pe_tup (pa_cons (pe_ifExp (pt_cmpR op_eq (pv 6) pe_str (nomark _)) (pe_op op_sub (pv 8) (pv 3)) (pv 8)) (pa_cons (pv 7) pa_nil))) pa_nil)))
        (pss_one (ps_set (i := 3) nd rfl (Or.inl rfl) (pv 7))))))
      (pss_one (ps_ret (pv 2))))), ?_⟩
    have lp : ps.length = rs.length := rows.length
    have two := ok.two
    have four := ok.four
    have ne : ps ≠ [] := fun e => by rw [e] at lp; simp at lp; omega
    obtain ⟨pz, hpz⟩ : ∃ pz, ps[ps.length - 1]? = some pz := ⟨_, List.getElem?_eq_getElem (by omega)⟩
    obtain ⟨rz, hrz, Rz⟩ := paired_get' rows _ pz hpz
    obtain ⟨yz, hrowz, _⟩ := Rz.ex
    have pv0 : prevOff rs 0 = rz.off := by
      unfold prevOff
      rw [if_pos rfl, ← lp, hrz]
      rfl
    have az : atI (ps.map V.ref) (-1) = some (V.ref pz) := atI_prev (i := 0) (by rw [List.length_map]; omega) (by rw [if_pos rfl, List.length_map, List.getElem?_map, hpz]; rfl)
    walk_at "rd"
    refine ⟨by show 0 ≤ sizeLine; decide, fun L hL => ?_⟩
    have S0 := Same.new (o := .lst []) hL
    walk_at "rd"
    refine ⟨p, _, _, _, rfl, rfl, SqT.of (S0 _ _ hp), az, ?_⟩
    walk_at "rd"
    refine ⟨pz, _, _, _, rfl, rfl, SqT.of (S0 _ _ hrowz), atI_nat (j := 3) rfl, ?_⟩
    walk_at "rd"
    rw [← pv0]
    refine ⟨⟨_, SqT.of (S0 _ _ hp)⟩, for_tup (K := K) (a := p) (xs := ps.map V.ref) (fun i σ H' => (Same H H' ∧ ∃ us : List Addr, H' L = some (.lst (us.map V.ref)) ∧ Paired (fun t p => H' t = some (.tup [.int p.1, .int p.2])) us ((tps rs y).take i)) ∧ ∃ v4 v5 v6 v7 v8 : Option V, σ = [some (.ref p), some (.int y), some (.ref L), some (.int (prevOff rs i)), v4, v5, v6, v7, v8])
      ⟨⟨S0, [], upd_same, .nil⟩, _, _, _, _, _, rfl⟩ (fun i σ H' hi inv => SqT.of (inv.1.1 _ _ hp)) (fun i x σ H3 hx inv => ?_) fun σ H3 inv => ?_⟩
    · obtain ⟨⟨S3, us, dL, pu⟩, v4, v5, v6, v7, v8, rfl⟩ := inv
      rw [List.getElem?_map] at hx
      obtain ⟨rp, hrp, rfl⟩ := Option.map_eq_some_iff.mp hx
      obtain ⟨r, hrr, Rw⟩ := paired_get' rows i rp hrp
      obtain ⟨yq, hrow, Yr⟩ := Rw.ex
      have li : i < rs.length := (List.getElem?_eq_some_iff.mp hrr).1
      refine ⟨rp, _, rfl, SqT.of (S3 _ _ hrow), rfl, ?_⟩
      walk_at "rd"
      refine ⟨yq, r.yd, y, rfl, Yr.same S3, fun H4 S4 => ?_⟩
      walk_at "rd"
      refine ⟨.inr ⟨by decide, by decide⟩, ?_⟩
      walk_at "rd"
      have dL4 := S4 _ _ dL
      have S34 := S3.trans S4
      refine ⟨.inl ⟨rfl, _, SqL.of dL4⟩, ?_⟩
      walk_at "rd"
      have lu : us.length = i := by rw [pu.length, List.length_take, tps_len]; omega
      have pn : prevOff rs (i + 1) = r.off := by
        unfold prevOff
        rw [if_neg (by omega), Nat.add_sub_cancel, hrr]
        rfl
      have fin : ∀ (n : Int) (t : Addr), n = turnAt rs y i r → H4 t = none →
          Same H (upd (upd H4 t (.tup [.int n, .int r.off])) L (.lst (us.map V.ref ++ [.ref t]))) ∧ ∃ us2 : List Addr, (upd (upd H4 t (.tup [.int n, .int r.off])) L (.lst (us.map V.ref ++ [.ref t]))) L = some (.lst (us2.map V.ref)) ∧ Paired (fun u p => (upd (upd H4 t (.tup [.int n, .int r.off])) L (.lst (us.map V.ref ++ [.ref t]))) u = some (.tup [.int p.1, .int p.2])) us2 ((tps rs y).take (i + 1)) := by
        rintro n t rfl ht
        have SV := Same.new (o := .tup [V.int (turnAt rs y i r), V.int r.off]) ht
        have keep : ∀ (o : HO) (c : Addr) (vs : List L2.V), (upd H4 t (.tup [V.int (turnAt rs y i r), V.int r.off])) c = some (.tup vs) → (upd (upd H4 t (.tup [V.int (turnAt rs y i r), V.int r.off])) L o) c = some (.tup vs) := fun o c vs g => by
          have : c ≠ L := fun z => by rw [z, SV _ _ dL4] at g; cases g
          rw [upd_ne this]; exact g
        refine ⟨(S34.trans SV).wr hL, us ++ [t], by rw [upd_same, List.map_append]; rfl, ?_⟩
        rw [List.take_succ, tps_get hrr]
        exact Paired.snoc (Paired.mapP pu fun a b r => keep _ _ _ (SV _ _ (S4 _ _ r))) (keep _ _ _ upd_same)
      cases hw : r.wall with
      | true =>
        refine iteTT (by decide) ?_
        walk_at "rd"
        refine ⟨szle (by simp), fun t ht => ?_⟩
        walk_at "rd"
        refine ⟨L, _, _, rfl, rfl, Same.new ht _ _ dL4, by rw [List.length_map, lu]; exact szl (by omega), ?_⟩
        walk_at "rd"
        exact ⟨fin _ t (by unfold turnAt; rw [hw, if_pos rfl]) ht, _, _, _, _, _, by rw [pn]; rfl⟩
      | false =>
        refine iteFF (by decide) ?_
        walk_at "rd"
        refine ⟨szle (by simp), fun t ht => ?_⟩
        walk_at "rd"
        refine ⟨L, _, _, rfl, rfl, Same.new ht _ _ dL4, by rw [List.length_map, lu]; exact szl (by omega), ?_⟩
        walk_at "rd"
        exact ⟨fin (dayIn r.yd y * 86400 + r.sec) t (by unfold turnAt; rw [hw, if_neg (by decide)]; omega) ht, _, _, _, _, _, by rw [pn]; rfl⟩
    · obtain ⟨⟨S3, us, dL, pu⟩, v4, v5, v6, v7, v8, rfl⟩ := inv
      walk_at "rd"
      refine k H3 L S3 hL ⟨us, dL, ?_⟩
      rwa [List.take_of_length_le (by rw [tps_len, List.length_map]; omega)] at pu
end
end Cf
namespace Cf
open PySem L2
set_option hygiene false
local macro_rules | `(tactic| walk_at "len") => `(tactic| repeat (first | (obtain ⟨e, _⟩ := h; subst e; rfl; done) | (obtain ⟨_, h⟩ := h)))
local macro_rules | `(tactic| walk_at "rd") => `(tactic| repeat (first | refine ⟨_, rfl, ?_⟩ | refine ⟨_, _, rfl, rfl, ?_⟩ | refine ⟨rfl, ?_⟩ | refine ⟨_, _, rfl, ?_⟩))
local macro_rules | `(tactic| walk_at "yes") => `(tactic| (dsimp only [tYes]; rw [if_pos rfl]))
set_option hygiene true
section
variable {P : Program} {w : World} {K : PySem.W.Frag} {mg : Str → Option Value} {base : Heap}
/-! ### _law_yearly -/
def spYl : Sp := fun vs H Q _ => ∃ (p a b : Addr) (n : Nat) (m : Int), vs = [.ref p, .int m] ∧ Stt p a b n H ∧ n ≤ 900000 ∧ 1 ≤ m ∧ m ≤ 12 ∧
  ∀ (t : Addr) (y : Yd) (H' : Hp), YAt H' t y → Near y m → Stt p a b (n + 20) H' → But p a H H' → Q (.ref t) H'
theorem scLawYearly : FnScope ["state", "month", "kind", "dayname", "day"] ["state", "month"] (defScope sLawYearly) := ⟨rfl, rfl, rfl, by decide +kernel, rfl, by decide +kernel, by decide +kernel⟩
theorem ok_yl {f : Addr} {fd : FuncData} (F : Fun K "_law_yearly" "_law_yearly" sLawYearly f fd) (T : Nm mg) (D_law_take : Df P w K mg base 2 "_law_take" ["state", "size"] [] spTake) : FnOk P w K mg base CX0 3 f fd ["state", "month"] spYl := by
  refine F.ok scLawYearly (fun vs H Q E h => ?_) (fun cdv A outer s H vs Q E hr h => ?_)
  · obtain ⟨_, _, _, _, _, rfl, _⟩ := h
    rfl
  · obtain ⟨p, a, b, n, m, rfl, S, hn, m1, m12, k⟩ := h
    have nd := scLawYearly.nd
    have hu := hr.units
    refine ⟨_, (pss_cons (ps_par3 (i := 2) (j := 3) (l := 4) (by rfl) nd rfl rfl rfl (by decide) (by decide) (by decide) rfl rfl rfl (pa_cons (pe_df D_law_take (hr.mono (by decide)) (pa_cons (pv 0) (pa_cons pe_int pa_nil))) (pa_cons (pe_df D_law_take (hr.mono (by decide)) (pa_cons (pv 0) (pa_cons pe_int pa_nil))) (pa_cons (pe_op op_add pe_int (pe_df D_law_take (hr.mono (by decide)) (pa_cons (pv 0) (pa_cons pe_int pa_nil)))) pa_nil))) (by rfl))
      (pss_cons (ps_if (pt_cmpR op_eq (pv 2) pe_int (nomark _))
        (pss_one (ps_ret (pe_tup (pa_cons pe_str (pa_cons (pv 1) (pa_cons (pe_op op_add pe_int (pe_df D_law_take (hr.mono (by decide)) (pa_cons (pv 0) (pa_cons pe_int pa_nil)))) (pa_cons (pv 3) pa_nil)))))))
        pss_nil)
      (pss_cons (ps_if (pt_cmpR op_eq (pv 2) pe_int (nomark _))
        (pss_one (ps_ret (pe_tup (pa_cons pe_str (pa_cons (pv 1) (pa_cons (pv 3) pa_nil))))))
        pss_nil)
      (pss_cons (ps_if (pt_cmpR op_lt (pv 2) pe_int (nomark _))
        (pss_one (ps_ret (pe_tup (pa_cons (pe_ix ix_list (pe_lst (pa_cons pe_str (pa_cons pe_str pa_nil))) (pe_op op_sub (pv 2) pe_int) (fun _ _ => rfl)) (pa_cons (pv 1) (pa_cons (pv 4) (pa_cons (pv 3) pa_nil)))))))
        pss_nil)
      (pss_one (ps_ret (pe_ifExp (pt_cmpR op_eq (pv 2) pe_int (nomark _)) (pe_tup (pa_cons pe_str (pa_cons (pv 1) (pa_cons (pv 4) pa_nil)))) (pe_tup (pa_cons pe_str (pa_cons (pe_op op_sub (pe_op op_add (pe_op op_mul pe_int (pe_op op_sub (pv 1) pe_int)) (pv 4)) pe_int) pa_nil)))))))))), ?_⟩
    walk_at "rd"
    refine ⟨p, a, b, n, _, rfl, S, by omega, by decide, by decide, fun kd H1 kd0 kd1 S1 B1 => ?_⟩
    walk_at "rd"
    refine ⟨p, a, b, n + 1, _, rfl, S1, by omega, by decide, by decide, fun dn H2 dn0 dn1 S2 B2 => ?_⟩
    walk_at "rd"
    refine ⟨p, a, b, n + 1 + 1, _, rfl, S2, by omega, by decide, by decide, fun dd H3 dd0 dd1 S3 B3 => ?_⟩
    have B123 := (B1.trans B2).trans B3
    have mb := mlen_bd (m := m) m1 m12 false
    have MDok : MD m (8 + dd) := ⟨by omega, by omega, by omega, by omega⟩
    have WDok : WD dn := ⟨dn0, by omega⟩
    have kds : kd = 0 ∨ kd = 1 ∨ kd = 2 ∨ kd = 3 ∨ kd = 4 ∨ kd = 5 := by omega
    rcases kds with g | g | g | g | g | g <;> subst g
    · walk_at "rd"
      refine ⟨_, _, _, rfl, ?_⟩
      walk_at "rd"
      refine ⟨p, a, b, _, _, rfl, S3, by omega, by decide, by decide, fun q H8 q0 q1 S8 B8 => ?_⟩
      walk_at "rd"
      refine ⟨by show 4 ≤ sizeLine; decide, fun t ht => ?_⟩
      exact k t (.nth m (1 + q) dn) _ ⟨by rw [upd_same]; rfl, by omega, by omega, by omega, by omega, WDok⟩ (near_nth (by omega) (by omega)) ((S8.same (Same.new ht)).mono (by omega)) ((B123.trans B8).trans (But.of (Same.new ht)))
    · walk_at "rd"
      refine ⟨_, _, _, rfl, ?_⟩
      walk_at "rd"
      refine ⟨by show 3 ≤ sizeLine; decide, fun t ht => ?_⟩
      exact k t (.last m dn) _ ⟨by rw [upd_same]; rfl, by omega, by omega, WDok⟩ (near_last m1 m12) ((S3.same (Same.new ht)).mono (by omega)) (B123.trans (But.of (Same.new ht)))
    · walk_at "rd"
      refine ⟨_, _, _, rfl, ?_⟩
      walk_at "rd"
      refine iteTT (by decide) ?_
      walk_at "rd"
      refine ⟨by show 2 ≤ sizeLine; decide, fun l hl => ?_⟩
      have Sl := Same.new (o := .lst [.str ("from" : Str), .str ("until" : Str)]) hl
      walk_at "rd"
      refine ⟨l, _, _, .str ("from" : Str), rfl, rfl, SqL.of upd_same, rfl, ?_⟩
      walk_at "rd"
      refine ⟨by show 4 ≤ sizeLine; decide, fun t ht => ?_⟩
      exact k t (.frm m (8 + dd) dn) _ ⟨by rw [upd_same]; rfl, MDok, by show m < 12 ∨ (m = 12 ∧ 8 + dd ≤ 25); omega, WDok⟩ (near_frm (by omega) (by omega)) (((S3.same Sl).same (Same.new ht)).mono (by omega)) ((B123.trans (But.of Sl)).trans (But.of (Same.new ht)))
    · walk_at "rd"
      refine ⟨_, _, _, rfl, ?_⟩
      walk_at "rd"
      refine iteTT (by decide) ?_
      walk_at "rd"
      refine ⟨by show 2 ≤ sizeLine; decide, fun l hl => ?_⟩
      have Sl := Same.new (o := .lst [.str ("from" : Str), .str ("until" : Str)]) hl
      walk_at "rd"
      refine ⟨l, _, _, .str ("until" : Str), rfl, rfl, SqL.of upd_same, rfl, ?_⟩
      walk_at "rd"
      refine ⟨by show 4 ≤ sizeLine; decide, fun t ht => ?_⟩
      exact k t (.unt m (8 + dd) dn) _ ⟨by rw [upd_same]; rfl, MDok, by show 1 < m ∨ (m = 1 ∧ 7 ≤ 8 + dd); omega, WDok⟩ (near_unt (by omega) (by omega)) (((S3.same Sl).same (Same.new ht)).mono (by omega)) ((B123.trans (But.of Sl)).trans (But.of (Same.new ht)))
    · walk_at "rd"
      refine ⟨_, _, _, rfl, ?_⟩
      walk_at "rd"
      refine ⟨by show 3 ≤ sizeLine; decide, fun t ht => ?_⟩
      exact k t (.date m (8 + dd)) _ ⟨by rw [upd_same]; rfl, MDok⟩ (near_date (by omega) (by omega)) ((S3.same (Same.new ht)).mono (by omega)) (B123.trans (But.of (Same.new ht)))
    · walk_at "rd"
      refine ⟨_, _, _, rfl, ?_⟩
      walk_at "rd"
      refine ⟨.inl ⟨by decide, by decide⟩, ?_⟩
      walk_at "rd"
      refine ⟨by show 2 ≤ sizeLine; decide, fun t ht => ?_⟩
      exact k t (.day (31 * (m - 1) + (8 + dd) - 3)) _ ⟨by rw [upd_same]; rfl, by omega, by omega⟩ (near_day m1 m12 (by omega) (by omega)) ((S3.same (Same.new ht)).mono (by omega)) (B123.trans (But.of (Same.new ht)))
end
end Cf
namespace Cf
open PySem L2
set_option hygiene false
local macro_rules | `(tactic| walk_at "len") => `(tactic| repeat (first | (obtain ⟨e, _⟩ := h; subst e; rfl; done) | (obtain ⟨_, h⟩ := h)))
local macro_rules | `(tactic| walk_at "rd") => `(tactic| repeat (first | refine ⟨_, rfl, ?_⟩ | refine ⟨_, _, rfl, rfl, ?_⟩ | refine ⟨rfl, ?_⟩ | refine ⟨_, _, rfl, ?_⟩))
local macro_rules | `(tactic| walk_at "yes") => `(tactic| (dsimp only [tYes]; rw [if_pos rfl]))
set_option hygiene true
section
variable {P : Program} {w : World} {K : PySem.W.Frag} {mg : Str → Option Value} {base : Heap}
/-! ### _law_twin -/
/-- tuples stay -/
def TSame (H H' : Hp) : Prop := ∀ c vs, H c = some (.tup vs) → H' c = some (.tup vs)
theorem same_ts {H H' : Hp} (h : Same H H') : TSame H H' := fun c vs e => h c _ e
theorem TSame.trans {H H1 H2 : Hp} (a : TSame H H1) (b : TSame H1 H2) : TSame H H2 := fun c vs e => b c vs (a c vs e)
theorem Stt.ts {p a b : Addr} {n : Nat} {H H' : Hp} (S : Stt p a b n H) (B : But p a H H') : TSame H H' := fun c vs e => by
  obtain ⟨u, v, x, h1, h2, _⟩ := S.there
  exact B c _ e (fun z => by rw [z, h1] at e; cases e) (fun z => by rw [z, h2] at e; cases e)
theorem YAt.ts {H H' : Hp} {p : Addr} {q : Yd} (h : YAt H p q) (s : TSame H H') : YAt H' p q := ⟨s _ _ h.tup, h.ok⟩
theorem RowAt.ts {H H' : Hp} {p : Addr} {r : Row} (h : RowAt H p r) (s : TSame H H') : RowAt H' p r := by
  obtain ⟨q, e, y⟩ := h.ex
  exact ⟨q, s _ _ e, y.ts s⟩
theorem RulAt.ts {H H' : Hp} {p : Addr} {rs : List Row} (h : RulAt H p rs) (s : TSame H H') : RulAt H' p rs := by
  obtain ⟨ps, e, r⟩ := h.ex
  exact ⟨ps, s _ _ e, Paired.mapP r fun a b x => x.ts s⟩
/-! ### rules drawn -/
theorem Stt.put {p a b L : Addr} {n : Nat} {H : Hp} {o : HO} (S : Stt p a b n H) (h1 : L ≠ p) (h2 : L ≠ a) (h3 : L ≠ b) : Stt p a b n (upd H L o) := by
  obtain ⟨⟨ws, cs, rest, turn, e1, e2, e3, r⟩, ab⟩ := S
  exact ⟨⟨ws, cs, rest, turn, by rw [upd_ne (Ne.symm h1)]; exact e1, by rw [upd_ne (Ne.symm h2)]; exact e2, by rw [upd_ne (Ne.symm h3)]; exact e3, r⟩, ab⟩
theorem Stt.far {p a b L : Addr} {n : Nat} {H : Hp} (S : Stt p a b n H) (hL : H L = none) : L ≠ p ∧ L ≠ a ∧ L ≠ b := by
  obtain ⟨u1, u2, u3, e1, e2, e3⟩ := S.there
  refine ⟨fun e => ?_, fun e => ?_, fun e => ?_⟩
  · rw [e, e1] at hL; cases hL
  · rw [e, e2] at hL; cases hL
  · rw [e, e3] at hL; cases hL
theorem pick_new {p a b l : Addr} {n : Nat} {H : Hp} (S : Stt p a b n H) (hl : H l = none) (xs : List L2.V) : Stt p a b n (upd H l (.lst xs)) ∧ (upd H l (.lst xs)) l = some (.lst xs) ∧ l ≠ p ∧ l ≠ a :=
  ⟨S.same (Same.new hl), upd_same, (S.far hl).1, (S.far hl).2.1⟩
theorem ints_mem {ns : List Int} {i : Nat} {v : V} (h : (ns.map V.int)[i]? = some v) : ∃ n : Int, v = .int n ∧ n ∈ ns := by
  obtain ⟨z, hz, e⟩ := ints_get h
  exact ⟨z, e, List.mem_of_getElem? hz⟩
theorem bas_mem {i : Nat} {v : V} (h : [V.str ("utc" : Str), V.str ("wall" : Str)][i]? = some v) : ∃ c : Bool, v = .str (bas c) := by
  match i, h with
  | 0, h => exact ⟨false, (Option.some.inj h).symm⟩
  | 1, h => exact ⟨true, (Option.some.inj h).symm⟩
structure Grown (H0 : Hp) (p a b L : Addr) (n : Nat) (H : Hp) (rs : List Row) : Prop where
  st : Stt p a b n H
  but : But p a H0 H
  ex : ∃ ts : List Addr, H L = some (.lst (ts.map V.ref)) ∧ Paired (RowAt H) ts rs
  ok : ∀ r ∈ rs, r.Ok
theorem Grown.go {H0 H H' : Hp} {p a b L : Addr} {n n' : Nat} {rs : List Row} (G : Grown H0 p a b L n H rs) (B : But p a H H') (S : Stt p a b n' H') (h1 : L ≠ p) (h2 : L ≠ a) : Grown H0 p a b L n' H' rs := by
  obtain ⟨ts, e, r⟩ := G.ex
  have t := G.st.ts B
  exact ⟨S, G.but.trans B, ⟨ts, B _ _ e h1 h2, Paired.mapP r fun x y z => z.ts t⟩, G.ok⟩
theorem Grown.add {H0 H : Hp} {p a b L t q : Addr} {n : Nat} {rs : List Row} {ts : List Addr} {r : Row} (hL0 : H0 L = none) (h : L ≠ p ∧ L ≠ a ∧ L ≠ b) (st : Stt p a b n H) (but : But p a H0 H) (e : H L = some (.lst (ts.map V.ref))) (pr : Paired (RowAt H) ts rs) (ok : ∀ r ∈ rs, r.Ok)
    (ht : H t = some (.tup [.ref q, .int r.sec, .str (bas r.wall), .int r.off])) (Y : YAt H q r.yd) (ro : r.Ok) : Grown H0 p a b L n (upd H L (.lst (ts.map V.ref ++ [.ref t]))) (rs ++ [r]) := by
  have keep : TSame H (upd H L (.lst (ts.map V.ref ++ [.ref t]))) := fun c vs g => by
    have : c ≠ L := fun z => by rw [z, e] at g; cases g
    rw [upd_ne this]; exact g
  refine ⟨st.put h.1 h.2.1 h.2.2, fun c o g h1 h2 => ?_, ⟨ts ++ [t], by rw [upd_same, List.map_append]; rfl, Paired.snoc (Paired.mapP pr fun x y z => z.ts keep) ⟨q, keep _ _ ht, Y.ts keep⟩⟩, fun r' hr => ?_⟩
  · have : c ≠ L := fun z => by rw [z, hL0] at g; cases g
    rw [upd_ne this]
    exact but c o g h1 h2
  · rcases List.mem_append.mp hr with z | z
    · exact ok _ z
    · rw [List.mem_singleton.mp z]; exact ro
def spRl : Sp := fun vs H Q _ => ∃ (p a b : Addr) (n : Nat), vs = [.ref p] ∧ Stt p a b n H ∧ n ≤ 800000 ∧
  ∀ (t : Addr) (rs : List Row) (H' : Hp), RulAt H' t rs → RulOk rs → Stt p a b (n + 200) H' → But p a H H' → Q (.ref t) H'
theorem four_mem {a b c d v : V} {i : Nat} (h : [a, b, c, d][i]? = some v) : v = a ∨ v = b ∨ v = c ∨ v = d := by
  match i, h with
  | 0, h => exact .inl (Option.some.inj h).symm
  | 1, h => exact .inr (.inl (Option.some.inj h).symm)
  | 2, h => exact .inr (.inr (.inl (Option.some.inj h).symm))
  | 3, h => exact .inr (.inr (.inr (Option.some.inj h).symm))
theorem turned_twin {a b t : Row} {rs : List Row} (h : Turned (a :: b :: rs)) (h1 : t.off ≠ a.off) (h2 : b.off ≠ t.off) : Turned (a :: t :: b :: rs) := by
  intro i r hr
  match i with
  | 0 =>
    cases hr
    have := h 0 a rfl
    rw [lastOff_cons _ _ (by simp)] at this
    rw [lastOff_cons _ _ (by simp), lastOff_cons _ _ (by simp)]
    exact this
  | 1 => cases hr; exact h1
  | 2 => cases hr; exact h2
  | i + 3 =>
    have g := h (i + 2) r (by simpa using hr)
    unfold prevOff at g ⊢
    rw [if_neg (by omega)] at g ⊢
    simpa using g
theorem ints_item {ns : List Int} {i : Nat} {v : V} (h : (ns.map V.int)[i]? = some v) : ∃ n : Int, v = .int n := by
  obtain ⟨z, _, e⟩ := ints_get h
  exact ⟨z, e⟩
theorem six1 {n : Nat} (h : 1 ≤ n) (d : Nat) : HT.sIx n d (some 1) = 1 := by
  have e := HT.sIx_nat n d 1
  rw [show ((1 : Nat) : Int) = 1 from rfl] at e
  rw [e]
  omega
theorem cut1 {n : Nat} (h : 2 ≤ n) : ¬ (HT.sIx n 0 none = 0 ∧ HT.sIx n n (some 1) = n) := by
  rintro ⟨_, e⟩
  rw [six1 (by omega)] at e
  omega
theorem cut2 {n : Nat} (h : 2 ≤ n) : ¬ (HT.sIx n 0 (some 1) = 0 ∧ HT.sIx n n none = n) := by
  rintro ⟨e, _⟩
  rw [six1 (by omega)] at e
  omega
theorem cutV_1 {xs : List V} (h : 1 ≤ xs.length) : cutV xs none (some 1) = xs.take 1 := by
  unfold cutV
  rw [six1 h, HT.sIx_none]
  rfl
theorem cutV_2 {xs : List V} (h : 1 ≤ xs.length) : cutV xs (some 1) none = xs.drop 1 := by
  unfold cutV
  rw [six1 h, HT.sIx_none]
  exact List.take_of_length_le (by rw [List.length_drop]; exact Nat.le_refl _)
theorem paired_drop1 {α β : Type} {F : α → β → Prop} : ∀ {xs : List α} {ys : List β}, Paired F xs ys → Paired F (xs.drop 1) (ys.drop 1)
  | _, _, .nil => .nil
  | _, _, .cons _ r => r
def spTwin : Sp := fun vs H Q _ => ∃ (p a b c : Addr) (n : Nat) (rs : List Row), vs = [.ref p, .ref c] ∧ Stt p a b n H ∧ n ≤ 900000 ∧ RulAt H c rs ∧ RulOk rs ∧ rs.length ≤ 3 ∧ Turned rs ∧ (∃ ms, MsL ms ∧ DR ms rs) ∧
  ∀ (t : Addr) (rs' : List Row) (H' : Hp), RulAt H' t rs' → RulOk rs' → Turned rs' → (∀ k ∈ kinds, misK rs' k = none) → Stt p a b (n + 2) H' → But p a H H' → Q (.ref t) H'
theorem scLawTwin : FnScope ["state", "scheme", "yearly", "second", "basis", "offset", "lag", "later", "clock"] ["state", "scheme"] (defScope sLawTwin) := ⟨rfl, rfl, rfl, by decide +kernel, rfl, by decide +kernel, by decide +kernel⟩
set_option maxHeartbeats 1000000 in
theorem ok_twin {f : Addr} {fd : FuncData} (F : Fun K "_law_twin" "_law_twin" sLawTwin f fd) (T : Nm mg) (D_law_pick : Df P w K mg base 3 "_law_pick" ["state", "some"] [] spPick) : FnOk P w K mg base CX0 4 f fd ["state", "scheme"] spTwin := by
  refine F.ok scLawTwin (fun vs H Q E h => ?_) (fun cdv A outer s H vs Q E hr h => ?_)
  · obtain ⟨_, _, _, _, _, _, rfl, _⟩ := h
    rfl
  · obtain ⟨p, a, b, c, n, rs, rfl, S, hn, R, ok, l3, tu, ⟨ms, hms, dr⟩, k⟩ := h
    have nd := scLawTwin.nd
    have hu := hr.units
    obtain ⟨ps, hp, rows⟩ := R.ex
    have lp : ps.length = rs.length := rows.length
    have two := ok.two
    obtain ⟨p0, hp0⟩ : ∃ p0, ps[0]? = some p0 := ⟨_, List.getElem?_eq_getElem (by omega)⟩
    obtain ⟨p1, hp1⟩ : ∃ p1, ps[1]? = some p1 := ⟨_, List.getElem?_eq_getElem (by omega)⟩
    obtain ⟨pz, hpz⟩ : ∃ pz, ps[ps.length - 1]? = some pz := ⟨_, List.getElem?_eq_getElem (by omega)⟩
    obtain ⟨r0, hr0, R0⟩ := paired_get' rows _ p0 hp0
    obtain ⟨r1, hr1, R1⟩ := paired_get' rows _ p1 hp1
    obtain ⟨rz, hrz, Rz⟩ := paired_get' rows _ pz hpz
    obtain ⟨y0, hrow0, Y0⟩ := R0.ex
    obtain ⟨y1, hrow1, _⟩ := R1.ex
    obtain ⟨yz, hrowz, _⟩ := Rz.ex
    have az : atI (ps.map V.ref) (-1) = some (V.ref pz) := atI_prev (i := 0) (by rw [List.length_map]; omega) (by rw [if_pos rfl, List.length_map, List.getElem?_map, hpz]; rfl)
    have a0 : atI (ps.map V.ref) 0 = some (V.ref p0) := atI_nat (j := 0) (by rw [List.getElem?_map, hp0]; rfl)
    have a1 : atI (ps.map V.ref) 1 = some (V.ref p1) := atI_nat (j := 1) (by rw [List.getElem?_map, hp1]; rfl)
    refine ⟨_, (pss_cons (ps_asg (pe_ix ix_tup (pv 1) pe_int (fun _ _ => rfl)) (pg_tup (by rfl) (pgs_cons (pg_name (i := 2) nd rfl (Or.inl rfl)) (pgs_cons (pg_name (i := 3) nd rfl (Or.inl rfl)) (pgs_cons (pg_name (i := 4) nd rfl (Or.inl rfl)) (pgs_cons (pg_name (i := 5) nd rfl (Or.inl rfl)) pgs_nil))))))
      (pss_cons (ps_par (i := 6) (j := 7) (by rfl) nd rfl rfl (by decide) rfl rfl (pa_cons (pe_df D_law_pick (hr.mono (by decide)) (pa_cons (pv 0) (pa_cons (pe_lst (pa_cons pe_int (pa_cons pe_int (pa_cons pe_int (pa_cons pe_int pa_nil))))) pa_nil))) (pa_cons (pe_op op_add (pv 5) (pe_df D_law_pick (hr.mono (by decide)) (pa_cons (pv 0) (pa_cons (pe_lst (pa_cons (pe_un un_neg pe_int) (pa_cons pe_int (pa_cons (pe_un un_neg pe_int) (pa_cons pe_int pa_nil))))) pa_nil)))) pa_nil)) (by rfl))
      (pss_cons (ps_set (i := 8) nd rfl (Or.inl rfl) (pe_op op_add (pe_op op_add (pv 3) (pv 6)) (pe_ifExp (pt_cmpR op_eq (pv 4) pe_str (nomark _)) (pe_op op_sub (pv 5) (pe_ix ix_tup (pe_ix ix_tup (pv 1) (pe_un un_neg pe_int) (fun _ _ => rfl)) pe_int (fun _ _ => rfl))) pe_int)))
      (pss_cons (ps_if (PW.pt (pw_or (pt_not (pt_chain op_le op_le (pe_un un_neg pe_int) (pv 8) pe_int)) (pw_or (pt_cmpR op_gt (pe_callB call_abs (by rfl) T.abs (by decide +kernel) (pa_cons (pv 7) pa_nil)) pe_int (nomark _)) (pw_or1 (pt_cmpR op_eq (pv 7) (pe_ix ix_tup (pe_ix ix_tup (pv 1) pe_int (fun _ _ => rfl)) pe_int (fun _ _ => rfl)) (nomark _))))))
        (pss_one (ps_ret (pv 1)))
        pss_nil)
      (pss_one (ps_ret (pe_op op_catA (pe_op op_catA (pe_slice sl_tupA (pv 1) po_none (po_some pe_int)) (pe_tup (pa_cons (pe_tup (pa_cons (pv 2) (pa_cons (pv 8) (pa_cons (pv 4) (pa_cons (pv 7) pa_nil))))) pa_nil))) (pe_slice sl_tupA (pv 1) (po_some pe_int) po_none)))))))), ?_⟩
    walk_at "rd"
    refine ⟨c, _, _, _, rfl, rfl, SqT.of hp, a0, ?_⟩
    walk_at "rd"
    refine ⟨p0, _, rfl, SqT.of hrow0, rfl, ?_⟩
    walk_at "rd"
    refine ⟨by show 4 ≤ sizeLine; decide, fun l hl => ?_⟩
    have Sl := Same.new (o := .lst [.int 1, .int 600, .int 3600, .int 7200]) hl
    obtain ⟨u1, u2, u3, p6, a6, b6⟩ := S.there
    have lp1 : l ≠ p := fun e => by rw [e, p6] at hl; cases hl
    have la1 : l ≠ a := fun e => by rw [e, a6] at hl; cases hl
    walk_at "rd"
    refine ⟨p, a, b, l, _, _, rfl, S.same Sl, by omega, upd_same, lp1, la1, by show 0 < 4; decide, by show 4 ≤ 1000; decide, fun i v H1 hv S1 B1 => ?_⟩
    obtain ⟨lag, rfl, hlag⟩ := ints_mem (ns := [1, 600, 3600, 7200]) hv
    have lagb : 1 ≤ lag ∧ lag ≤ 7200 := by simp at hlag; omega
    walk_at "rd"
    refine ⟨by show 4 ≤ sizeLine; decide, fun l2 hl2 => ?_⟩
    have Sl2 := Same.new (o := .lst [.int (-3600), .int 5400, .int (-7200), .int 13]) hl2
    obtain ⟨u1', u2', u3', p6', a6', b6'⟩ := S1.there
    have lp2 : l2 ≠ p := fun e => by rw [e, p6'] at hl2; cases hl2
    have la2 : l2 ≠ a := fun e => by rw [e, a6'] at hl2; cases hl2
    walk_at "rd"
    refine ⟨p, a, b, l2, _, _, rfl, S1.same Sl2, by omega, upd_same, lp2, la2, by show 0 < 4; decide, by show 4 ≤ 1000; decide, fun i v H2 hv2 S2 B2 => ?_⟩
    obtain ⟨step, rfl, hstep⟩ := ints_mem (ns := [-3600, 5400, -7200, 13]) hv2
    have stepb : step ≠ 0 := by simp at hstep; omega
    have B02 := (((But.of Sl).trans B1).trans (But.of Sl2)).trans B2
    have T02 := S.ts B02
    walk_at "rd"
    have hp' := T02 _ _ hp
    have St2 := S2.mono (m := n + 2) (by omega)
    have fin0 : ∀ (H' : Hp), Same H2 H' → Q (.ref c) H' := fun H' S' => k c rs H' (R.ts (T02.trans (same_ts S'))) ok tu (dr_ord hms dr) (St2.same S') (B02.trans (But.of S'))
    have lm : (ps.map V.ref).length = rs.length := by rw [List.length_map, lp]
    have ecut : cutV (ps.map V.ref) none (some 1) = [V.ref p0] := by
      rw [cutV_1 (by omega), List.take_one, List.head?_eq_getElem?, List.getElem?_map, hp0]
      rfl
    have ecut2 : cutV (ps.map V.ref) (some 1) none = (ps.drop 1).map V.ref := by rw [cutV_2 (by omega), List.map_drop]
    have fin : ∀ (ck : Int) (J : Hp) (t2 t6 : Addr), ck = r0.sec + lag + (if r0.wall = true then r0.off - rz.off else 0) → r0.off + step ≠ r1.off → Same H2 J → -86400 ≤ ck → ck ≤ 172800 → -86399 ≤ r0.off + step → r0.off + step ≤ 86399 → J t2 = some (.tup [.ref y0, .int ck, .str (bas r0.wall), .int (r0.off + step)]) → J t6 = some (.tup (([V.ref p0] ++ [V.ref t2]) ++ (ps.drop 1).map V.ref)) → Q (.ref t6) J := by
      intro ck J t2 t6 hck hne SJ b1 b2 b3 b4 e2 e6
      have TJ := T02.trans (same_ts SJ)
      refine k t6 (r0 :: ⟨r0.yd, ck, r0.wall, r0.off + step⟩ :: rs.drop 1) J ⟨p0 :: t2 :: ps.drop 1, e6, .cons (R0.ts TJ) (.cons ⟨y0, e2, Y0.ts TJ⟩ (paired_drop1 (Paired.mapP rows fun a b x => x.ts TJ)))⟩ ⟨by simp, by simp; omega, fun r hr => ?_⟩ ?_ ?_ (St2.same SJ) (B02.trans (But.of SJ))
      · have m0 : r0 ∈ rs := List.mem_of_getElem? hr0
        rcases List.mem_cons.mp hr with e | hr
        · rw [e]; exact ok.row _ m0
        · rcases List.mem_cons.mp hr with e | hr
          · rw [e]; exact ⟨(ok.row _ m0).1, ⟨b1, b2⟩, b3, b4⟩
          · exact ok.row _ (List.mem_of_mem_drop hr)
      · obtain ⟨rest, er⟩ : ∃ rest, rs = r0 :: r1 :: rest := by
          match rs, hr0, hr1 with
          | _ :: _ :: rest, h0, h1 => cases h0; cases h1; exact ⟨rest, rfl⟩
        rw [er] at tu ⊢
        exact turned_twin tu (by show r0.off + step ≠ r0.off; omega) (Ne.symm hne)
      · have er : rs = r0 :: rs.drop 1 := by
          match rs, hr0 with
          | _ :: _, h0 => cases h0; rfl
        have pz : prevOff (r0 :: rs.drop 1) 0 = rz.off := by
          rw [← er]
          unfold prevOff
          rw [if_pos rfl, ← lp, hrz]
          rfl
        refine dr_twin (lag := lag) hms (er ▸ dr) (by rw [List.length_drop]; omega) rfl rfl ?_ lagb.1 lagb.2 b3 b4
        rw [pz]
        exact hck
    cases hw : r0.wall
    · refine iteFF (by decide) ?_
      walk_at "rd"
      refine ite2 (fun c1 => ?_) (fun c1 => ?_)
      · walk_at "rd"
        refine ite2 (fun c2 => ?_) (fun c2 => ?_)
        · walk_at "rd"
          exact fin0 H2 (Same.refl _)
        · walk_at "rd"
          refine ite2 (fun c3 => ?_) (fun c3 => ?_)
          · walk_at "rd"
            exact fin0 H2 (Same.refl _)
          · walk_at "rd"
            refine ⟨c, _, _, _, rfl, rfl, SqT.of hp', a1, ?_⟩
            walk_at "rd"
            refine ⟨p1, _, _, _, rfl, rfl, SqT.of (T02 _ _ hrow1), atI_nat (j := 3) rfl, ?_⟩
            walk_at "rd"
            refine ite2 (fun c4 => ?_) (fun c4 => ?_)
            · walk_at "rd"
              exact fin0 H2 (Same.refl _)
            · walk_at "rd"
              refine ⟨c, _, rfl, SqT.of hp', fun e => absurd e (by rw [List.length_map, lp]; exact cut1 (by omega)), fun _ t1 ht1 => ?_⟩
              have G1 := Same.new (o := .tup (cutV (ps.map V.ref) none (some 1))) ht1
              have g1 : (upd H2 t1 (.tup (cutV (ps.map V.ref) none (some 1)))) t1 = some (.tup [V.ref p0]) := by rw [upd_same, ecut]
              generalize (upd H2 t1 (.tup (cutV (ps.map V.ref) none (some 1)))) = J1 at *
              walk_at "rd"
              refine ⟨by show 4 ≤ sizeLine; decide, fun t2 ht2 => ?_⟩
              have G2 := Same.new (o := .tup [V.ref y0, V.int (r0.sec + lag + 0), V.str (bas r0.wall), V.int (r0.off + step)]) ht2
              walk_at "rd"
              refine ⟨szle (by simp), fun t3 ht3 => ?_⟩
              have g2 : (upd J1 t2 (.tup [V.ref y0, V.int (r0.sec + lag + 0), V.str (bas r0.wall), V.int (r0.off + step)])) t2 = some (.tup [V.ref y0, V.int (r0.sec + lag + 0), V.str (bas r0.wall), V.int (r0.off + step)]) := upd_same
              rw [hw] at g2 G2
              generalize (upd J1 t2 (.tup [V.ref y0, V.int (r0.sec + lag + 0), V.str (bas false), V.int (r0.off + step)])) = J2 at *
              have G3 := Same.new (o := .tup [V.ref t2]) ht3
              have g3 : (upd J2 t3 (.tup [V.ref t2])) t3 = some (.tup [V.ref t2]) := upd_same
              generalize (upd J2 t3 (.tup [V.ref t2])) = J3 at *
              walk_at "rd"
              refine ⟨t1, t3, _, _, rfl, rfl, SqT.of (G3 _ _ (G2 _ _ g1)), SqT.of g3, szle (by simp), fun e => by simp at e, fun _ e => by simp at e, fun _ _ t4 ht4 => ?_⟩
              have G4 := Same.new (o := .tup ([V.ref p0] ++ [V.ref t2])) ht4
              have g4 : (upd J3 t4 (.tup ([V.ref p0] ++ [V.ref t2]))) t4 = some (.tup ([V.ref p0] ++ [V.ref t2])) := upd_same
              generalize (upd J3 t4 (.tup ([V.ref p0] ++ [V.ref t2]))) = J4 at *
              have S24 := ((G1.trans G2).trans G3).trans G4
              walk_at "rd"
              refine ⟨c, _, rfl, SqT.of (S24 _ _ hp'), fun e => absurd e (by rw [lm]; exact cut2 (by omega)), fun _ t5 ht5 => ?_⟩
              have G5 := Same.new (o := .tup (cutV (ps.map V.ref) (some 1) none)) ht5
              have g5 : (upd J4 t5 (.tup (cutV (ps.map V.ref) (some 1) none))) t5 = some (.tup ((ps.drop 1).map V.ref)) := by rw [upd_same, ecut2]
              generalize (upd J4 t5 (.tup (cutV (ps.map V.ref) (some 1) none))) = J5 at *
              have l5 : ((ps.drop 1).map V.ref).length = rs.length - 1 := by rw [List.length_map, List.length_drop, lp]
              refine ⟨t4, t5, _, _, rfl, rfl, SqT.of (G5 _ _ g4), SqT.of g5, szle (by rw [l5]; simp; omega), fun e => by simp at e, fun _ e => by rw [e] at l5; simp at l5; omega, fun _ _ t6 ht6 => ?_⟩
              have G6 := Same.new (o := .tup (([V.ref p0] ++ [V.ref t2]) ++ (ps.drop 1).map V.ref)) ht6
              have S26 := (S24.trans G5).trans G6
              simp only [decide_eq_true_eq, Bool.not_eq_true', decide_eq_false_iff_not, Decidable.not_not] at c1 c2 c3
              exact fin _ _ t2 t6 (by rw [hw]; rfl) (fun g => c4 (decide_eq_true (congrArg V.int g))) S26 c1 c2 (by split at c3 <;> omega) (by split at c3 <;> omega) (by rw [hw]; exact G6 _ _ (G5 _ _ (G4 _ _ (G3 _ _ g2)))) upd_same
      · walk_at "rd"
        exact fin0 H2 (Same.refl _)
    · refine iteTT (by decide) ?_
      walk_at "rd"
      refine ⟨c, _, _, _, rfl, rfl, SqT.of hp', az, ?_⟩
      walk_at "rd"
      refine ⟨pz, _, _, _, rfl, rfl, SqT.of (T02 _ _ hrowz), atI_nat (j := 3) rfl, ?_⟩
      walk_at "rd"
      refine ite2 (fun c1 => ?_) (fun c1 => ?_)
      · walk_at "rd"
        refine ite2 (fun c2 => ?_) (fun c2 => ?_)
        · walk_at "rd"
          exact fin0 H2 (Same.refl _)
        · walk_at "rd"
          refine ite2 (fun c3 => ?_) (fun c3 => ?_)
          · walk_at "rd"
            exact fin0 H2 (Same.refl _)
          · walk_at "rd"
            refine ⟨c, _, _, _, rfl, rfl, SqT.of hp', a1, ?_⟩
            walk_at "rd"
            refine ⟨p1, _, _, _, rfl, rfl, SqT.of (T02 _ _ hrow1), atI_nat (j := 3) rfl, ?_⟩
            walk_at "rd"
            refine ite2 (fun c4 => ?_) (fun c4 => ?_)
            · walk_at "rd"
              exact fin0 H2 (Same.refl _)
            · walk_at "rd"
              refine ⟨c, _, rfl, SqT.of hp', fun e => absurd e (by rw [List.length_map, lp]; exact cut1 (by omega)), fun _ t1 ht1 => ?_⟩
              have G1 := Same.new (o := .tup (cutV (ps.map V.ref) none (some 1))) ht1
              have g1 : (upd H2 t1 (.tup (cutV (ps.map V.ref) none (some 1)))) t1 = some (.tup [V.ref p0]) := by rw [upd_same, ecut]
              generalize (upd H2 t1 (.tup (cutV (ps.map V.ref) none (some 1)))) = J1 at *
              walk_at "rd"
              refine ⟨by show 4 ≤ sizeLine; decide, fun t2 ht2 => ?_⟩
              have G2 := Same.new (o := .tup [V.ref y0, V.int (r0.sec + lag + (r0.off - rz.off)), V.str (bas r0.wall), V.int (r0.off + step)]) ht2
              walk_at "rd"
              refine ⟨szle (by simp), fun t3 ht3 => ?_⟩
              have g2 : (upd J1 t2 (.tup [V.ref y0, V.int (r0.sec + lag + (r0.off - rz.off)), V.str (bas r0.wall), V.int (r0.off + step)])) t2 = some (.tup [V.ref y0, V.int (r0.sec + lag + (r0.off - rz.off)), V.str (bas r0.wall), V.int (r0.off + step)]) := upd_same
              rw [hw] at g2 G2
              generalize (upd J1 t2 (.tup [V.ref y0, V.int (r0.sec + lag + (r0.off - rz.off)), V.str (bas true), V.int (r0.off + step)])) = J2 at *
              have G3 := Same.new (o := .tup [V.ref t2]) ht3
              have g3 : (upd J2 t3 (.tup [V.ref t2])) t3 = some (.tup [V.ref t2]) := upd_same
              generalize (upd J2 t3 (.tup [V.ref t2])) = J3 at *
              walk_at "rd"
              refine ⟨t1, t3, _, _, rfl, rfl, SqT.of (G3 _ _ (G2 _ _ g1)), SqT.of g3, szle (by simp), fun e => by simp at e, fun _ e => by simp at e, fun _ _ t4 ht4 => ?_⟩
              have G4 := Same.new (o := .tup ([V.ref p0] ++ [V.ref t2])) ht4
              have g4 : (upd J3 t4 (.tup ([V.ref p0] ++ [V.ref t2]))) t4 = some (.tup ([V.ref p0] ++ [V.ref t2])) := upd_same
              generalize (upd J3 t4 (.tup ([V.ref p0] ++ [V.ref t2]))) = J4 at *
              have S24 := ((G1.trans G2).trans G3).trans G4
              walk_at "rd"
              refine ⟨c, _, rfl, SqT.of (S24 _ _ hp'), fun e => absurd e (by rw [lm]; exact cut2 (by omega)), fun _ t5 ht5 => ?_⟩
              have G5 := Same.new (o := .tup (cutV (ps.map V.ref) (some 1) none)) ht5
              have g5 : (upd J4 t5 (.tup (cutV (ps.map V.ref) (some 1) none))) t5 = some (.tup ((ps.drop 1).map V.ref)) := by rw [upd_same, ecut2]
              generalize (upd J4 t5 (.tup (cutV (ps.map V.ref) (some 1) none))) = J5 at *
              have l5 : ((ps.drop 1).map V.ref).length = rs.length - 1 := by rw [List.length_map, List.length_drop, lp]
              refine ⟨t4, t5, _, _, rfl, rfl, SqT.of (G5 _ _ g4), SqT.of g5, szle (by rw [l5]; simp; omega), fun e => by simp at e, fun _ e => by rw [e] at l5; simp at l5; omega, fun _ _ t6 ht6 => ?_⟩
              have G6 := Same.new (o := .tup (([V.ref p0] ++ [V.ref t2]) ++ (ps.drop 1).map V.ref)) ht6
              have S26 := (S24.trans G5).trans G6
              simp only [decide_eq_true_eq, Bool.not_eq_true', decide_eq_false_iff_not, Decidable.not_not] at c1 c2 c3
              exact fin _ _ t2 t6 (by rw [hw]; rfl) (fun g => c4 (decide_eq_true (congrArg V.int g))) S26 c1 c2 (by split at c3 <;> omega) (by split at c3 <;> omega) (by rw [hw]; exact G6 _ _ (G5 _ _ (G4 _ _ (G3 _ _ g2)))) upd_same
      · walk_at "rd"
        exact fin0 H2 (Same.refl _)
end
end Cf
namespace Cf
open PySem L2
set_option hygiene false
local macro_rules | `(tactic| walk_at "len") => `(tactic| repeat (first | (obtain ⟨e, _⟩ := h; subst e; rfl; done) | (obtain ⟨_, h⟩ := h)))
local macro_rules | `(tactic| walk_at "rd") => `(tactic| repeat (first | refine ⟨_, rfl, ?_⟩ | refine ⟨_, _, rfl, rfl, ?_⟩ | refine ⟨rfl, ?_⟩ | refine ⟨_, _, rfl, ?_⟩))
local macro_rules | `(tactic| walk_at "yes") => `(tactic| (dsimp only [tYes]; rw [if_pos rfl]))
set_option hygiene true
section
variable {P : Program} {w : World} {K : PySem.W.Frag} {mg : Str → Option Value} {base : Heap}
/-! ### _law_rule -/
def spRlO : Sp := fun vs H Q _ => ∃ (p a b : Addr) (n : Nat), vs = [.ref p] ∧ Stt p a b n H ∧ n ≤ 800000 ∧
  ∀ (t : Addr) (rs : List Row) (H' : Hp), RulAt H' t rs → RulOk rs → Turned rs → (∀ k ∈ kinds, misK rs k = none) → Stt p a b (n + 200) H' → But p a H H' → Q (.ref t) H'
theorem turned_off {rs : List Row} {B step : Int} (h2 : 2 ≤ rs.length) (h4 : rs.length ≤ 4) (s0 : 0 < step) (s7 : step ≠ 7) (h : ∀ (i : Nat) r, rs[i]? = some r → r.off = B + step * ((i : Int) % 2) + 7 * ((i : Int) / 2)) : Turned rs := by
  intro i r hr e
  have li : i < rs.length := (List.getElem?_eq_some_iff.mp hr).1
  have il : (if i = 0 then rs.length - 1 else i - 1) < rs.length := by split <;> omega
  obtain ⟨rj, hrj⟩ : ∃ rj, rs[if i = 0 then rs.length - 1 else i - 1]? = some rj := ⟨_, List.getElem?_eq_getElem il⟩
  have pv : prevOff rs i = rj.off := by
    unfold prevOff
    rw [hrj]
    rfl
  rw [pv, h i r hr, h _ rj hrj] at e
  have hi : i = 0 ∨ i = 1 ∨ i = 2 ∨ i = 3 := by omega
  have hn : rs.length = 2 ∨ rs.length = 3 ∨ rs.length = 4 := by omega
  have e0 : ((0 : Nat) : Int) % 2 = 0 ∧ ((0 : Nat) : Int) / 2 = 0 := ⟨rfl, rfl⟩
  have e1 : ((1 : Nat) : Int) % 2 = 1 ∧ ((1 : Nat) : Int) / 2 = 0 := ⟨rfl, rfl⟩
  have e2 : ((2 : Nat) : Int) % 2 = 0 ∧ ((2 : Nat) : Int) / 2 = 1 := ⟨rfl, rfl⟩
  have e3 : ((3 : Nat) : Int) % 2 = 1 ∧ ((3 : Nat) : Int) / 2 = 1 := ⟨rfl, rfl⟩
  rcases hi with rfl | rfl | rfl | rfl
  · rw [if_pos rfl] at e
    rcases hn with g | g | g <;> rw [g] at e
    · rw [show 2 - 1 = 1 from rfl, e0.1, e0.2, e1.1, e1.2] at e; omega
    · rw [show 3 - 1 = 2 from rfl, e0.1, e0.2, e2.1, e2.2] at e; omega
    · rw [show 4 - 1 = 3 from rfl, e0.1, e0.2, e3.1, e3.2] at e; omega
  · rw [if_neg (by decide), show 1 - 1 = 0 from rfl, e1.1, e1.2, e0.1, e0.2] at e; omega
  · rw [if_neg (by decide), show 2 - 1 = 1 from rfl, e2.1, e2.2, e1.1, e1.2] at e; omega
  · rw [if_neg (by decide), show 3 - 1 = 2 from rfl, e3.1, e3.2, e2.1, e2.2] at e; omega
structure MsOk (ms : List Int) : Prop where
  two : 2 ≤ ms.length
  four : ms.length ≤ 4
  all : ∀ m ∈ ms, 1 ≤ m ∧ m ≤ 12
  far : MsL ms
theorem scLawRule : FnScope ["state", "base", "step", "months", "found", "index", "month", "second", "yearly", "basis", "offset", "scheme"] ["state"] (defScope sLawRule) := ⟨rfl, rfl, rfl, by decide +kernel, rfl, by decide +kernel, by decide +kernel⟩
set_option maxHeartbeats 2000000 in
theorem ok_lr {f : Addr} {fd : FuncData} (F : Fun K "_law_rule" "_law_rule" sLawRule f fd) (T : Nm mg) (D_law_take : Df P w K mg base 2 "_law_take" ["state", "size"] [] spTake) (D_law_pick : Df P w K mg base 3 "_law_pick" ["state", "some"] [] spPick) (D_law_yearly : Df P w K mg base 3 "_law_yearly" ["state", "month"] [] spYl) (D_law_twin : Df P w K mg base 4 "_law_twin" ["state", "scheme"] [] spTwin) : FnOk P w K mg base CX0 5 f fd ["state"] spRlO := by
  refine F.ok scLawRule (fun vs H Q E h => ?_) (fun cdv A outer s H vs Q E hr h => ?_)
  · obtain ⟨_, _, _, _, rfl, _⟩ := h
    rfl
  · obtain ⟨p, a, b, n, rfl, S, hn, k⟩ := h
    have nd := scLawRule.nd
    have hu := hr.units
    refine ⟨_, (pss_cons (ps_par (i := 1) (j := 2) (by rfl) nd rfl rfl (by decide) rfl rfl (pa_cons (pe_op op_mul pe_int (pe_op op_sub (pe_df D_law_take (hr.mono (by decide)) (pa_cons (pv 0) (pa_cons pe_int pa_nil))) pe_int)) (pa_cons (pe_df D_law_pick (hr.mono (by decide)) (pa_cons (pv 0) (pa_cons (pe_lst (pa_cons pe_int (pa_cons pe_int (pa_cons pe_int (pa_cons pe_int (pa_cons pe_int pa_nil)))))) pa_nil))) pa_nil)) (by rfl))
      (pss_cons (ps_par (i := 3) (j := 4) (by rfl) nd rfl rfl (by decide) rfl rfl (pa_cons (pe_df D_law_pick (hr.mono (by decide)) (pa_cons (pv 0) (pa_cons (pe_lst (pa_cons (pe_lst (pa_cons pe_int (pa_cons pe_int pa_nil))) (pa_cons (pe_lst (pa_cons pe_int (pa_cons pe_int pa_nil))) (pa_cons (pe_lst (pa_cons pe_int (pa_cons pe_int (pa_cons pe_int pa_nil)))) (pa_cons (pe_lst (pa_cons pe_int (pa_cons pe_int (pa_cons pe_int (pa_cons pe_int pa_nil))))) pa_nil))))) pa_nil))) (pa_cons (pe_lst pa_nil) pa_nil)) (by rfl))
      (pss_cons (ps_for PassesOwn.never rfl (pi_enum (by rfl) T.enumerate (pa_cons (pv 3) pa_nil)) (pg_tup (by rfl) (pgs_cons (pg_name (i := 5) nd rfl (Or.inl rfl)) (pgs_cons (pg_name (i := 6) nd rfl (Or.inl rfl)) pgs_nil)))
        (pss_cons (ps_set (i := 7) nd rfl (Or.inl rfl) (pe_lst (pa_cons pe_int (pa_cons pe_int (pa_cons pe_int (pa_cons pe_int (pa_cons pe_int (pa_cons pe_int (pa_cons (pe_un un_neg pe_int) (pa_cons pe_int (pa_cons (pe_df D_law_take (hr.mono (by decide)) (pa_cons (pv 0) (pa_cons pe_int pa_nil))) pa_nil)))))))))))
        (pss_cons (ps_par (i := 8) (j := 9) (by rfl) nd rfl rfl (by decide) rfl rfl (pa_cons (pe_df D_law_yearly (hr.mono (by decide)) (pa_cons (pv 0) (pa_cons (pv 6) pa_nil))) (pa_cons (pe_df D_law_pick (hr.mono (by decide)) (pa_cons (pv 0) (pa_cons (pe_lst (pa_cons pe_str (pa_cons pe_str pa_nil))) pa_nil))) pa_nil)) (by rfl))
        (pss_cons (ps_set (i := 10) nd rfl (Or.inl rfl) (pe_op op_add (pe_op op_add (pv 1) (pe_op op_mul (pv 2) (pe_op op_mod (pe_callTy call_int1 (by rfl) T.int (by decide +kernel) (pa_cons (pv 5) pa_nil)) pe_int))) (pe_op op_mul pe_int (pe_op op_fdiv (pv 5) pe_int))))
        (pss_one (ps_expr (pe_bm PySem.F.plainAttrs_list PySem.F.slot_list_append PySem.F.type_list_append mt_append (pv 4) (pa_cons (pe_tup (pa_cons (pv 8) (pa_cons (pe_df D_law_pick (hr.mono (by decide)) (pa_cons (pv 0) (pa_cons (pv 7) pa_nil))) (pa_cons (pv 9) (pa_cons (pv 10) pa_nil))))) pa_nil))))))))
      (pss_cons (ps_set (i := 11) nd rfl (Or.inl rfl) (pe_callTy call_tuple_of (by rfl) T.tuple (by decide +kernel) (pa_cons (pv 4) pa_nil)))
      (pss_one (ps_ret (pe_ifExp (PW.pt (pw_and (pt_cmpR op_lt (pe_callB call_len_seq (by rfl) T.len (by decide +kernel) (pa_cons (pv 11) pa_nil)) pe_int (nomark _)) (pw_and1 (pt_cmpR op_eq (pe_df D_law_take (hr.mono (by decide)) (pa_cons (pv 0) (pa_cons pe_int pa_nil))) pe_int (nomark _))))) (pe_df D_law_twin (hr.mono (by decide)) (pa_cons (pv 0) (pa_cons (pv 11) pa_nil))) (pv 11)))))))), ?_⟩
    walk_at "rd"
    refine ⟨p, a, b, _, _, rfl, S, by omega, by decide, by decide, fun z1 H1 z10 z11 S1 B1 => ?_⟩
    walk_at "rd"
    refine ⟨.inl ⟨by decide, by decide⟩, ?_⟩
    walk_at "rd"
    refine ⟨szle (by simp), fun la hla => ?_⟩
    have Wa := pick_new S1 hla ([3600, 1800, 7200, 1, 40000].map V.int)
    walk_at "rd"
    refine ⟨p, a, b, la, _, _, rfl, Wa.1, by omega, Wa.2.1, Wa.2.2.1, Wa.2.2.2, by show 0 < 5; decide, by show 5 ≤ 1000; decide, fun ia va H2 hva S2 b2 => ?_⟩
    have B2 := B1.trans ((But.of (Same.new hla)).trans b2)
    obtain ⟨step, rfl, hstep⟩ := ints_mem (ns := [3600, 1800, 7200, 1, 40000]) hva
    have stb : 0 ≤ step ∧ step ≤ 40000 := by simp at hstep; omega
    have st0 : 0 < step ∧ step ≠ 7 := by simp at hstep; omega
    walk_at "rd"
    refine ⟨szle (by simp), fun m1 hm1 => ?_⟩
    have s1 := Same.new (o := .lst [.int 3, .int 10]) hm1
    have e1 : (upd H2 m1 (.lst [.int 3, .int 10])) m1 = some (.lst ([3, 10].map V.int)) := upd_same
    have S3 := S2.same s1
    have B3 := B2.trans (But.of s1)
    have n1 := S2.far hm1
    clear s1
    generalize (upd H2 m1 (.lst [.int 3, .int 10])) = H3 at *
    walk_at "rd"
    refine ⟨szle (by simp), fun m2 hm2 => ?_⟩
    have s2 := Same.new (o := .lst [.int 2, .int 11]) hm2
    have e2 : (upd H3 m2 (.lst [.int 2, .int 11])) m2 = some (.lst ([2, 11].map V.int)) := upd_same
    have e1 := s2 _ _ e1
    have n2 := S3.far hm2
    have S4 := S3.same s2
    have B4 := B3.trans (But.of s2)
    clear s2
    generalize (upd H3 m2 (.lst [.int 2, .int 11])) = H4 at *
    walk_at "rd"
    refine ⟨szle (by simp), fun m3 hm3 => ?_⟩
    have s3 := Same.new (o := .lst [.int 3, .int 6, .int 10]) hm3
    have e3 : (upd H4 m3 (.lst [.int 3, .int 6, .int 10])) m3 = some (.lst ([3, 6, 10].map V.int)) := upd_same
    have e1 := s3 _ _ e1
    have e2 := s3 _ _ e2
    have n3 := S4.far hm3
    have S5 := S4.same s3
    have B5 := B4.trans (But.of s3)
    clear s3
    generalize (upd H4 m3 (.lst [.int 3, .int 6, .int 10])) = H5 at *
    walk_at "rd"
    refine ⟨szle (by simp), fun m4 hm4 => ?_⟩
    have s4 := Same.new (o := .lst [.int 2, .int 4, .int 7, .int 10]) hm4
    have e4 : (upd H5 m4 (.lst [.int 2, .int 4, .int 7, .int 10])) m4 = some (.lst ([2, 4, 7, 10].map V.int)) := upd_same
    have e1 := s4 _ _ e1
    have e2 := s4 _ _ e2
    have e3 := s4 _ _ e3
    have n4 := S5.far hm4
    have S6 := S5.same s4
    have B6 := B5.trans (But.of s4)
    clear s4
    generalize (upd H5 m4 (.lst [.int 2, .int 4, .int 7, .int 10])) = H6 at *
    walk_at "rd"
    refine ⟨szle (by simp), fun lb hlb => ?_⟩
    have Wb := pick_new S6 hlb [.ref m1, .ref m2, .ref m3, .ref m4]
    have sb := Same.new (o := .lst [.ref m1, .ref m2, .ref m3, .ref m4]) hlb
    walk_at "rd"
    refine ⟨p, a, b, lb, _, _, rfl, Wb.1, by omega, Wb.2.1, Wb.2.2.1, Wb.2.2.2, by show 0 < 4; decide, by show 4 ≤ 1000; decide, fun ib vb H7 hvb S7 b7 => ?_⟩
    have B7 := B6.trans ((But.of sb).trans b7)
    obtain ⟨Lm, ms, rfl, eM, nM, okM⟩ : ∃ (Lm : Addr) (ms : List Int), vb = .ref Lm ∧ H7 Lm = some (.lst (ms.map V.int)) ∧ (Lm ≠ p ∧ Lm ≠ a ∧ Lm ≠ b) ∧ MsOk ms := by
      rcases four_mem hvb with e | e | e | e
      · exact ⟨m1, _, e, b7 _ _ (sb _ _ e1) n1.1 n1.2.1, n1, by decide, by decide, by decide, .inl rfl⟩
      · exact ⟨m2, _, e, b7 _ _ (sb _ _ e2) n2.1 n2.2.1, n2, by decide, by decide, by decide, .inr (.inl rfl)⟩
      · exact ⟨m3, _, e, b7 _ _ (sb _ _ e3) n3.1 n3.2.1, n3, by decide, by decide, by decide, .inr (.inr (.inl rfl))⟩
      · exact ⟨m4, _, e, b7 _ _ (sb _ _ e4) n4.1 n4.2.1, n4, by decide, by decide, by decide, .inr (.inr (.inr rfl))⟩
    walk_at "rd"
    refine ⟨szle (by simp), fun L hL => ?_⟩
    have far := S7.far hL
    have LM : Lm ≠ L := fun e => by rw [← e, eM] at hL; cases hL
    have hL0 : H L = none := by
      cases g : H L with
      | none => rfl
      | some o => exact absurd (B7 _ _ g far.1 far.2.1) (by rw [hL]; simp)
    have G8 : Grown H p a b L (n + 3) (upd H7 L (.lst [])) [] := ⟨(S7.same (Same.new hL)).mono (by omega), B7.trans (But.of (Same.new hL)), ⟨[], upd_same, .nil⟩, fun _ h => nomatch h⟩
    have eM := (Same.new (o := .lst []) hL) _ _ eM
    clear sb Wb Wa
    generalize (upd H7 L (.lst [])) = H8 at *
    walk_at "rd"
    refine ⟨Lm, _, rfl, SqL.of eM, for_it walk_enum (fun i σ H' => (∃ rs : List Row, Grown H p a b L (n + 3 + 40 * i) H' rs ∧ rs.length = i ∧ DR (ms.take i) rs ∧ (∀ (j : Nat) r, rs[j]? = some r → r.off = 900 * (z1 - 48) + step * ((j : Int) % 2) + 7 * ((j : Int) / 2)) ∧ H' Lm = some (.lst (ms.map V.int)) ∧ ∃ v5 v6 v7 v8 v9 v10 v11 : Option V, σ = [some (.ref p), some (.int (900 * (z1 - 48))), some (.int step), some (.ref Lm), some (.ref L), v5, v6, v7, v8, v9, v10, v11]))
      ⟨[], G8, rfl, .nil, fun j r h => by simp at h, eM, _, _, _, _, _, _, _, rfl⟩ (fun i σ H' _ inv => by obtain ⟨_, _, _, _, _, e, _⟩ := inv; exact SqL.of e) (fun i x σ H3 H4 hi inv y => ?_) fun σ H3 inv => ?_⟩
    · obtain ⟨rs, G, lr, dr, offs, eM, v5, v6, v7, v8, v9, v10, v11, rfl⟩ := inv
      obtain ⟨t, x1, x2, rfl, nt, rfl, f1, f2⟩ := y
      have f1' : some (V.int (i : Nat)) = some x1 := f1
      cases f1'
      have f2' : (ms.map V.int)[i]? = some x2 := f2
      rw [List.getElem?_map] at f2'
      obtain ⟨m, hm, rfl⟩ := Option.map_eq_some_iff.mp f2'
      have li : i < 4 := by have := (List.getElem?_eq_some_iff.mp hm).1; have := okM.four; omega
      have mb := okM.all m (List.mem_of_getElem? hm)
      have s4 := Same.new (o := .tup [.int (i : Nat), .int m]) nt
      have g4 : (upd H3 t (.tup [.int (i : Nat), .int m])) t = some (.tup [.int (i : Nat), .int m]) := upd_same
      have G4 := G.go (But.of s4) (G.st.same s4) far.1 far.2.1
      have eM := s4 _ _ eM
      clear s4
      generalize (upd H3 t (.tup [.int (i : Nat), .int m])) = H4 at *
      refine ⟨t, _, rfl, SqT.of g4, rfl, ?_⟩
      walk_at "rd"
      refine ⟨p, a, b, _, _, rfl, G4.st, by omega, by decide, by decide, fun z5 H5 z50 z51 S5 B5 => ?_⟩
      have G5 := G4.go B5 S5 far.1 far.2.1
      have eM := B5 _ _ eM nM.1 nM.2.1
      walk_at "rd"
      refine ⟨szle (by simp), fun ls hls => ?_⟩
      have s6 := Same.new (o := .lst [.int 0, .int 3600, .int 7200, .int 10800, .int 86399, .int 86400, .int (-3600), .int 172800, .int z5]) hls
      have e6 : (upd H5 ls (.lst [.int 0, .int 3600, .int 7200, .int 10800, .int 86399, .int 86400, .int (-3600), .int 172800, .int z5])) ls = some (.lst ([0, 3600, 7200, 10800, 86399, 86400, -3600, 172800, z5].map V.int)) := upd_same
      have nls := S5.far hls
      have G6 := G5.go (But.of s6) (S5.same s6) far.1 far.2.1
      have eM := s6 _ _ eM
      clear s6
      generalize (upd H5 ls (.lst [.int 0, .int 3600, .int 7200, .int 10800, .int 86399, .int 86400, .int (-3600), .int 172800, .int z5])) = H6 at *
      walk_at "rd"
      refine ⟨p, a, b, _, m, rfl, G6.st, by omega, mb.1, mb.2, fun q y H7 Y7 near S7 B7 => ?_⟩
      have G7 := G6.go B7 S7 far.1 far.2.1
      have eM := B7 _ _ eM nM.1 nM.2.1
      have e6 := B7 _ _ e6 nls.1 nls.2.1
      walk_at "rd"
      refine ⟨szle (by simp), fun lc hlc => ?_⟩
      have Wc := pick_new S7 hlc [.str ("utc" : Str), .str ("wall" : Str)]
      walk_at "rd"
      refine ⟨p, a, b, lc, _, _, rfl, Wc.1, by omega, Wc.2.1, Wc.2.2.1, Wc.2.2.2, by show 0 < 2; decide, by show 2 ≤ 1000; decide, fun ic vc H8 hvc S8 b8 => ?_⟩
      have B8 := (But.of (Same.new (o := .lst [.str ("utc" : Str), .str ("wall" : Str)]) hlc)).trans b8
      have G8 := G7.go B8 S8 far.1 far.2.1
      have Y8 := Y7.ts (S7.ts B8)
      have eM := B8 _ _ eM nM.1 nM.2.1
      have e6 := B8 _ _ e6 nls.1 nls.2.1
      obtain ⟨wl, rfl⟩ := bas_mem hvc
      walk_at "rd"
      refine .inl ⟨_, rfl, ?_⟩
      walk_at "rd"
      refine ⟨by show (0 : Int) < 2; decide, ?_⟩
      walk_at "rd"
      refine ⟨.inl ⟨by omega, by omega⟩, ?_⟩
      walk_at "rd"
      refine ⟨⟨by decide, by decide⟩, ?_⟩
      walk_at "rd"
      refine ⟨.inl ⟨by decide, by decide⟩, ?_⟩
      obtain ⟨ts8, dL8, pr8⟩ := G8.ex
      walk_at "rd"
      refine ⟨.inl ⟨rfl, _, SqL.of dL8⟩, ?_⟩
      walk_at "rd"
      refine ⟨p, a, b, ls, _, _, rfl, G8.st, by omega, e6, nls.1, nls.2.1, by show 0 < 9; decide, by show 9 ≤ 1000; decide, fun ig vg H9 hvg S9 B9 => ?_⟩
      obtain ⟨sec, rfl, hsec⟩ := ints_mem (ns := [0, 3600, 7200, 10800, 86399, 86400, -3600, 172800, z5]) hvg
      have sbd : -86400 ≤ sec ∧ sec ≤ 172800 := by simp at hsec; omega
      have G9 := G8.go B9 S9 far.1 far.2.1
      have Y9 := Y8.ts (S8.ts B9)
      have eM := B9 _ _ eM nM.1 nM.2.1
      walk_at "rd"
      refine ⟨szle (by simp), fun tt htt => ?_⟩
      have GA := G9.go (But.of (Same.new (o := .tup [.ref q, .int sec, .str (bas wl), .int (900 * (z1 - 48) + step * ((i : Int) % 2) + 7 * ((i : Int) / 2))]) htt)) (S9.same (Same.new htt)) far.1 far.2.1
      have YA := Y9.same (Same.new (o := .tup [.ref q, .int sec, .str (bas wl), .int (900 * (z1 - 48) + step * ((i : Int) % 2) + 7 * ((i : Int) / 2))]) htt)
      have gA : (upd H9 tt (.tup [.ref q, .int sec, .str (bas wl), .int (900 * (z1 - 48) + step * ((i : Int) % 2) + 7 * ((i : Int) / 2))])) tt = some (.tup [.ref q, .int sec, .str (bas wl), .int (900 * (z1 - 48) + step * ((i : Int) % 2) + 7 * ((i : Int) / 2))]) := upd_same
      have eM := (Same.new (o := .tup [.ref q, .int sec, .str (bas wl), .int (900 * (z1 - 48) + step * ((i : Int) % 2) + 7 * ((i : Int) / 2))]) htt) _ _ eM
      generalize (upd H9 tt (.tup [.ref q, .int sec, .str (bas wl), .int (900 * (z1 - 48) + step * ((i : Int) % 2) + 7 * ((i : Int) / 2))])) = HA at *
      obtain ⟨ts, dL, pr⟩ := GA.ex
      have lt : ts.length = i := by rw [pr.length, lr]
      walk_at "rd"
      refine ⟨L, _, _, rfl, rfl, dL, by rw [List.length_map, lt]; exact szl (by omega), ?_⟩
      have bst : step * ((i : Int) % 2) ≤ 40000 ∧ 0 ≤ step * ((i : Int) % 2) := by
        have h2 : (i : Int) % 2 = 0 ∨ (i : Int) % 2 = 1 := by omega
        rcases h2 with e | e <;> rw [e] <;> omega
      have GB := Grown.add (r := ⟨y, sec, wl, 900 * (z1 - 48) + step * ((i : Int) % 2) + 7 * ((i : Int) / 2)⟩) hL0 far GA.st GA.but dL pr GA.ok gA YA ⟨YA.ok, sbd, by show -86399 ≤ 900 * (z1 - 48) + step * ((i : Int) % 2) + 7 * ((i : Int) / 2); omega, by show 900 * (z1 - 48) + step * ((i : Int) % 2) + 7 * ((i : Int) / 2) ≤ 86399; omega⟩
      have eM : (upd HA L (.lst (ts.map V.ref ++ [.ref tt]))) Lm = some (.lst (ms.map V.int)) := by rw [upd_ne LM]; exact eM
      generalize (upd HA L (.lst (ts.map V.ref ++ [.ref tt]))) = HB at *
      walk_at "rd"
      refine ⟨rs ++ [_], ⟨GB.st.mono (by omega), GB.but, GB.ex, GB.ok⟩, by rw [List.length_append, lr]; rfl, ?_, ?_, eM, _, _, _, _, _, _, _, rfl⟩
      · rw [List.take_succ, hm]
        exact dr.snoc ⟨near, by show -3600 ≤ sec; simp at hsec; omega, sbd.2, by show -86399 ≤ 900 * (z1 - 48) + step * ((i : Int) % 2) + 7 * ((i : Int) / 2); omega, by show 900 * (z1 - 48) + step * ((i : Int) % 2) + 7 * ((i : Int) / 2) ≤ 86399; omega⟩
      · intro j r hj
        by_cases c : j < rs.length
        · rw [List.getElem?_append_left c] at hj
          exact offs j r hj
        · have e : j = rs.length := by
            have := (List.getElem?_eq_some_iff.mp hj).1
            rw [List.length_append] at this
            simp at this
            omega
          rw [e, List.getElem?_append_right (Nat.le_refl _)] at hj
          simp at hj
          rw [← hj, e, lr]
    · obtain ⟨rs, G, lr, dr, offs, eM, v5, v6, v7, v8, v9, v10, v11, rfl⟩ := inv
      have lr' : rs.length = ms.length := by rw [lr, List.length_map]
      obtain ⟨ts, dL, pr⟩ := G.ex
      have okM2 := okM.two
      have okM4 := okM.four
      walk_at "rd"
      refine ⟨L, _, rfl, .inl ⟨SqL.of dL, fun t ht => ?_⟩⟩
      have SV := Same.new (o := .tup (ts.map V.ref)) ht
      have R : RulAt (upd H3 t (.tup (ts.map V.ref))) t rs := ⟨ts, upd_same, Paired.mapP pr fun x y z => z.same SV⟩
      have ok : RulOk rs := ⟨by omega, by omega, G.ok⟩
      have tu : Turned rs := turned_off ok.two ok.four st0.1 st0.2 offs
      have dr' : DR ms rs := by rwa [List.take_of_length_le (by rw [List.length_map]; exact Nat.le_refl _)] at dr
      have ord := dr_ord okM.far dr'
      have St := (G.st.same SV)
      have But := (G.but.trans (But.of SV))
      have sq : (upd H3 t (.tup (ts.map V.ref))) t = some (.tup (ts.map V.ref)) := upd_same
      have lt : ts.length = rs.length := pr.length
      generalize (upd H3 t (.tup (ts.map V.ref))) = H4 at *
      walk_at "rd"
      refine ⟨t, _, rfl, .inr (SqT.of sq), ?_⟩
      walk_at "rd"
      refine ite2 (fun c1 => ?_) (fun c1 => ?_)
      · walk_at "rd"
        refine ⟨p, a, b, _, _, rfl, St, by omega, by decide, by decide, fun z H5 z0 z1 S5 B5 => ?_⟩
        have R5 := R.ts (St.ts B5)
        walk_at "rd"
        refine ite2 (fun c2 => ?_) (fun c2 => ?_)
        · walk_at "rd"
          refine ⟨p, a, b, t, _, rs, rfl, S5, by omega, R5, ok, by simp at c1; omega, tu, ⟨ms, okM.far, dr'⟩, fun t' rs' H6 R6 ok6 tu6 or6 S6 B6 => ?_⟩
          exact k t' rs' H6 R6 ok6 tu6 or6 (S6.mono (by omega)) ((But.trans B5).trans B6)
        · walk_at "rd"
          exact k t rs H5 R5 ok tu ord (S5.mono (by omega)) (But.trans B5)
      · walk_at "rd"
        exact k t rs H4 R ok tu ord (St.mono (by omega)) But
end
end Cf
namespace Cf
open PySem L2
set_option hygiene false
local macro_rules | `(tactic| walk_at "len") => `(tactic| repeat (first | (obtain ⟨e, _⟩ := h; subst e; rfl; done) | (obtain ⟨_, h⟩ := h)))
local macro_rules | `(tactic| walk_at "rd") => `(tactic| repeat (first | refine ⟨_, rfl, ?_⟩ | refine ⟨_, _, rfl, rfl, ?_⟩ | refine ⟨rfl, ?_⟩ | refine ⟨_, _, rfl, ?_⟩))
local macro_rules | `(tactic| walk_at "yes") => `(tactic| (dsimp only [tYes]; rw [if_pos rfl]))
set_option hygiene true
section
variable {P : Program} {w : World} {K : PySem.W.Frag} {mg : Str → Option Value} {base : Heap}
/-! ### changes -/
def spChkOff : Sp := fun vs H Q _ => ∃ n : Int, vs = [.int n] ∧ -86399 ≤ n ∧ n ≤ 86399 ∧ Q .non H
theorem scCheckOffset : FnScope ["value"] ["value"] (defScope sCheckOffset) := ⟨rfl, rfl, rfl, by decide +kernel, rfl, by decide +kernel, by decide +kernel⟩
theorem ok_chkoff {f : Addr} {fd : FuncData} (F : Fun K "check_offset" "check_offset" sCheckOffset f fd) (D_is_offset : Df P w K mg base 2 "is_offset" ["value"] [] spIsOff) : FnOk P w K mg base CX0 3 f fd ["value"] spChkOff := by
  refine F.ok scCheckOffset (fun vs H Q E h => ?_) (fun cdv A outer s H vs Q E hr h => ?_)
  · obtain ⟨_, rfl, _⟩ := h
    rfl
  · obtain ⟨n, rfl, n0, n1, k⟩ := h
    have nd := scCheckOffset.nd
    refine ⟨_, PSs.nox (pss_one (ps_if (pt_not (pt_val (pe_df D_is_offset (hr.mono (by decide)) (pa_cons (pv 0) pa_nil))))
        (pss_one ps_never)
        pss_nil)), ?_⟩
    walk_at "rd"
    exact ⟨n0, n1, true, rfl, k⟩
/-- changes, one after another, all behind an instant -/
def AscC : Int → List (Int × Int) → Prop
  | _, [] => True
  | b, p :: ps => b < p.1 ∧ (-86399 ≤ p.2 ∧ p.2 ≤ 86399) ∧ AscC p.1 ps
theorem AscC.all : ∀ {ps : List (Int × Int)} {b : Int}, AscC b ps → ∀ p ∈ ps, b < p.1
  | [], _, _, _, h => nomatch h
  | q :: ps, b, a, p, h => by
    rcases List.mem_cons.mp h with e | h
    · rw [e]; exact a.1
    · have := AscC.all a.2.2 p h; have := a.1; omega
def spIsChange : Sp := fun vs H Q _ => ∃ (p : Addr) (x : Int × Int) (b : Int), vs = [.ref p, .int b] ∧ H p = some (.tup [.int x.1, .int x.2]) ∧ b < x.1 ∧ -86399 ≤ x.2 ∧ x.2 ≤ 86399 ∧ Q (.bl true) H
theorem scIsChange : FnScope ["value", "last", "instant", "offset"] ["value", "last"] (defScope sIsChange) := ⟨rfl, rfl, rfl, by decide +kernel, rfl, by decide +kernel, by decide +kernel⟩
theorem ok_isch {f : Addr} {fd : FuncData} (F : Fun K "is_change" "is_change" sIsChange f fd) (T : Nm mg) (D_is_number : Df P w K mg base 1 "is_number" ["value"] [] spIsNum) (D_is_offset : Df P w K mg base 2 "is_offset" ["value"] [] spIsOff) : FnOk P w K mg base CX0 3 f fd ["value", "last"] spIsChange := by
  refine F.ok scIsChange (fun vs H Q E h => ?_) (fun cdv A outer s H vs Q E hr h => ?_)
  · obtain ⟨_, _, _, rfl, _⟩ := h
    rfl
  · obtain ⟨p, x, b, rfl, hp, h1, h2, h3, k⟩ := h
    have nd := scIsChange.nd
    refine ⟨_, (pss_cons (ps_if (PW.pt (pw_or (pt_not (pt_val (pe_callB call_isi (by rfl) T.isinstance (by decide +kernel) (pa_cons (pv 0) (pa_cons (pe_bltn (v := .ty "tuple") (by rfl) T.tuple (by decide +kernel) rfl) pa_nil))))) (pw_or1 (pt_cmpR op_ne (pe_callB call_len_seq (by rfl) T.len (by decide +kernel) (pa_cons (pv 0) pa_nil)) pe_int (nomark _)))))
        (pss_one (ps_ret pe_bl))
        pss_nil)
      (pss_cons (ps_asg (pv 0) (pg_tup (by rfl) (pgs_cons (pg_name (i := 2) nd rfl (Or.inl rfl)) (pgs_cons (pg_name (i := 3) nd rfl (Or.inl rfl)) pgs_nil))))
      (pss_one (ps_ret (pe_and (pe_df D_is_number (hr.mono (by decide)) (pa_cons (pv 2) pa_nil)) (pe_and (pe_cmpR op_gt (pv 2) (pv 1) (nomark _)) (pe_one (pe_df D_is_offset (hr.mono (by decide)) (pa_cons (pv 3) pa_nil))))))))), ?_⟩
    walk_at "rd"
    refine ⟨_, _, _, _, true, rfl, .ty "tuple", .base (.tup hp), kit_ty (by decide +kernel), ?_⟩
    walk_at "rd"
    refine ⟨p, _, rfl, .inr (SqT.of hp), ?_⟩
    walk_at "rd"
    refine ⟨p, _, rfl, SqT.of hp, rfl, ?_⟩
    walk_at "rd"
    refine iteTT (decide_eq_true h1) ?_
    walk_at "rd"
    exact ⟨h2, h3, k⟩
theorem AscC.at {ps : List (Int × Int)} : ∀ {b : Int} {i : Nat} {p : Int × Int}, AscC b ps → ps[i]? = some p → (if i = 0 then b else ((ps[i - 1]?).map Prod.fst).getD 0) < p.1 ∧ -86399 ≤ p.2 ∧ p.2 ≤ 86399 := by
  induction ps with
  | nil => intro b i p a h; simp at h
  | cons q ps ih =>
    intro b i p a h
    cases i with
    | zero => cases h; exact ⟨a.1, a.2.1⟩
    | succ i =>
      have := ih a.2.2 (by simpa using h)
      rw [if_neg (by omega)]
      cases i with
      | zero => simpa using this
      | succ i => rw [if_neg (by omega)] at this; simpa using this
theorem any_first {K : PySem.W.Frag} {t c : Value} {r : List Value} (h : PySem.W.kitOne K t c = some true) : PySem.W.kitAny K t (c :: r) = some true := by
  unfold PySem.W.kitAny
  rw [h]
def spChkCh (P : Program) (w : World) : Sp := fun vs H Q _ => ∃ (L : Addr) (ps : List (Int × Int)), vs = [.ref L] ∧ PlsAt H L ps ∧ AscC 0 ps ∧ ∀ H', Same H H' → Q .non H'
theorem scCheckChanges : FnScope ["changes", "last", "index", "change"] ["changes"] (defScope sCheckChanges) := ⟨rfl, rfl, rfl, by decide +kernel, rfl, by decide +kernel, by decide +kernel⟩
theorem ok_chkch {f : Addr} {fd : FuncData} (F : Fun K "check_changes" "check_changes" sCheckChanges f fd) (T : Nm mg) (D_is_change : Df P w K mg base 3 "is_change" ["value", "last"] [] spIsChange) : FnOk P w K mg base CX0 4 f fd ["changes"] (spChkCh P w) := by
  refine F.ok scCheckChanges (fun vs H Q E h => ?_) (fun cdv A outer s H vs Q E hr h => ?_)
  · obtain ⟨_, _, rfl, _⟩ := h
    rfl
  · obtain ⟨L, ps, rfl, pl, as, k⟩ := h
    have nd := scCheckChanges.nd
    obtain ⟨ts, hL, pr⟩ := pl
    refine ⟨_, PSs.nox (pss_cons (ps_if (pt_not (pt_val (pe_callB call_isiT (by rfl) T.isinstance (by decide +kernel) (pa_cons (pv 0) (pa_cons (pe_tup (pa_cons (pe_bltn (v := .ty "list") (by rfl) T.list (by decide +kernel) rfl) (pa_cons (pe_bltn (v := .ty "tuple") (by rfl) T.tuple (by decide +kernel) rfl) pa_nil))) pa_nil)))))
        (pss_one ps_never)
        pss_nil)
      (pss_cons (ps_set (i := 1) nd rfl (Or.inl rfl) pe_int)
      (pss_one (ps_for PassesOwn.never rfl (pi_enum (by rfl) T.enumerate (pa_cons (pv 0) pa_nil)) (pg_tup (by rfl) (pgs_cons (pg_name (i := 2) nd rfl (Or.inl rfl)) (pgs_cons (pg_name (i := 3) nd rfl (Or.inl rfl)) pgs_nil)))
        (pss_cons (ps_if (pt_not (pt_val (pe_df D_is_change (hr.mono (by decide)) (pa_cons (pv 3) (pa_cons (pv 1) pa_nil)))))
          (pss_one ps_never)
          pss_nil)
        (pss_one (ps_set (i := 1) nd rfl (Or.inl rfl) (pe_ix ix_tup (pv 3) pe_int (fun _ _ => rfl))))))))), ?_⟩
    walk_at "rd"
    refine ⟨by show 2 ≤ sizeLine; decide, fun t ht => ?_⟩
    have S0 := Same.new (o := .tup [V.ty "list", V.ty "tuple"]) ht
    have g0 : (upd H t (.tup [V.ty "list", V.ty "tuple"])) t = some (.tup [V.ty "list", V.ty "tuple"]) := upd_same
    have hL0 := S0 _ _ hL
    generalize (upd H t (.tup [V.ty "list", V.ty "tuple"])) = H0 at *
    refine ⟨_, t, _, _, _, true, rfl, g0, .cons (.ty "list") (.cons (.ty "tuple") .nil), .base (.lst hL0), any_first (kit_ty (by decide +kernel)), ?_⟩
    walk_at "rd"
    refine ⟨L, ts.map V.ref, rfl, SqL.of hL0, for_it walk_enum (fun i σ H' => Same H0 H' ∧ ∃ v2 v3 : Option V, σ = [some (.ref L), some (.int (if i = 0 then 0 else ((ps[i - 1]?).map Prod.fst).getD 0)), v2, v3])
      ⟨Same.refl _, _, _, rfl⟩ (fun i σ H' _ inv => SqL.of (inv.1 _ _ hL0)) (fun i x σ H3 H4 hi inv y' => ?_) fun σ H3 inv => ?_⟩
    · obtain ⟨S3, v2, v3, rfl⟩ := inv
      obtain ⟨t', x1, x2, rfl, nt, rfl, e1, e2⟩ := y'
      have e1' : some (V.int (i : Nat)) = some x1 := e1
      have e2' : (ts.map V.ref)[i]? = some x2 := e2
      cases e1'
      rw [List.getElem?_map] at e2'
      obtain ⟨u, hu', rfl⟩ := Option.map_eq_some_iff.mp e2'
      obtain ⟨z, hz, hz2⟩ := paired_get' pr i u hu'
      have S4 := S3.trans (Same.new (o := .tup [.int (i : Nat), .ref u]) nt)
      have g4 : (upd H3 t' (.tup [.int (i : Nat), .ref u])) t' = some (.tup [.int (i : Nat), .ref u]) := upd_same
      generalize (upd H3 t' (.tup [.int (i : Nat), .ref u])) = H4 at *
      have za := as.at hz
      have hz4 := S4 _ _ (S0 _ _ hz2)
      refine ⟨t', _, rfl, SqT.of g4, rfl, ?_⟩
      walk_at "rd"
      refine ⟨u, z, _, rfl, hz4, za.1, za.2.1, za.2.2, true, rfl, ?_⟩
      walk_at "rd"
      refine ⟨u, _, _, _, rfl, rfl, SqT.of hz4, atI_nat (j := 0) rfl, ?_⟩
      walk_at "rd"
      refine ⟨S4, some (.int (i : Nat)), some (.ref u), ?_⟩
      rw [if_neg (Nat.succ_ne_zero i), Nat.add_sub_cancel, hz]
      rfl
    · obtain ⟨S3, v2, v3, rfl⟩ := inv
      walk_at "rd"
      exact k H3 (S0.trans S3)
/-! ### real_changes -/
def fin (o : Int) (ps : List (Int × Int)) : Int := ps.foldl (fun _ p => p.2) o
def realC : Int → List (Int × Int) → List (Int × Int)
  | _, [] => []
  | o, p :: ps => (if p.2 ≠ o then [p] else []) ++ realC p.2 ps
theorem fin_snoc (o : Int) (ps : List (Int × Int)) (p : Int × Int) : fin o (ps ++ [p]) = p.2 := by
  unfold fin; rw [List.foldl_append]; rfl
theorem real_snoc (p : Int × Int) : ∀ (ps : List (Int × Int)) (o : Int), realC o (ps ++ [p]) = realC o ps ++ (if p.2 ≠ fin o ps then [p] else [])
  | [], o => by
    show (if p.2 ≠ o then [p] else []) ++ [] = [] ++ (if p.2 ≠ o then [p] else [])
    rw [List.append_nil]
    rfl
  | q :: ps, o => by
    show (if q.2 ≠ o then [q] else []) ++ realC q.2 (ps ++ [p]) = ((if q.2 ≠ o then [q] else []) ++ realC q.2 ps) ++ _
    rw [real_snoc p ps q.2, List.append_assoc]
    rfl
theorem real_mem {q : Int × Int} : ∀ {ps : List (Int × Int)} {o : Int}, q ∈ realC o ps → q ∈ ps
  | [], _, h => h
  | p :: ps, o, h => by
    rcases List.mem_append.mp h with g | g
    · by_cases c : p.2 ≠ o
      · rw [if_pos c] at g; rw [List.mem_singleton.mp g]; exact List.mem_cons_self ..
      · rw [if_neg c] at g; cases g
    · exact List.mem_cons_of_mem _ (real_mem g)
theorem AscC.mono {ps : List (Int × Int)} {a b : Int} (h : AscC b ps) (le : a ≤ b) : AscC a ps := by
  cases ps with
  | nil => trivial
  | cons p ps => exact ⟨by have := h.1; omega, h.2⟩
theorem real_asc : ∀ {ps : List (Int × Int)} {o b : Int}, AscC b ps → AscC b (realC o ps)
  | [], _, _, _ => trivial
  | p :: ps, o, b, a => by
    show AscC b ((if p.2 ≠ o then [p] else []) ++ realC p.2 ps)
    by_cases c : p.2 ≠ o
    · rw [if_pos c]; exact ⟨a.1, a.2.1, real_asc a.2.2⟩
    · rw [if_neg c]; exact (real_asc a.2.2).mono (by have := a.1; omega)
theorem real_run (t : Int) : ∀ {ps : List (Int × Int)} {o b : Int}, AscC b ps → runOff o (realC o ps) t = runOff o ps t
  | [], _, _, _ => rfl
  | p :: ps, o, b, a => by
    show runOff o ((if p.2 ≠ o then [p] else []) ++ realC p.2 ps) t = runOff (if p.1 ≤ t then p.2 else o) ps t
    by_cases c : p.2 ≠ o
    · rw [if_pos c]
      show runOff (if p.1 ≤ t then p.2 else o) (realC p.2 ps) t = _
      by_cases d : p.1 ≤ t
      · rw [if_pos d]; exact real_run t a.2.2
      · rw [if_neg d, run_none fun q hq => ?_, run_none fun q hq => ?_]
        · have := a.2.2.all q hq; omega
        · have := a.2.2.all q (real_mem hq); omega
    · rw [if_neg c]
      have e : p.2 = o := Decidable.not_not.mp c
      rw [e, ite_self]
      exact real_run t (ps := ps) (o := o) a.2.2
def spReal : Sp := fun vs H Q _ => ∃ (o : Int) (L : Addr) (ps : List (Int × Int)), vs = [.int o, .ref L] ∧ PlsAt H L ps ∧ ps.length ≤ 1000 ∧ ∀ (H' : Hp) (R : Addr), Same H H' → H R = none → PlsAt H' R (realC o ps) → Q (.ref R) H'
theorem scRealChanges : FnScope ["offset", "changes", "real", "present", "instant", "later"] ["offset", "changes"] (defScope sRealChanges) := ⟨rfl, rfl, rfl, by decide +kernel, rfl, by decide +kernel, by decide +kernel⟩
theorem real_len (o : Int) (ps : List (Int × Int)) : (realC o ps).length ≤ ps.length := by
  induction ps generalizing o with
  | nil => exact Nat.le_refl _
  | cons p ps ih =>
    show ((if p.2 ≠ o then [p] else []) ++ realC p.2 ps).length ≤ _
    have := ih p.2
    rw [List.length_append, List.length_cons]
    split <;> simp <;> omega
theorem ok_real {f : Addr} {fd : FuncData} (F : Fun K "real_changes" "real_changes" sRealChanges f fd) : FnOk P w K mg base CX0 1 f fd ["offset", "changes"] spReal := by
  refine F.ok scRealChanges (fun vs H Q E h => ?_) (fun cdv A outer s H vs Q E hr h => ?_)
  · obtain ⟨_, _, _, rfl, _⟩ := h
    rfl
  · obtain ⟨o, L, ps, rfl, pl, ln, k⟩ := h
    have nd := scRealChanges.nd
    obtain ⟨ts, hL, pr⟩ := pl
    refine ⟨_, (pss_cons (ps_set (i := 2) nd rfl (Or.inl rfl) (pe_lst pa_nil))
      (pss_cons (ps_set (i := 3) nd rfl (Or.inl rfl) (pv 0))
      (pss_cons (ps_for PassesOwn.never rfl (pi_list (pv 1)) (pg_tup (by rfl) (pgs_cons (pg_name (i := 4) nd rfl (Or.inl rfl)) (pgs_cons (pg_name (i := 5) nd rfl (Or.inl rfl)) pgs_nil)))
        (C8.pss_cut (ps_if (pt_cmpR op_ne (pv 5) (pv 3) (nomark _))
          (pss_one (ps_expr (pe_bm PySem.F.plainAttrs_list PySem.F.slot_list_append PySem.F.type_list_append mt_append (pv 2) (pa_cons (pe_tup (pa_cons (pv 4) (pa_cons (pv 5) pa_nil))) pa_nil))))
          pss_nil)
        (pss_one (ps_set (i := 3) nd rfl (Or.inl rfl) (pv 5)))))
      (pss_one (ps_ret (pv 2)))))), ?_⟩
    walk_at "rd"
    refine ⟨by show 0 ≤ sizeLine; decide, fun R hR => ?_⟩
    have S0 := Same.new (o := .lst []) hR
    have tl : ts.length = ps.length := pr.length
    walk_at "rd"
    refine ⟨⟨_, SqL.of (S0 _ _ hL)⟩, for_list (K := K) (a := L) (xs := ts.map V.ref) (fun i σ H' => (Same H H' ∧ PlsAt H' R (realC o (ps.take i))) ∧ ∃ v4 v5 : Option V, σ = [some (.int o), some (.ref L), some (.ref R), some (.int (fin o (ps.take i))), v4, v5])
      ⟨⟨S0, [], upd_same, .nil⟩, _, _, rfl⟩ (fun i σ H' hi inv => SqL.of (inv.1.1 _ _ hL)) (fun i x σ H3 hx inv => ?_) fun σ H3 inv => ?_⟩
    · obtain ⟨⟨S3, us, dR, pu⟩, v4, v5, rfl⟩ := inv
      rw [List.getElem?_map] at hx
      obtain ⟨u, hu, rfl⟩ := Option.map_eq_some_iff.mp hx
      obtain ⟨z, hz, hz2⟩ := paired_get' pr i u hu
      have hz3 := S3 _ _ hz2
      refine ⟨u, _, rfl, SqT.of hz3, rfl, ?_⟩
      have et : ps.take (i + 1) = ps.take i ++ [z] := by rw [List.take_succ, hz]; rfl
      have ef : fin o (ps.take (i + 1)) = z.2 := by rw [et, fin_snoc]
      have er := real_snoc z (ps.take i) o
      rw [← et] at er
      walk_at "rd"
      refine ⟨fun σ' H' => (Same H H' ∧ PlsAt H' R (realC o (ps.take (i + 1)))) ∧ σ' = [some (.int o), some (.ref L), some (.ref R), some (.int (fin o (ps.take i))), some (.int z.1), some (.int z.2)], ?_, ?_⟩
      · walk_at "rd"
        by_cases c : z.2 = fin o (ps.take i)
        · refine iteFF (by rw [c, decide_eq_true rfl]; rfl) ?_
          rw [if_neg (fun g => g c), List.append_nil] at er
          rw [er]
          walk_at "rd"
          exact ⟨⟨S3, us, dR, pu⟩, rfl⟩
        · refine iteTT (by rw [decide_eq_false (fun g => c (V.int.inj g))]; rfl) ?_
          rw [if_pos c] at er
          walk_at "rd"
          refine ⟨.inl ⟨rfl, _, SqL.of dR⟩, ?_⟩
          walk_at "rd"
          refine ⟨szle (by simp), fun t ht => ?_⟩
          have SV := Same.new (o := .tup [V.int z.1, V.int z.2]) ht
          have gV : (upd H3 t (.tup [V.int z.1, V.int z.2])) t = some (.tup [V.int z.1, V.int z.2]) := upd_same
          have dV := SV _ _ dR
          have pV := Paired.mapP pu fun a b r => SV _ _ r
          have S4 := S3.trans SV
          clear SV
          generalize (upd H3 t (.tup [V.int z.1, V.int z.2])) = H4 at *
          have lu : us.length ≤ 1000 := by
            rw [pu.length]
            have := real_len o (ps.take i)
            have := List.length_take_le i ps
            have : (ps.take i).length ≤ ps.length := by rw [List.length_take]; omega
            omega
          have keep : ∀ (o : HO) (c : Addr) (vs : List V), H4 c = some (.tup vs) → (upd H4 R o) c = some (.tup vs) := fun o c vs g => by
            have : c ≠ R := fun z => by rw [z, dV] at g; cases g
            rw [upd_ne this]; exact g
          refine ⟨R, _, _, rfl, rfl, dV, by rw [List.length_map]; exact szl (by omega), ?_⟩
          walk_at "rd"
          refine ⟨⟨S4.wr hR, us ++ [t], by rw [upd_same, List.map_append]; rfl, ?_⟩, rfl⟩
          rw [er]
          exact Paired.snoc (Paired.mapP pV fun a b r => keep _ _ _ r) (keep _ _ _ gV)
      · rintro σ' H' ⟨⟨S4, p4⟩, rfl⟩
        walk_at "rd"
        exact ⟨⟨S4, p4⟩, _, _, by rw [ef]; rfl⟩
    · obtain ⟨⟨S3, pl⟩, v4, v5, rfl⟩ := inv
      walk_at "rd"
      refine k H3 R S3 hR ?_
      rwa [List.take_of_length_le (by rw [List.length_map]; omega)] at pl
end
end Cf
namespace Cf
open PySem L2
set_option hygiene false
local macro_rules | `(tactic| walk_at "len") => `(tactic| repeat (first | (obtain ⟨e, _⟩ := h; subst e; rfl; done) | (obtain ⟨_, h⟩ := h)))
local macro_rules | `(tactic| walk_at "rd") => `(tactic| repeat (first | refine ⟨_, rfl, ?_⟩ | refine ⟨_, _, rfl, rfl, ?_⟩ | refine ⟨rfl, ?_⟩ | refine ⟨_, _, rfl, ?_⟩))
local macro_rules | `(tactic| walk_at "yes") => `(tactic| (dsimp only [tYes]; rw [if_pos rfl]))
set_option hygiene true
section
variable {P : Program} {w : World} {K : PySem.W.Frag} {mg : Str → Option Value} {base : Heap}
/-! ### last_change, ruled_from -/
theorem pls_get {H : Hp} {ts : List Addr} {ps : List (Int × Int)} (pr : Paired (fun t p => H t = some (.tup [.int p.1, .int p.2])) ts ps) {i : Nat} {v : V} (h : (ts.map V.ref)[i]? = some v) : ∃ t p, v = .ref t ∧ ts[i]? = some t ∧ ps[i]? = some p ∧ H t = some (.tup [.int p.1, .int p.2]) := by
  rw [List.getElem?_map] at h
  obtain ⟨t, ht, rfl⟩ := Option.map_eq_some_iff.mp h
  obtain ⟨p, hp, e⟩ := paired_get' pr i t ht
  exact ⟨t, p, rfl, ht, hp, e⟩
theorem TabAt.same {H H' : Hp} {D : Addr} {rs : List Row} (h : TabAt P w H D rs) (s : Same H H') : TabAt P w H' D rs := by
  obtain ⟨qs, Ts, a, b, c⟩ := h.ex
  exact ⟨qs, Ts, kinds_same a s, s _ _ b, Paired.mapP c fun x y z => z.same s⟩
def spLastC (P : Program) (w : World) : Sp := fun vs H Q _ => ∃ (D : Addr) (rs : List Row) (t : Int), vs = [.ref D, .int t] ∧ TabAt P w H D rs ∧ 0 < rs.length ∧ rs.length ≤ 4 ∧ Ord rs ∧ ∀ (H' : Hp) (q : Addr) (b o : Int), Same H H' → H' q = some (.tup [.int b, .int o]) → LastC rs t b o → Q (.ref q) H'
theorem scLastChange : FnScope ["table", "instant", "year", "change"] ["table", "instant"] (defScope sLastChange) := ⟨rfl, rfl, rfl, by decide +kernel, rfl, by decide +kernel, by decide +kernel⟩
theorem ok_lastc {f : Addr} {fd : FuncData} (F : Fun K "last_change" "last_change" sLastChange f fd) (T : Nm mg) (Z : Cz mg) (D_year_of : Df P w K mg base 4 "year_of" ["day"] [] spYearOf) (D_changes_in : Df P w K mg base 5 "changes_in" ["table", "year"] [] (spChin P w)) : FnOk P w K mg base CX0 6 f fd ["table", "instant"] (spLastC P w) := by
  refine F.ok scLastChange (fun vs H Q E h => ?_) (fun cdv A outer s H vs Q E hr h => ?_)
  · obtain ⟨_, _, _, rfl, _⟩ := h
    rfl
  · obtain ⟨D, rs, t, rfl, TA, n0, n4, od, k⟩ := h
    have nd := scLastChange.nd
    obtain ⟨tD, zD⟩ := Z.day
    refine ⟨_, (pss_cons (ps_set (i := 2) nd rfl (Or.inl rfl) (pe_df D_year_of (hr.mono (by decide)) (pa_cons (pe_op op_fdiv (pv 1) (pe_glob (v := .int 86400) rfl zD ⟨_, rfl⟩)) pa_nil)))
      (pss_cons (ps_for PassesOwn.never rfl (RT.pi_revA (by rfl) T.reversed (pe_df D_changes_in (hr.mono (by decide)) (pa_cons (pv 0) (pa_cons (pv 2) pa_nil)))) (pg_name (i := 3) nd rfl (Or.inl rfl))
        (pss_one (ps_if (pt_cmpR op_le (pe_ix ix_tup (pv 3) pe_int (fun _ _ => rfl)) (pv 1) (nomark _))
          (pss_one (ps_ret (pv 3)))
          pss_nil)))
      (pss_one (ps_ret (pe_ix ix_list (pe_df D_changes_in (hr.mono (by decide)) (pa_cons (pv 0) (pa_cons (pe_op op_sub (pv 2) pe_int) pa_nil))) (pe_un un_neg pe_int) (fun _ _ => rfl)))))), ?_⟩
    have hy := yrOf_in t
    walk_at "rd"
    refine ⟨⟨by decide, by decide⟩, ?_⟩
    walk_at "rd"
    refine ⟨_, yrOf t, rfl, hy.day.1, hy.day.2, fun H1 S1 => ?_⟩
    generalize yrOf t = y at *
    have TA1 := TA.same S1
    walk_at "rd"
    refine ⟨D, rs, y, rfl, TA1, n4, fun H2 L S2 nL ⟨ts, hL, pr⟩ => ?_⟩
    have TA2 := TA1.same S2
    have tl : ts.length = rs.length := by rw [pr.length]; exact cps_len rs y
    refine ⟨L, ts.map V.ref, rfl, .inl ⟨SqL.of hL, RT.for_Itv (fun i σ H' => (Same H2 H' ∧ ∀ j q, rs.length ≤ j + i → (cps rs y)[j]? = some q → t < q.1) ∧ ∃ v3 : Option V, σ = [some (.ref D), some (.int t), some (.int y), v3])
      ⟨⟨Same.refl _, fun j q hj hq => by have := (List.getElem?_eq_some_iff.mp hq).1; rw [cps_len] at this; omega⟩, _, rfl⟩ (fun i σ H' inv => SqL.of (inv.1.1 _ _ hL)) (fun i x σ H3 hi hx inv => ?_) fun σ H3 inv => ?_⟩⟩
    · obtain ⟨⟨S3, kk⟩, v3, rfl⟩ := inv
      obtain ⟨u, p, rfl, hu, hp, e⟩ := pls_get pr hx
      have e3 := S3 _ _ e
      rw [List.length_map, tl] at hi hu hp
      walk_at "rd"
      refine ⟨u, _, _, _, rfl, rfl, SqT.of e3, atI_nat (j := 0) rfl, ?_⟩
      walk_at "rd"
      have hp' : (cps rs y)[rs.length - 1 - i]? = some p := hp
      by_cases c : p.1 ≤ t
      · refine iteTT (decide_eq_true c) ?_
        walk_at "rd"
        exact k H3 u p.1 p.2 ((S1.trans S2).trans S3) e3 (last_here od hy hp' c fun j q hj hq => kk j q (by omega) hq)
      · refine iteFF (decide_eq_false c) ?_
        walk_at "rd"
        refine ⟨⟨S3, fun j q hj hq => ?_⟩, _, rfl⟩
        by_cases d : j = rs.length - 1 - i
        · rw [d, hp'] at hq
          cases hq
          omega
        · exact kk j q (by omega) hq
    · obtain ⟨⟨S3, kk⟩, v3, rfl⟩ := inv
      walk_at "rd"
      refine ⟨D, rs, _, rfl, TA2.same S3, n4, fun H4 L2' S4 nL2 ⟨ts2, hL2, pr2⟩ => ?_⟩
      have tl2 : ts2.length = rs.length := by rw [pr2.length]; exact cps_len rs (y - 1)
      obtain ⟨u, hu⟩ : ∃ u, ts2[rs.length - 1]? = some u := ⟨_, List.getElem?_eq_getElem (by omega)⟩
      obtain ⟨p, hp, e⟩ := paired_get' pr2 _ u hu
      walk_at "rd"
      refine ⟨L2', _, _, .ref u, rfl, rfl, SqL.of hL2, atI_prev (i := 0) (by rw [List.length_map, tl2]; exact n0) (by rw [if_pos rfl, List.length_map, tl2, List.getElem?_map, hu]; rfl), ?_⟩
      refine k H4 u p.1 p.2 (((S1.trans S2).trans S3).trans S4) e (last_prev od n0 hy (fun q hq => ?_) hp)
      obtain ⟨j, hj⟩ := List.mem_iff_getElem?.mp hq
      exact kk j q (by rw [List.length_map, tl]; omega) hj
theorem AscC.lt : ∀ {ps : List (Int × Int)} {b : Int} {i j : Nat} {p q : Int × Int}, AscC b ps → ps[i]? = some p → ps[j]? = some q → i < j → p.1 < q.1
  | [], _, _, _, _, _, _, h, _, _ => by simp at h
  | x :: ps, b, 0, j + 1, p, q, a, h, g, _ => by
    cases h
    exact a.2.2.all q (List.mem_of_getElem? (by simpa using g))
  | x :: ps, b, i + 1, j + 1, p, q, a, h, g, l => a.2.2.lt (by simpa using h) (by simpa using g) (by omega)
theorem run_seg {o t : Int} {ps : List (Int × Int)} (as : AscC 0 ps) {k : Nat} {p : Int × Int} (h : ((0, o) :: ps)[k]? = some p) (le : p.1 ≤ t) (nx : ∀ q, ((0, o) :: ps)[k + 1]? = some q → t < q.1) : runOff o ps t = p.2 := by
  cases k with
  | zero =>
    cases h
    refine run_none fun q hq => ?_
    obtain ⟨j, hj⟩ := List.mem_iff_getElem?.mp hq
    obtain ⟨q0, h0⟩ : ∃ q0, ps[0]? = some q0 := ⟨_, List.getElem?_eq_getElem (by have := (List.getElem?_eq_some_iff.mp hj).1; omega)⟩
    have n0 := nx q0 (by simpa using h0)
    by_cases c : j = 0
    · rw [c, h0] at hj; cases hj; exact n0
    · have := as.lt h0 hj (by omega); omega
  | succ k =>
    have h' : ps[k]? = some p := by simpa using h
    refine run_at le h' fun j q hj hq => ?_
    obtain ⟨q0, h0⟩ : ∃ q0, ps[k + 1]? = some q0 := ⟨_, List.getElem?_eq_getElem (by have := (List.getElem?_eq_some_iff.mp hq).1; omega)⟩
    have n0 := nx q0 (by simpa using h0)
    by_cases c : j = k + 1
    · rw [c, h0] at hq; cases hq; exact n0
    · have := as.lt h0 hq (by omega); omega
def spRuled (P : Program) (w : World) : Sp := fun vs H Q _ => ∃ (o since : Int) (L D : Addr) (rs : List Row) (chs : List (Int × Int)), vs = [.int o, .ref L, .int since, .ref D] ∧ PlsAt H L chs ∧ AscC 0 chs ∧ chs.length ≤ 1000 ∧ 0 ≤ since ∧ (∀ p ∈ chs, p.1 < since) ∧ TabAt P w H D rs ∧ 0 < rs.length ∧ rs.length ≤ 4 ∧ Ord rs ∧
  ∀ (H' : Hp) (start : Int), Same H H' → 0 ≤ start → start ≤ since → (∀ t, start ≤ t → t < since → rOff rs t = runOff o chs t) → Q (.int start) H'
theorem scRuledFrom : FnScope ["offset", "changes", "since", "table", "end", "begin", "present", "instant", "ruled"] ["offset", "changes", "since", "table"] (defScope sRuledFrom) := ⟨rfl, rfl, rfl, by decide +kernel, rfl, by decide +kernel, by decide +kernel⟩
set_option maxHeartbeats 1000000 in
theorem ok_ruled {f : Addr} {fd : FuncData} (F : Fun K "ruled_from" "ruled_from" sRuledFrom f fd) (T : Nm mg) (D_last_change : Df P w K mg base 6 "last_change" ["table", "instant"] [] (spLastC P w)) : FnOk P w K mg base CX0 7 f fd ["offset", "changes", "since", "table"] (spRuled P w) := by
  refine F.ok scRuledFrom (fun vs H Q E h => ?_) (fun cdv A outer s H vs Q E hr h => ?_)
  · obtain ⟨_, _, _, _, _, _, rfl, _⟩ := h
    rfl
  · obtain ⟨o, since, L, D, rs, chs, rfl, pl, as, ln, s0, bel, TA, n0, n4, od, k⟩ := h
    have nd := scRuledFrom.nd
    have hu := hr.units
    obtain ⟨ts, hL, pr⟩ := pl
    refine ⟨_, (pss_cons (ps_set (i := 4) nd rfl (Or.inl rfl) (pv 2))
      (pss_cons (ps_for PassesOwn.never rfl (RT.pi_revA (by rfl) T.reversed (pe_lst (pa_cons (pe_tup (pa_cons pe_int (pa_cons (pv 0) pa_nil))) (StX.pa_star (pv 1) pa_nil)))) (pg_tup (by rfl) (pgs_cons (pg_name (i := 5) nd rfl (Or.inl rfl)) (pgs_cons (pg_name (i := 6) nd rfl (Or.inl rfl)) pgs_nil)))
        (pss_cons (ps_asg (pe_df D_last_change (hr.mono (by decide)) (pa_cons (pv 3) (pa_cons (pe_op op_sub (pv 4) pe_int) pa_nil))) (pg_tup (by rfl) (pgs_cons (pg_name (i := 7) nd rfl (Or.inl rfl)) (pgs_cons (pg_name (i := 8) nd rfl (Or.inl rfl)) pgs_nil))))
        (pss_cons (ps_if (pt_cmpR op_ne (pv 8) (pv 6) (nomark _))
          (pss_one (ps_ret (pv 4)))
          pss_nil)
        (pss_cons (ps_if (pt_cmpR op_gt (pv 7) (pv 5) (nomark _))
          (pss_one (ps_ret (pv 7)))
          pss_nil)
        (pss_one (ps_set (i := 4) nd rfl (Or.inl rfl) (pv 5)))))))
      (pss_one (ps_ret pe_int)))), ?_⟩
    walk_at "rd"
    refine ⟨by show 2 ≤ sizeLine; decide, fun t0 ht0 => ?_⟩
    have S0 := Same.new (o := .tup [V.int 0, V.int o]) ht0
    have g0 : (upd H t0 (.tup [V.int 0, V.int o])) t0 = some (.tup [V.int 0, V.int o]) := upd_same
    have hL0 := S0 _ _ hL
    have pr0 := Paired.mapP pr fun a b r => S0 _ _ r
    generalize (upd H t0 (.tup [V.int 0, V.int o])) = H0 at *
    walk_at "rd"
    refine ⟨L, _, rfl, .inr (SqL.of hL0), ?_⟩
    walk_at "rd"
    have tl : ts.length = chs.length := pr.length
    refine ⟨szle (by simp; omega), fun Y hY => ?_⟩
    have S1 := Same.new (o := .lst (V.ref t0 :: (ts.map V.ref ++ []))) hY
    have gY : (upd H0 Y (.lst (V.ref t0 :: (ts.map V.ref ++ [])))) Y = some (.lst ((t0 :: ts).map V.ref)) := by rw [upd_same, List.append_nil]; rfl
    have pY : Paired (fun t p => (upd H0 Y (.lst (V.ref t0 :: (ts.map V.ref ++ [])))) t = some (.tup [.int p.1, .int p.2])) (t0 :: ts) ((0, o) :: chs) := .cons (S1 _ _ g0) (Paired.mapP pr0 fun a b r => S1 _ _ r)
    have S01 := S0.trans S1
    clear S1
    generalize (upd H0 Y (.lst (V.ref t0 :: (ts.map V.ref ++ [])))) = H1 at *
    have TA1 := TA.same S01
    have yl : ((t0 :: ts).map V.ref).length = chs.length + 1 := by simp [tl]
    refine ⟨Y, (t0 :: ts).map V.ref, rfl, .inl ⟨SqL.of gY, RT.for_Itv (fun i σ H' => (Same H1 H' ∧ ∃ e : Int, 0 ≤ e ∧ e ≤ since ∧ (i = 0 → e = since) ∧ (∀ q, ((0, o) :: chs)[chs.length + 1 - i]? = some q → e = q.1) ∧ (∀ t, e ≤ t → t < since → rOff rs t = runOff o chs t) ∧ ∃ v5 v6 v7 v8 : Option V, σ = [some (.int o), some (.ref L), some (.int since), some (.ref D), some (.int e), v5, v6, v7, v8]))
      ⟨Same.refl _, since, s0, Int.le_refl _, fun _ => rfl, fun q hq => by have := (List.getElem?_eq_some_iff.mp hq).1; simp at this, fun t h1 h2 => by omega, _, _, _, _, rfl⟩ (fun i σ H' inv => SqL.of (inv.1 _ _ gY)) (fun i x σ H3 hi hx inv => ?_) fun σ H3 inv => ?_⟩⟩
    · obtain ⟨S3, e, e0, e1, ei, en, ee, v5, v6, v7, v8, rfl⟩ := inv
      obtain ⟨u, p, rfl, hu', hp, ep⟩ := pls_get pY hx
      have ep3 := S3 _ _ ep
      rw [yl] at hi hp hu'
      refine ⟨u, _, rfl, SqT.of ep3, rfl, ?_⟩
      walk_at "rd"
      refine ⟨D, rs, _, rfl, TA1.same S3, n0, n4, od, fun H4 q b ro S4 hq LC => ?_⟩
      have S34 := S3.trans S4
      refine ⟨q, _, rfl, SqT.of hq, rfl, ?_⟩
      have p0 : 0 ≤ p.1 := by
        cases hk : (chs.length + 1 - 1 - i) with
        | zero => rw [hk] at hp; cases hp; exact Int.le_refl _
        | succ m =>
          rw [hk] at hp
          have := as.all p (List.mem_of_getElem? (by simpa using hp))
          omega
      have seg : ∀ t, p.1 ≤ t → t < e → runOff o chs t = p.2 := fun t h1 h2 => by
        refine run_seg as hp h1 fun q' hq' => ?_
        have := en q' (by rw [← hq']; congr 1; omega)
        omega
      walk_at "rd"
      have ps' : p.1 ≤ since := by
        rcases List.mem_cons.mp (List.mem_of_getElem? hp) with g | g
        · rw [g]; exact s0
        · exact Int.le_of_lt (bel p g)
      by_cases c : ro = p.2
      · refine iteFF (by rw [c, decide_eq_true rfl]; rfl) ?_
        walk_at "rd"
        by_cases d : p.1 < b
        · refine iteTT (decide_eq_true d) ?_
          walk_at "rd"
          have le := LC.le
          refine k H4 b (S01.trans S34) (by omega) (by omega) fun t h1 h2 => ?_
          by_cases g : t < e
          · rw [LC.at_ t h1 (by omega), c, seg t (by omega) g]
          · exact ee t (by omega) h2
        · refine iteFF (decide_eq_false d) ?_
          walk_at "rd"
          refine ⟨S34, p.1, p0, ps', fun g => absurd g (Nat.succ_ne_zero i), fun q' hq' => ?_, fun t h1 h2 => ?_, _, _, _, _, rfl⟩
          · rw [show chs.length + 1 - (i + 1) = chs.length + 1 - 1 - i by omega, hp] at hq'
            cases hq'; rfl
          · by_cases g : t < e
            · rw [LC.at_ t (by omega) (by omega), c, seg t h1 g]
            · exact ee t (by omega) h2
      · refine iteTT (by rw [decide_eq_false (fun g => c (V.int.inj g))]; rfl) ?_
        walk_at "rd"
        exact k H4 e (S01.trans S34) e0 e1 ee
    · obtain ⟨S3, e, e0, e1, ei, en, ee, v5, v6, v7, v8, rfl⟩ := inv
      walk_at "rd"
      have e00 : e = 0 := en (0, o) (by rw [yl]; simp)
      subst e00
      exact k H3 0 (S01.trans S3) (Int.le_refl _) e1 ee
end
end Cf
namespace Cf
open PySem L2
set_option hygiene false
local macro_rules | `(tactic| walk_at "len") => `(tactic| repeat (first | (obtain ⟨e, _⟩ := h; subst e; rfl; done) | (obtain ⟨_, h⟩ := h)))
local macro_rules | `(tactic| walk_at "rd") => `(tactic| repeat (first | refine ⟨_, rfl, ?_⟩ | refine ⟨_, _, rfl, rfl, ?_⟩ | refine ⟨rfl, ?_⟩ | refine ⟨_, _, rfl, ?_⟩))
local macro_rules | `(tactic| walk_at "yes") => `(tactic| (dsimp only [tYes]; rw [if_pos rfl]))
set_option hygiene true
section
variable {P : Program} {w : World} {K : PySem.W.Frag} {mg : Str → Option Value} {base : Heap} {C : Addr}
/-! ### Zone._follow -/
structure Zk (K : PySem.W.Frag) (C : Addr) : Prop where
  cl : L2.Cls K C
  nT : NoAttr K C "_told"
  nO : NoAttr K C "_offset"
  nC : NoAttr K C "_changes"
  nS : NoAttr K C "_since"
  nB : NoAttr K C "_table"
noncomputable def zOff (o : Int) (chs : List (Int × Int)) (rl : Option (Int × List Row)) (t : Int) : Int := match rl with
  | none => runOff o chs t
  | some (st, rs) => if st ≤ t then rOff rs t else runOff o chs t
/-- the fields that a zone has -/
def zF : List Str := ["_told", "_offset", "_changes", "_since", "_table"]
theorem putF_names {f : Str} {v : V} (hf : f ∈ zF) : ∀ {fs : List (Str × V)}, (∀ q ∈ fs, q.1 ∈ zF) → ∀ q ∈ putF f v fs, q.1 ∈ zF
  | [], _, q, hq => by
    unfold putF at hq
    rw [List.mem_singleton.mp hq]; exact hf
  | (g, u) :: fs, h, q, hq => by
    unfold putF at hq
    split at hq
    · rename_i e
      rcases List.mem_cons.mp hq with z | z
      · rw [z]; exact h (g, u) (List.mem_cons_self ..)
      · exact h q (List.mem_cons_of_mem _ z)
    · rcases List.mem_cons.mp hq with z | z
      · rw [z]; exact h (g, u) (List.mem_cons_self ..)
      · exact putF_names hf (fun r hr => h r (List.mem_cons_of_mem _ hr)) q z
theorem zF_none {m : Str} (hm : m ∉ zF) : ∀ {fs : List (Str × V)}, (∀ q ∈ fs, q.1 ∈ zF) → fs.lookup m = none
  | [], _ => rfl
  | (g, u) :: fs, h => by
    rw [List.lookup_cons]
    have : (m == g) = false := beq_eq_false_iff_ne.mpr fun e => hm (by rw [e]; exact h (g, u) (List.mem_cons_self ..))
    rw [this]
    exact zF_none hm fun r hr => h r (List.mem_cons_of_mem _ hr)
/-- a zone that stands at x -/
structure ZAt (P : Program) (w : World) (C : Addr) (H : Hp) (x : Addr) (o : Int) (chs : List (Int × Int)) (rl : Option (Int × List Row)) : Prop where
  ex : ∃ (dx : Addr) (fs : List (Str × V)) (L : Addr), H x = some (.ins C dx fs) ∧ fs.lookup ("_offset" : Str) = some (.int o) ∧ fs.lookup ("_changes" : Str) = some (.ref L) ∧ PlsAt H L chs ∧
    (rl = none → fs.lookup ("_since" : Str) = some .non) ∧ ∀ st rs, rl = some (st, rs) → fs.lookup ("_since" : Str) = some (.int st) ∧ 0 < rs.length ∧ rs.length ≤ 4 ∧ Ord rs ∧ ∃ D, fs.lookup ("_table" : Str) = some (.ref D) ∧ TabAt P w H D rs
  asc : AscC 0 chs
  len : chs.length ≤ 1000
  nof : ∀ dx fs, H x = some (.ins C dx fs) → ∀ q ∈ fs, q.1 ∈ zF
theorem run_filter {t st : Int} (h : t < st) : ∀ (ps : List (Int × Int)) (o : Int), runOff o (ps.filter fun p => decide (p.1 < st)) t = runOff o ps t
  | [], _ => rfl
  | p :: ps, o => by
    by_cases c : p.1 < st
    · rw [List.filter_cons_of_pos (by simpa using c), run_cons, run_cons]
      exact run_filter h ps _
    · rw [List.filter_cons_of_neg (by simpa using c), run_cons, if_neg (by omega)]
      exact run_filter h ps o
theorem AscC.filter {st : Int} : ∀ {ps : List (Int × Int)} {b : Int}, AscC b ps → AscC b (ps.filter fun p => decide (p.1 < st))
  | [], _, _ => trivial
  | p :: ps, b, a => by
    by_cases c : p.1 < st
    · rw [List.filter_cons_of_pos (by simpa using c)]; exact ⟨a.1, a.2.1, AscC.filter a.2.2⟩
    · rw [List.filter_cons_of_neg (by simpa using c)]; exact (AscC.filter a.2.2).mono (by have := a.1; omega)
/-- all but the object at x is as it was -/
def Fr1 (x : Addr) (H H' : Hp) : Prop := ∀ b u, H b = some u → b ≠ x → H' b = some u
theorem Fr1.of {x : Addr} {H H' : Hp} (s : Same H H') : Fr1 x H H' := fun b u e _ => s b u e
theorem Fr1.trans {x : Addr} {H H1 H2 : Hp} (a : Fr1 x H H1) (b : Fr1 x H1 H2) : Fr1 x H H2 := fun c u e n => b c u (a c u e n) n
theorem Fr1.put {x : Addr} {H : Hp} {o : HO} : Fr1 x H (upd H x o) := fun b u e n => by rw [upd_ne n]; exact e
theorem PlsAt.same {H H' : Hp} {L : Addr} {ps : List (Int × Int)} (h : PlsAt H L ps) (s : Same H H') : PlsAt H' L ps := by
  obtain ⟨ts, e, r⟩ := h
  exact ⟨ts, s _ _ e, Paired.mapP r fun a b x => s _ _ x⟩
theorem PlsAt.fr {x C' dx : Addr} {fs : List (Str × V)} {H H' : Hp} {L : Addr} {ps : List (Int × Int)} (h : PlsAt H L ps) (f : Fr1 x H H') (hx : H x = some (.ins C' dx fs)) : PlsAt H' L ps := by
  obtain ⟨ts, e, r⟩ := h
  have ne : ∀ b u, H b = some u → u ≠ .ins C' dx fs → b ≠ x := fun b u e n z => by rw [z, hx] at e; exact n (Option.some.inj e).symm
  exact ⟨ts, f _ _ e (ne _ _ e (by intro z; cases z)), Paired.mapP r fun a b x => f _ _ x (ne _ _ x (by intro z; cases z))⟩
theorem TabAt.fr {x C' dx : Addr} {fs : List (Str × V)} {H H' : Hp} {D : Addr} {rs : List Row} (h : TabAt P w H D rs) (f : Fr1 x H H') (hx : H x = some (.ins C' dx fs)) : TabAt P w H' D rs := by
  obtain ⟨qs, Ts, a, b, c⟩ := h.ex
  have ne : ∀ b u, H b = some u → u ≠ .ins C' dx fs → b ≠ x := fun b u e n z => by rw [z, hx] at e; exact n (Option.some.inj e).symm
  refine ⟨qs, Ts, Paired.mapP a fun q k e => f _ _ e (ne _ _ e (by intro z; cases z)), f _ _ b (ne _ _ b (by intro z; cases z)), Paired.mapP c fun T k g => ?_⟩
  obtain ⟨ts, e, r⟩ := g
  exact ⟨ts, f _ _ e (ne _ _ e (by intro z; cases z)), Paired.mapP r fun a b x => f _ _ x (ne _ _ x (by intro z; cases z))⟩
theorem putF_len (f : Str) (v : V) : ∀ fs : List (Str × V), (putF f v fs).length ≤ fs.length + 1
  | [] => Nat.le_refl _
  | (g, u) :: fs => by
    unfold putF
    split
    · simp
    · have := putF_len f v fs
      simp only [List.length_cons]
      omega
def spFollow (P : Program) (w : World) (C : Addr) : Sp := fun vs H Q _ => ∃ (x D : Addr) (since o : Int) (dx L : Addr) (fs : List (Str × V)) (chs : List (Int × Int)) (rs : List Row), vs = [.ref x, .ref D, .int since] ∧ H x = some (.ins C dx fs) ∧ fs.length < 900 ∧ (∀ q ∈ fs, q.1 ∈ zF) ∧ fs.lookup ("_offset" : Str) = some (.int o) ∧ fs.lookup ("_changes" : Str) = some (.ref L) ∧ PlsAt H L chs ∧
  AscC 0 chs ∧ chs.length ≤ 1000 ∧ 0 ≤ since ∧ (∀ p ∈ chs, p.1 < since) ∧ TabAt P w H D rs ∧ 0 < rs.length ∧ rs.length ≤ 4 ∧ Ord rs ∧
  ∀ (H' : Hp) (o' st : Int) (chs' : List (Int × Int)), (∀ b u, H b = some u → b ≠ x → H' b = some u) → ZAt P w C H' x o' chs' (some (st, rs)) → (∀ t, 0 ≤ t → zOff o' chs' (some (st, rs)) t = zOff o chs (some (since, rs)) t) → Q .non H'
theorem scZoneFollow : FnScope ["self", "table", "since", "start", "change"] ["self", "table", "since"] (defScope sZoneFollow) := ⟨rfl, rfl, rfl, by decide +kernel, rfl, by decide +kernel, by decide +kernel⟩
set_option maxHeartbeats 1000000 in
theorem ok_follow {f : Addr} {fd : FuncData} (F : Fun K "_follow" "Zone._follow" sZoneFollow f fd) (Zc : Zk K C) (D_ruled_from : Df P w K mg base 7 "ruled_from" ["offset", "changes", "since", "table"] [] (spRuled P w)) (D_last_change : Df P w K mg base 6 "last_change" ["table", "instant"] [] (spLastC P w)) : FnOk P w K mg base CX0 8 f fd ["self", "table", "since"] (spFollow P w C) := by
  refine F.ok scZoneFollow (fun vs H Q E h => ?_) (fun cdv A outer s H vs Q E hr h => ?_)
  · obtain ⟨_, _, _, _, _, _, _, _, _, rfl, _⟩ := h
    rfl
  · obtain ⟨x, D, since, o, dx, L, fs, chs, rs, rfl, hx, lf, nfs, fo, fc, pl, as, ln, s0, bel, TA, n0, n4, od, k⟩ := h
    have nd := scZoneFollow.nd
    have hu := hr.units
    refine ⟨_, (pss_cons (ps_set (i := 3) nd rfl (Or.inr rfl) (pe_df D_ruled_from (hr.mono (by decide)) (pa_cons (pe_fld (pv 0) rfl) (pa_cons (pe_fld (pv 0) rfl) (pa_cons (pv 2) (pa_cons (pv 1) pa_nil))))))
      (C8.pss_cut (ps_if (pt_cmpR op_eq (pv 3) pe_int (nomark _))
        (pss_one (ps_fld (pv 0) (pe_ix ix_tup (pe_df D_last_change (hr.mono (by decide)) (pa_cons (pv 1) (pa_cons pe_int pa_nil))) pe_int (fun _ _ => rfl)) rfl))
        pss_nil)
      (pss_cons (ps_fld (pv 0) (pe_lc (own := [("change", 4)]) (g := (gName 4)) rfl nd (pi_list (pe_fld (pv 0) rfl)) (blkOk_by (N := ["self", "table", "since", "start", "change"]) (sc := defScope sZoneFollow) (by decide +kernel)) (fun _ _ _ _ _ => pg_name (i := 4) nd rfl (Or.inl rfl)) (fun _ _ _ _ _ => (pts_one (pt_cmpR op_lt (pe_ix (show IxR _ (rIxT K) from ix_tup) (pv 4) pe_int (fun _ _ => rfl)) (pv 3) (nomark _)))) (fun _ _ _ _ _ => (pv 4))) rfl)
      (pss_cons (ps_fld (pv 0) (pv 3) rfl)
      (pss_one (ps_fld (pv 0) (pv 1) rfl)))))), ?_⟩
    walk_at "rd"
    refine ⟨x, C, dx, fs, _, rfl, hx, Zc.cl, Zc.nO, fo, ?_⟩
    walk_at "rd"
    refine ⟨x, C, dx, fs, _, rfl, hx, Zc.cl, Zc.nC, fc, ?_⟩
    walk_at "rd"
    refine ⟨o, since, L, D, rs, chs, rfl, pl, as, ln, s0, bel, TA, n0, n4, od, fun H1 st S1 st0 st1 ag => ?_⟩
    have hx1 := S1 _ _ hx
    have TA1 := TA.same S1
    walk_at "rd"
    refine ⟨fun σ' H' => (Fr1 x H H' ∧ ∃ (fs2 : List (Str × V)) (o2 : Int), H' x = some (.ins C dx fs2) ∧ fs2.length < 950 ∧ (∀ q ∈ fs2, q.1 ∈ zF) ∧ fs2.lookup ("_offset" : Str) = some (.int o2) ∧ fs2.lookup ("_changes" : Str) = some (.ref L) ∧ (st ≠ 0 → o2 = o)) ∧ σ' = [some (.ref x), some (.ref D), some (.int since), some (.int st), none], ?_, ?_⟩
    · walk_at "rd"
      by_cases c : st = 0
      · refine iteTT (by rw [c]; exact decide_eq_true rfl) ?_
        walk_at "rd"
        refine ⟨D, rs, 0, rfl, TA1, n0, n4, od, fun H2 q b ro S2 hq LC => ?_⟩
        walk_at "rd"
        refine ⟨q, _, _, _, rfl, rfl, SqT.of hq, atI_nat (j := 1) rfl, ?_⟩
        walk_at "rd"
        refine ⟨x, C, dx, fs, rfl, S2 _ _ hx1, Zc.cl, Zc.nO, by omega, ?_⟩
        refine ⟨⟨((Fr1.of S1).trans (Fr1.of S2)).trans Fr1.put, putF "_offset" (.int ro) fs, ro, upd_same, by have := putF_len ("_offset" : Str) (.int ro) fs; omega, putF_names (by decide +kernel) nfs, by rw [lookup_putF, if_pos rfl], by rw [lookup_putF, if_neg (by decide)]; exact fc, fun g => absurd c g⟩, rfl⟩
      · refine iteFF (decide_eq_false fun g => c (V.int.inj g)) ?_
        walk_at "rd"
        exact ⟨⟨Fr1.of S1, fs, o, hx1, by omega, nfs, fo, fc, fun _ => rfl⟩, rfl⟩
    · rintro σ' H2 ⟨⟨F2, fs2, o2, hx2, l2, nf2, fo2, fc2, oe⟩, rfl⟩
      obtain ⟨ts, hL2, pr2⟩ := pl.fr F2 hx
      have TA2 := TA.fr F2 hx
      have tl : ts.length = chs.length := pr2.length
      walk_at "rd"
      refine ⟨x, C, dx, fs2, _, rfl, hx2, Zc.cl, Zc.nC, fc2, ?_⟩
      have st1' := st1
      refine ⟨L, rfl, ⟨_, SqL.of hL2⟩, fun D2 hD2 => ?_⟩
      refine lc_list (K := K) (a := L) (xs := ts.map V.ref) (fun i H' => Same H2 H' ∧ ∃ us : List Addr, us.length ≤ i ∧ H' D2 = some (.lst (us.map V.ref)) ∧ Paired (fun t p => H' t = some (.tup [.int p.1, .int p.2])) us ((chs.take i).filter fun p => decide (p.1 < st)))
        ⟨Same.new hD2, [], Nat.le_refl _, upd_same, .nil⟩ (fun i H' _ ⟨s1, _⟩ => SqL.of (s1 _ _ hL2)) ?_ ?_
      · rintro i y' H3 hi ⟨S3, us, lu, d3, pu⟩
        obtain ⟨u, p, rfl, hu', hp, ep⟩ := pls_get pr2 hi
        have ep3 := S3 _ _ ep
        have li : i < ts.length := (List.getElem?_eq_some_iff.mp hu').1
        refine ⟨rfl, ?_⟩
        walk_at "rd"
        refine ⟨u, _, _, _, rfl, rfl, SqT.of ep3, atI_nat (j := 0) rfl, ?_⟩
        walk_at "rd"
        have et : chs.take (i + 1) = chs.take i ++ [p] := by rw [List.take_succ, hp]; rfl
        by_cases c : p.1 < st
        · refine iteTT (decide_eq_true c) ?_
          walk_at "rd"
          have keep : ∀ (o : HO) (c : Addr) (vs : List V), H3 c = some (.tup vs) → (upd H3 D2 o) c = some (.tup vs) := fun o c vs g => by
            have : c ≠ D2 := fun z => by rw [z, d3] at g; cases g
            rw [upd_ne this]; exact g
          refine ⟨_, d3, by rw [List.length_map]; exact szl (by omega), S3.wr hD2, us ++ [u], by rw [List.length_append]; exact Nat.add_le_add_right lu 1, by rw [upd_same, List.map_append]; rfl, ?_⟩
          rw [et, List.filter_append, List.filter_cons_of_pos (by simpa using c)]
          exact Paired.snoc (Paired.mapP pu fun a b r => keep _ _ _ r) (keep _ _ _ ep3)
        · refine iteFF (decide_eq_false c) ?_
          refine ⟨S3, us, by omega, d3, ?_⟩
          rw [et, List.filter_append, List.filter_cons_of_neg (by simpa using c), List.filter_nil, List.append_nil]
          exact pu
      · rintro H3 ⟨S3, us, lu, d3, pu⟩
        rw [List.take_of_length_le (by rw [List.length_map]; omega)] at pu
        have hx3 := S3 _ _ hx2
        have TA3 := TA2.same S3
        walk_at "rd"
        refine ⟨x, C, dx, fs2, rfl, hx3, Zc.cl, Zc.nC, by omega, ?_⟩
        have b3 := putF_len ("_changes" : Str) (.ref D2) fs2
        walk_at "rd"
        refine ⟨x, C, dx, _, rfl, upd_same, Zc.cl, Zc.nS, by omega, ?_⟩
        have b4 := putF_len ("_since" : Str) (.int st) (putF ("_changes" : Str) (.ref D2) fs2)
        walk_at "rd"
        refine ⟨x, C, dx, _, rfl, upd_same, Zc.cl, Zc.nB, by omega, ?_⟩
        have F3 : Fr1 x H3 (upd (upd (upd H3 x (.ins C dx (putF ("_changes" : Str) (.ref D2) fs2))) x (.ins C dx (putF ("_since" : Str) (.int st) (putF ("_changes" : Str) (.ref D2) fs2)))) x (.ins C dx (putF ("_table" : Str) (.ref D) (putF ("_since" : Str) (.int st) (putF ("_changes" : Str) (.ref D2) fs2))))) := (Fr1.put.trans Fr1.put).trans Fr1.put
        have hN : (upd (upd (upd H3 x (.ins C dx (putF ("_changes" : Str) (.ref D2) fs2))) x (.ins C dx (putF ("_since" : Str) (.int st) (putF ("_changes" : Str) (.ref D2) fs2)))) x (.ins C dx (putF ("_table" : Str) (.ref D) (putF ("_since" : Str) (.int st) (putF ("_changes" : Str) (.ref D2) fs2))))) x = some (.ins C dx (putF ("_table" : Str) (.ref D) (putF ("_since" : Str) (.int st) (putF ("_changes" : Str) (.ref D2) fs2)))) := upd_same
        generalize (upd (upd (upd H3 x (.ins C dx (putF ("_changes" : Str) (.ref D2) fs2))) x (.ins C dx (putF ("_since" : Str) (.int st) (putF ("_changes" : Str) (.ref D2) fs2)))) x (.ins C dx (putF ("_table" : Str) (.ref D) (putF ("_since" : Str) (.int st) (putF ("_changes" : Str) (.ref D2) fs2))))) = HN at *
        have plN : PlsAt HN D2 (chs.filter fun p => decide (p.1 < st)) := PlsAt.fr ⟨us, d3, pu⟩ F3 hx3
        have TAN := TA3.fr F3 hx3
        refine k HN o2 st (chs.filter fun p => decide (p.1 < st)) ((F2.trans (Fr1.of S3)).trans F3) ⟨⟨dx, _, D2, hN, ?_, ?_, plN, (fun e => nomatch e), fun st' rs' e => ?_⟩, as.filter, Nat.le_trans (List.length_filter_le _ _) ln, fun dx' fs' e => ?_⟩ fun t t0 => ?_
        · rw [lookup_putF, if_neg (by decide), lookup_putF, if_neg (by decide), lookup_putF, if_neg (by decide)]; exact fo2
        · rw [lookup_putF, if_neg (by decide), lookup_putF, if_neg (by decide), lookup_putF, if_pos rfl]
        · cases e
          exact ⟨by rw [lookup_putF, if_neg (by decide), lookup_putF, if_pos rfl], n0, n4, od, D, by rw [lookup_putF, if_pos rfl], TAN⟩
        · rw [hN] at e
          cases e
          exact putF_names (by decide +kernel) (putF_names (by decide +kernel) (putF_names (by decide +kernel) nf2))
        · show (if st ≤ t then rOff rs t else runOff o2 (chs.filter fun p => decide (p.1 < st)) t) = if since ≤ t then rOff rs t else runOff o chs t
          by_cases c : st ≤ t
          · rw [if_pos c]
            by_cases d : since ≤ t
            · rw [if_pos d]
            · rw [if_neg d]; exact ag t c (by omega)
          · rw [if_neg c, if_neg (by omega), run_filter (by omega), oe (by omega)]
end
end Cf
namespace Cf
open PySem L2
set_option hygiene false
local macro_rules | `(tactic| walk_at "len") => `(tactic| repeat (first | (obtain ⟨e, _⟩ := h; subst e; rfl; done) | (obtain ⟨_, h⟩ := h)))
local macro_rules | `(tactic| walk_at "rd") => `(tactic| repeat (first | refine ⟨_, rfl, ?_⟩ | refine ⟨_, _, rfl, rfl, ?_⟩ | refine ⟨rfl, ?_⟩ | refine ⟨_, _, rfl, ?_⟩))
local macro_rules | `(tactic| walk_at "yes") => `(tactic| (dsimp only [tYes]; rw [if_pos rfl]))
set_option hygiene true
section
variable {P : Program} {w : World} {K : PySem.W.Frag} {mg : Str → Option Value} {base : Heap} {C : Addr}
/-! ### Zone.__init__ -/
theorem pls_tup {H : Hp} {L : Addr} {ps : List (Int × Int)} (h : PlsAt H L ps) : ∃ ts : List Addr, H L = some (.lst (ts.map V.ref)) ∧ ts.length = ps.length := by
  obtain ⟨ts, e, r⟩ := h
  exact ⟨ts, e, r.length⟩
/-- a rule and since, as they are given -/
inductive Given (H : Hp) (chs : List (Int × Int)) : V → V → Option (Int × List Row) → Prop where
  | no : Given H chs .non .non none
  | yes {p : Addr} {since : Int} {rs : List Row} : RulAt H p rs → RulOk rs → Turned rs → (∀ k ∈ kinds, misK rs k = none) → (∀ c ∈ chs, c.1 < since) → 0 ≤ since → Given H chs (.ref p) (.int since) (some (since, rs))
theorem ne_ins {x C' dx : Addr} {fs : List (Str × V)} {H : Hp} (hx : H x = some (.ins C' dx fs)) {b : Addr} {vs : List V} (h : H b = some (.tup vs)) : b ≠ x := fun z => by rw [z, hx] at h; cases h
theorem RulAt.fr {x C' dx : Addr} {fs : List (Str × V)} {H H' : Hp} {p : Addr} {rs : List Row} (h : RulAt H p rs) (f : Fr1 x H H') (hx : H x = some (.ins C' dx fs)) : RulAt H' p rs := h.ts fun c vs e => f c _ e (ne_ins hx e)
theorem Given.fr {x C' dx : Addr} {fs : List (Str × V)} {H H' : Hp} {chs : List (Int × Int)} {a b : V} {rl : Option (Int × List Row)} (g : Given H chs a b rl) (f : Fr1 x H H') (hx : H x = some (.ins C' dx fs)) : Given H' chs a b rl := by
  cases g with
  | no => exact .no
  | yes R ok tu al bel s0 => exact .yes (R.fr f hx) ok tu al bel s0
def spZInit (P : Program) (w : World) (C : Addr) : Sp := fun vs H Q _ => ∃ (x dx L : Addr) (o : Int) (chs : List (Int × Int)) (vr vt : V) (rl : Option (Int × List Row)), vs = [.ref x, .int o, .ref L, vr, vt] ∧ H x = some (.ins C dx []) ∧ -86399 ≤ o ∧ o ≤ 86399 ∧ PlsAt H L chs ∧ AscC 0 chs ∧ chs.length ≤ 1000 ∧ Given H chs vr vt rl ∧
  ∀ (H' : Hp) (o' : Int) (chs' : List (Int × Int)) (rl' : Option (Int × List Row)), Fr1 x H H' → ZAt P w C H' x o' chs' rl' → (∀ t, 0 ≤ t → zOff o' chs' rl' t = zOff o chs rl t) → Q .non H'
theorem scZoneInit : FnScope ["self", "offset", "changes", "rule", "since", "table"] ["self", "offset", "changes", "rule", "since"] (defScope sZoneInit) := ⟨rfl, rfl, rfl, by decide +kernel, rfl, by decide +kernel, by decide +kernel⟩
set_option maxHeartbeats 1000000 in
theorem ok_zinit {f : Addr} {fd : FuncData} {dV : List V} {kw : List (Str × V)} (F : FunD K "__init__" "Zone.__init__" (defArgs sZoneInit) (defBody sZoneInit) (defScope sZoneInit) dV kw f fd) (T : Nm mg) (T2 : Zk K C) (D_check_offset : Df P w K mg base 3 "check_offset" ["value"] [] spChkOff) (D_check_changes : Df P w K mg base 4 "check_changes" ["changes"] [] (spChkCh P w)) (D_real_changes : Df P w K mg base 1 "real_changes" ["offset", "changes"] [] spReal)
    (D_rule_table : Df P w K mg base 7 "rule_table" ["rule"] [] (spRTab P w)) (D_check_number2 : Df P w K mg base 2 "check_number" ["value", "least"] [] spCheckL) (D_follow : Dm P w K mg base 8 C "_follow" ["self", "table", "since"] (spFollow P w C)) : FnOk P w K mg base CX0 9 f fd ["self", "offset", "changes", "rule", "since"] (spZInit P w C) := by
  refine F.ok scZoneInit (fun vs H Q E h => ?_) (fun cdv A outer s H vs Q E hr h => ?_)
  · obtain ⟨_, _, _, _, _, _, _, _, rfl, _⟩ := h
    rfl
  · obtain ⟨x, dx, L, o, chs, vr, vt, rl, rfl, hx, o1, o2, pl, as, ln, gv, k⟩ := h
    have nd := scZoneInit.nd
    have hu := hr.units
    refine ⟨_, PSs.nox (pss_cons (ps_expr (pe_df D_check_offset (hr.mono (by decide)) (pa_cons (pv 1) pa_nil)))
      (pss_cons (ps_expr (pe_df D_check_changes (hr.mono (by decide)) (pa_cons (pv 2) pa_nil)))
      (pss_cons (ps_fld (pv 0) (pe_tup (pa_cons (pv 1) (pa_cons (pe_callTy call_tuple_of (by rfl) T.tuple (by decide +kernel) (pa_cons (pv 2) pa_nil)) (pa_cons (pv 3) (pa_cons (pv 4) pa_nil))))) rfl)
      (pss_cons (ps_fld (pv 0) (pv 1) rfl)
      (pss_cons (ps_fld (pv 0) (pe_df D_real_changes (hr.mono (by decide)) (pa_cons (pv 1) (pa_cons (pv 2) pa_nil))) rfl)
      (pss_cons (ps_fld (pv 0) pe_non rfl)
      (pss_cons (ps_fld (pv 0) pe_non rfl)
      (pss_one (ps_if (pt_cmpR op_notN (pv 3) pe_non (nomark _))
        (pss_cons (ps_set (i := 5) nd rfl (Or.inl rfl) (pe_df D_rule_table (hr.mono (by decide)) (pa_cons (pv 3) pa_nil)))
        (pss_cons (ps_expr (pe_df D_check_number2 (hr.mono (by decide)) (pa_cons (pv 4) (pa_cons (pe_ifExp (pt_truth (pv 2) (fun _ => rfl)) (pe_op op_add (pe_ix ix_tup (pe_ix ix_list (pv 2) (pe_un un_neg pe_int) (fun _ _ => rfl)) pe_int (fun _ _ => rfl)) pe_int) pe_int) pa_nil))))
        (pss_one (ps_expr (pe_dm D_follow T2.cl (hr.mono (by decide)) (pv 0) (pa_cons (pv 5) (pa_cons (pv 4) pa_nil)))))))
        (pss_one (ps_if (pt_cmpR op_notN (pv 4) pe_non (nomark _))
          (pss_one ps_never)
          pss_nil))))))))))), ?_⟩
    walk_at "rd"
    refine ⟨o1, o2, ?_⟩
    walk_at "rd"
    refine ⟨L, chs, rfl, pl, as, fun H1 S1 => ?_⟩
    have hx1 := S1 _ _ hx
    have pl1 : PlsAt H1 L chs := PlsAt.same pl S1
    obtain ⟨ts, hL1, pr1⟩ := id pl1
    have tl : ts.length = chs.length := pr1.length
    walk_at "rd"
    refine ⟨L, _, rfl, .inl ⟨SqL.of hL1, fun t1 ht1 => ?_⟩⟩
    have s2 := Same.new (o := .tup (ts.map V.ref)) ht1
    have hx2 := s2 _ _ hx1
    have pl2 := PlsAt.same pl1 s2
    have S2 := S1.trans s2
    clear s2
    generalize (upd H1 t1 (.tup (ts.map V.ref))) = H2 at *
    walk_at "rd"
    refine ⟨by show 4 ≤ sizeLine; decide, fun t2 ht2 => ?_⟩
    have s3 := Same.new (o := .tup [V.int o, V.ref t1, vr, vt]) ht2
    have hx3 := s3 _ _ hx2
    have pl3 := PlsAt.same pl2 s3
    have S3 := S2.trans s3
    clear s3
    generalize (upd H2 t2 (.tup [V.int o, V.ref t1, vr, vt])) = H3 at *
    walk_at "rd"
    refine ⟨x, C, dx, [], rfl, hx3, T2.cl, T2.nT, by show 0 < 1000; decide, ?_⟩
    have F4 : Fr1 x H3 (upd H3 x (.ins C dx (putF ("_told" : Str) (.ref t2) []))) := Fr1.put
    have hx4 : (upd H3 x (.ins C dx (putF ("_told" : Str) (.ref t2) []))) x = some (.ins C dx (putF ("_told" : Str) (.ref t2) [])) := upd_same
    have b4 := putF_len ("_told" : Str) (.ref t2) []
    have n4 := putF_names (f := ("_told" : Str)) (v := (.ref t2)) (by decide +kernel) (fs := []) (fun _ h => nomatch h)
    have w4 : (putF ("_told" : Str) (.ref t2) []).lookup ("_follow" : Str) = none := by rw [lookup_putF, if_neg (by decide)]; exact rfl
    generalize (upd H3 x (.ins C dx (putF ("_told" : Str) (.ref t2) []))) = H4 at *
    generalize (putF ("_told" : Str) (.ref t2) []) = f4 at *
    walk_at "rd"
    refine ⟨x, C, dx, f4, rfl, hx4, T2.cl, T2.nO, by simp at b4; omega, ?_⟩
    have F5 : Fr1 x H4 (upd H4 x (.ins C dx (putF ("_offset" : Str) (.int o) f4))) := Fr1.put
    have hx5 : (upd H4 x (.ins C dx (putF ("_offset" : Str) (.int o) f4))) x = some (.ins C dx (putF ("_offset" : Str) (.int o) f4)) := upd_same
    have b5 := putF_len ("_offset" : Str) (.int o) f4
    have n5 := putF_names (f := ("_offset" : Str)) (v := (.int o)) (by decide +kernel) (fs := f4) n4
    have o5 : (putF ("_offset" : Str) (.int o) f4).lookup ("_offset" : Str) = some (.int o) := by rw [lookup_putF, if_pos rfl]
    have w5 : (putF ("_offset" : Str) (.int o) f4).lookup ("_follow" : Str) = none := by rw [lookup_putF, if_neg (by decide)]; exact w4
    generalize (upd H4 x (.ins C dx (putF ("_offset" : Str) (.int o) f4))) = H5 at *
    generalize (putF ("_offset" : Str) (.int o) f4) = f5 at *
    have F35 := F4.trans F5
    have pl5 := PlsAt.fr pl3 F35 hx3
    walk_at "rd"
    refine ⟨o, L, chs, rfl, pl5, ln, fun H6 R S6 nR plR => ?_⟩
    have hx6 := S6 _ _ hx5
    walk_at "rd"
    refine ⟨x, C, dx, f5, rfl, hx6, T2.cl, T2.nC, by simp at b4; omega, ?_⟩
    have b6 := putF_len ("_changes" : Str) (.ref R) f5
    have n6 := putF_names (f := ("_changes" : Str)) (v := (.ref R)) (by decide +kernel) (fs := f5) n5
    have F7 : Fr1 x H6 (upd H6 x (.ins C dx (putF ("_changes" : Str) (.ref R) f5))) := Fr1.put
    have hx7 : (upd H6 x (.ins C dx (putF ("_changes" : Str) (.ref R) f5))) x = some (.ins C dx (putF ("_changes" : Str) (.ref R) f5)) := upd_same
    have o7 : (putF ("_changes" : Str) (.ref R) f5).lookup ("_offset" : Str) = some (.int o) := by rw [lookup_putF, if_neg (by decide)]; exact o5
    have c7 : (putF ("_changes" : Str) (.ref R) f5).lookup ("_changes" : Str) = some (.ref R) := by rw [lookup_putF, if_pos rfl]
    have w7 : (putF ("_changes" : Str) (.ref R) f5).lookup ("_follow" : Str) = none := by rw [lookup_putF, if_neg (by decide)]; exact w5
    generalize (upd H6 x (.ins C dx (putF ("_changes" : Str) (.ref R) f5))) = H7 at *
    generalize (putF ("_changes" : Str) (.ref R) f5) = f7 at *
    walk_at "rd"
    refine ⟨x, C, dx, f7, rfl, hx7, T2.cl, T2.nS, by simp at b4; omega, ?_⟩
    have b7 := putF_len ("_since" : Str) .non f7
    have n7 := putF_names (f := ("_since" : Str)) (v := .non) (by decide +kernel) (fs := f7) n6
    have F8 : Fr1 x H7 (upd H7 x (.ins C dx (putF ("_since" : Str) .non f7))) := Fr1.put
    have hx8 : (upd H7 x (.ins C dx (putF ("_since" : Str) .non f7))) x = some (.ins C dx (putF ("_since" : Str) .non f7)) := upd_same
    have o8 : (putF ("_since" : Str) .non f7).lookup ("_offset" : Str) = some (.int o) := by rw [lookup_putF, if_neg (by decide)]; exact o7
    have c8 : (putF ("_since" : Str) .non f7).lookup ("_changes" : Str) = some (.ref R) := by rw [lookup_putF, if_neg (by decide)]; exact c7
    have s8 : (putF ("_since" : Str) .non f7).lookup ("_since" : Str) = some .non := by rw [lookup_putF, if_pos rfl]
    have w8 : (putF ("_since" : Str) .non f7).lookup ("_follow" : Str) = none := by rw [lookup_putF, if_neg (by decide)]; exact w7
    generalize (upd H7 x (.ins C dx (putF ("_since" : Str) .non f7))) = H8 at *
    generalize (putF ("_since" : Str) .non f7) = f8 at *
    walk_at "rd"
    refine ⟨x, C, dx, f8, rfl, hx8, T2.cl, T2.nB, by simp at b4; omega, ?_⟩
    have b8 := putF_len ("_table" : Str) .non f8
    have n8 := putF_names (f := ("_table" : Str)) (v := .non) (by decide +kernel) (fs := f8) n7
    have F9 : Fr1 x H8 (upd H8 x (.ins C dx (putF ("_table" : Str) .non f8))) := Fr1.put
    have hx9 : (upd H8 x (.ins C dx (putF ("_table" : Str) .non f8))) x = some (.ins C dx (putF ("_table" : Str) .non f8)) := upd_same
    have o9 : (putF ("_table" : Str) .non f8).lookup ("_offset" : Str) = some (.int o) := by rw [lookup_putF, if_neg (by decide)]; exact o8
    have c9 : (putF ("_table" : Str) .non f8).lookup ("_changes" : Str) = some (.ref R) := by rw [lookup_putF, if_neg (by decide)]; exact c8
    have s9 : (putF ("_table" : Str) .non f8).lookup ("_since" : Str) = some .non := by rw [lookup_putF, if_neg (by decide)]; exact s8
    have w9 : (putF ("_table" : Str) .non f8).lookup ("_follow" : Str) = none := by rw [lookup_putF, if_neg (by decide)]; exact w8
    generalize (upd H8 x (.ins C dx (putF ("_table" : Str) .non f8))) = H9 at *
    generalize (putF ("_table" : Str) .non f8) = f9 at *
    have F69 := (F7.trans F8).trans F9
    have plR9 := PlsAt.fr plR F69 hx6
    have pl9 := PlsAt.fr (PlsAt.same pl5 S6) F69 hx6
    have F39 := (F35.trans (Fr1.of S6)).trans F69
    have F09 : Fr1 x H H9 := (Fr1.of S3).trans F39
    have asR : AscC 0 (realC o chs) := real_asc as
    have lnR : (realC o chs).length ≤ 1000 := Nat.le_trans (real_len o chs) ln
    have rr : ∀ t, runOff o (realC o chs) t = runOff o chs t := fun t => real_run t as
    have gv9 := gv.fr F09 hx
    cases gv9 with
    | no =>
      walk_at "rd"
      refine k H9 o (realC o chs) none F09 ⟨⟨dx, f9, R, hx9, o9, c9, plR9, fun _ => s9, fun _ _ e => nomatch e⟩, asR, lnR, fun dx' fs' e => by rw [hx9] at e; cases e; exact n8⟩ fun t _ => rr t
    | @yes p since rs Rl ok tu al bel s0 =>
      walk_at "rd"
      refine ⟨_, _, rfl, Rl, ok, tu, al, fun H10 D S10 TA => ?_⟩
      have hx10 := S10 _ _ hx9
      have pl10 := PlsAt.same pl9 S10
      have plR10 := PlsAt.same plR9 S10
      have od : Ord _ := fine_all al
      walk_at "rd"
      obtain ⟨ts10, hL10, pr10⟩ := id pl10
      have eq9 : ∀ o' chs' st t, zOff o' chs' (some (st, rs)) t = zOff o (realC o chs) (some (since, rs)) t → zOff o' chs' (some (st, rs)) t = zOff o chs (some (since, rs)) t := fun o' chs' st t e => by
        rw [e]
        show (if since ≤ t then rOff rs t else runOff o (realC o chs) t) = if since ≤ t then rOff rs t else runOff o chs t
        rw [rr]
      have two := ok.two
      cases chs with
      | nil =>
        have t0 : ts10 = [] := List.eq_nil_of_length_eq_zero (by rw [pr10.length]; rfl)
        subst t0
        refine ⟨false, .inl ⟨_, SqL.of hL10, rfl⟩, ?_⟩
        walk_at "rd"
        refine ⟨s0, ?_⟩
        walk_at "rd"
        refine ⟨x, dx, f9, rfl, hx10, w9, ?_⟩
        walk_at "rd"
        refine ⟨x, D, since, o, dx, R, f9, _, rs, rfl, hx10, by simp at b4; omega, n8, o9, c9, plR10, asR, lnR, s0, fun c hc => bel c (real_mem hc), TA, by omega, ok.four, od, fun H' o' st chs' F' Z' eq => ?_⟩
        exact k H' o' chs' (some (st, rs)) ((F09.trans (Fr1.of S10)).trans F') Z' fun t t0 => eq9 o' chs' st t (eq t t0)
      | cons c0 cs =>
        have lz : ts10.length = (c0 :: cs).length := pr10.length
        obtain ⟨uz, huz⟩ : ∃ uz, ts10[ts10.length - 1]? = some uz := ⟨_, List.getElem?_eq_getElem (by rw [lz]; simp)⟩
        obtain ⟨cz, hcz, ez⟩ := paired_get' pr10 _ uz huz
        have bz := bel cz (List.mem_of_getElem? hcz)
        refine ⟨true, .inl ⟨_, SqL.of hL10, by cases ts10 with | nil => simp at lz | cons _ _ => rfl⟩, ?_⟩
        walk_at "rd"
        refine ⟨L, _, _, .ref uz, rfl, rfl, SqL.of hL10, atI_prev (i := 0) (by rw [List.length_map, lz]; simp) (by rw [if_pos rfl, List.length_map, List.getElem?_map, huz]; rfl), ?_⟩
        walk_at "rd"
        refine ⟨uz, _, _, _, rfl, rfl, SqT.of ez, atI_nat (j := 0) rfl, ?_⟩
        walk_at "rd"
        refine ⟨by omega, ?_⟩
        walk_at "rd"
        refine ⟨x, dx, f9, rfl, hx10, w9, ?_⟩
        walk_at "rd"
        refine ⟨x, D, since, o, dx, R, f9, _, rs, rfl, hx10, by simp at b4; omega, n8, o9, c9, plR10, asR, lnR, s0, fun c hc => bel c (real_mem hc), TA, by omega, ok.four, od, fun H' o' st chs' F' Z' eq => ?_⟩
        exact k H' o' chs' (some (st, rs)) ((F09.trans (Fr1.of S10)).trans F') Z' fun t t0 => eq9 o' chs' st t (eq t t0)
end
end Cf
namespace Cf
open PySem L2
set_option hygiene false
local macro_rules | `(tactic| walk_at "len") => `(tactic| repeat (first | (obtain ⟨e, _⟩ := h; subst e; rfl; done) | (obtain ⟨_, h⟩ := h)))
local macro_rules | `(tactic| walk_at "rd") => `(tactic| repeat (first | refine ⟨_, rfl, ?_⟩ | refine ⟨_, _, rfl, rfl, ?_⟩ | refine ⟨rfl, ?_⟩ | refine ⟨_, _, rfl, ?_⟩))
local macro_rules | `(tactic| walk_at "yes") => `(tactic| (dsimp only [tYes]; rw [if_pos rfl]))
set_option hygiene true
section
variable {P : Program} {w : World} {K : PySem.W.Frag} {mg : Str → Option Value} {base : Heap} {C : Addr}
/-! ### Zone.offset_at -/
theorem run_take {o t : Int} {ps : List (Int × Int)} {i : Nat} (h : ∀ j q, i ≤ j → ps[j]? = some q → t < q.1) : runOff o ps t = runOff o (ps.take i) t := by
  have e : ps = ps.take i ++ ps.drop i := (List.take_append_drop i ps).symm
  conv => lhs; rw [e]
  unfold runOff
  rw [List.foldl_append]
  refine run_none fun q hq => ?_
  obtain ⟨j, hj⟩ := List.mem_iff_getElem?.mp hq
  rw [List.getElem?_drop] at hj
  exact h (i + j) q (by omega) hj
def spOffAt (P : Program) (w : World) (C : Addr) : Sp := fun vs H Q _ => ∃ (x : Addr) (o t : Int) (chs : List (Int × Int)) (rl : Option (Int × List Row)), vs = [.ref x, .int t] ∧ ZAt P w C H x o chs rl ∧ 0 ≤ t ∧ ∀ H', Same H H' → Q (.int (zOff o chs rl t)) H'
theorem scZoneOffsetAt : FnScope ["self", "instant", "offset", "changed", "later"] ["self", "instant"] (defScope sZoneOffsetAt) := ⟨rfl, rfl, rfl, by decide +kernel, rfl, by decide +kernel, by decide +kernel⟩
set_option maxHeartbeats 1000000 in
theorem ok_offat {f : Addr} {fd : FuncData} (F : Fun K "offset_at" "Zone.offset_at" sZoneOffsetAt f fd) (T2 : Zk K C) (D_check_number2 : Df P w K mg base 2 "check_number" ["value", "least"] [] spCheckL) (D_last_change : Df P w K mg base 6 "last_change" ["table", "instant"] [] (spLastC P w)) : FnOk P w K mg base CX0 7 f fd ["self", "instant"] (spOffAt P w C) := by
  refine F.ok scZoneOffsetAt (fun vs H Q E h => ?_) (fun cdv A outer s H vs Q E hr h => ?_)
  · obtain ⟨_, _, _, _, _, rfl, _⟩ := h
    rfl
  · obtain ⟨x, o, t, chs, rl, rfl, Z, t0, k⟩ := h
    have nd := scZoneOffsetAt.nd
    have hu := hr.units
    have as := Z.asc
    obtain ⟨dx, fs, L, hx, fo, fc, pl, fn0, fsm⟩ := Z.ex
    obtain ⟨ts, hL, pr⟩ := id pl
    have tl : ts.length = chs.length := pr.length
    refine ⟨_, (pss_cons (ps_expr (pe_df D_check_number2 (hr.mono (by decide)) (pa_cons (pv 1) (pa_cons pe_int pa_nil))))
      (pss_cons (ps_if (PW.pt (pw_and (pt_cmpR op_notN (pe_fld (pv 0) rfl) pe_non (nomark _)) (pw_and1 (pt_cmpR op_ge (pv 1) (pe_fld (pv 0) rfl) (nomark _)))))
        (pss_one (ps_ret (pe_ix ix_tup (pe_df D_last_change (hr.mono (by decide)) (pa_cons (pe_fld (pv 0) rfl) (pa_cons (pv 1) pa_nil))) pe_int (fun _ _ => rfl))))
        pss_nil)
      (pss_cons (ps_set (i := 2) nd rfl (Or.inl rfl) (pe_fld (pv 0) rfl))
      (pss_cons (ps_for PassesOwn.never rfl (pi_list (pe_fld (pv 0) rfl)) (pg_tup (by rfl) (pgs_cons (pg_name (i := 3) nd rfl (Or.inl rfl)) (pgs_cons (pg_name (i := 4) nd rfl (Or.inl rfl)) pgs_nil)))
        (pss_cons (ps_if (pt_cmpR op_gt (pv 3) (pv 1) (nomark _))
          (pss_one (ps_ret (pv 2)))
          pss_nil)
        (pss_one (ps_set (i := 2) nd rfl (Or.inl rfl) (pv 4)))))
      (pss_one (ps_ret (pv 2))))))), ?_⟩
    walk_at "rd"
    refine ⟨t0, ?_⟩
    walk_at "rd"
    cases rl with
    | none =>
      have fs0 := fn0 rfl
      refine ⟨x, C, dx, fs, _, rfl, hx, T2.cl, T2.nS, fs0, ?_⟩
      walk_at "rd"
      have zeq : zOff o chs none t = runOff o chs t := rfl
      refine ⟨x, C, dx, fs, _, rfl, hx, T2.cl, T2.nO, fo, ?_⟩
      walk_at "rd"
      refine ⟨x, C, dx, fs, _, rfl, hx, T2.cl, T2.nC, fc, ?_⟩
      walk_at "rd"
      refine ⟨⟨_, SqL.of hL⟩, for_list (K := K) (a := L) (xs := ts.map V.ref) (fun i σ H' => (Same H H' ∧ ∀ j q, j < i → chs[j]? = some q → q.1 ≤ t) ∧ ∃ v3 v4 : Option V, σ = [some (.ref x), some (.int t), some (.int (runOff o (chs.take i) t)), v3, v4])
        ⟨⟨Same.refl _, fun j q hj _ => absurd hj (Nat.not_lt_zero j)⟩, _, _, rfl⟩ (fun i σ H' hi inv => SqL.of (inv.1.1 _ _ hL)) (fun i y' σ H3 hy inv => ?_) fun σ H3 inv => ?_⟩
      · obtain ⟨⟨S3, kk⟩, v3, v4, rfl⟩ := inv
        obtain ⟨u, p, rfl, hu', hp, ep⟩ := pls_get pr hy
        refine ⟨u, _, rfl, SqT.of (S3 _ _ ep), rfl, ?_⟩
        walk_at "rd"
        by_cases c : t < p.1
        · refine iteTT (decide_eq_true c) ?_
          walk_at "rd"
          have k' := k H3 S3
          rw [zeq, show runOff o chs t = runOff o (chs.take i) t from run_take fun j q hj hq => by
            by_cases e : j = i
            · rw [e, hp] at hq; cases hq; exact c
            · have := as.lt hp hq (by omega); omega] at k'
          exact k'
        · refine iteFF (decide_eq_false c) ?_
          walk_at "rd"
          refine ⟨⟨S3, fun j q hj hq => ?_⟩, some (.int p.1), some (.int p.2), ?_⟩
          · by_cases e : j = i
            · rw [e, hp] at hq; cases hq; omega
            · exact kk j q (by omega) hq
          · rw [List.take_succ, hp]
            show _ = [some (V.ref x), some (V.int t), some (V.int (runOff o (chs.take i ++ [p]) t)), some (V.int p.1), some (V.int p.2)]
            rw [run_snoc, if_pos (by omega)]
            rfl
      · obtain ⟨⟨S3, kk⟩, v3, v4, rfl⟩ := inv
        rw [List.take_of_length_le (by rw [List.length_map]; omega)]
        walk_at "rd"
        have k' := k H3 S3
        rw [zeq] at k'
        exact k'
    | some r =>
      obtain ⟨st, rs⟩ := r
      obtain ⟨fs0, n0, n4, od, D, fd0, TA⟩ := fsm st rs rfl
      refine ⟨x, C, dx, fs, _, rfl, hx, T2.cl, T2.nS, fs0, ?_⟩
      walk_at "rd"
      refine ⟨x, C, dx, fs, _, rfl, hx, T2.cl, T2.nS, fs0, ?_⟩
      walk_at "rd"
      by_cases c : st ≤ t
      · refine iteTT (decide_eq_true c) ?_
        walk_at "rd"
        refine ⟨x, C, dx, fs, _, rfl, hx, T2.cl, T2.nB, fd0, ?_⟩
        walk_at "rd"
        refine ⟨D, rs, t, rfl, TA, n0, n4, od, fun H1 q b ro S1 hq LC => ?_⟩
        walk_at "rd"
        refine ⟨q, _, _, _, rfl, rfl, SqT.of hq, atI_nat (j := 1) rfl, ?_⟩
        have k' := k H1 S1
        rw [show zOff o chs (some (st, rs)) t = ro from (if_pos c).trans (LC.at_ t LC.le (Int.le_refl _))] at k'
        exact k'
      · refine iteFF (decide_eq_false c) ?_
        walk_at "rd"
        have zeq : zOff o chs (some (st, rs)) t = runOff o chs t := if_neg c
        refine ⟨x, C, dx, fs, _, rfl, hx, T2.cl, T2.nO, fo, ?_⟩
        walk_at "rd"
        refine ⟨x, C, dx, fs, _, rfl, hx, T2.cl, T2.nC, fc, ?_⟩
        walk_at "rd"
        refine ⟨⟨_, SqL.of hL⟩, for_list (K := K) (a := L) (xs := ts.map V.ref) (fun i σ H' => (Same H H' ∧ ∀ j q, j < i → chs[j]? = some q → q.1 ≤ t) ∧ ∃ v3 v4 : Option V, σ = [some (.ref x), some (.int t), some (.int (runOff o (chs.take i) t)), v3, v4])
          ⟨⟨Same.refl _, fun j q hj _ => absurd hj (Nat.not_lt_zero j)⟩, _, _, rfl⟩ (fun i σ H' hi inv => SqL.of (inv.1.1 _ _ hL)) (fun i y' σ H3 hy inv => ?_) fun σ H3 inv => ?_⟩
        · obtain ⟨⟨S3, kk⟩, v3, v4, rfl⟩ := inv
          obtain ⟨u, p, rfl, hu', hp, ep⟩ := pls_get pr hy
          refine ⟨u, _, rfl, SqT.of (S3 _ _ ep), rfl, ?_⟩
          walk_at "rd"
          by_cases c : t < p.1
          · refine iteTT (decide_eq_true c) ?_
            walk_at "rd"
            have k' := k H3 S3
            rw [zeq, show runOff o chs t = runOff o (chs.take i) t from run_take fun j q hj hq => by
              by_cases e : j = i
              · rw [e, hp] at hq; cases hq; exact c
              · have := as.lt hp hq (by omega); omega] at k'
            exact k'
          · refine iteFF (decide_eq_false c) ?_
            walk_at "rd"
            refine ⟨⟨S3, fun j q hj hq => ?_⟩, some (.int p.1), some (.int p.2), ?_⟩
            · by_cases e : j = i
              · rw [e, hp] at hq; cases hq; omega
              · exact kk j q (by omega) hq
            · rw [List.take_succ, hp]
              show _ = [some (V.ref x), some (V.int t), some (V.int (runOff o (chs.take i ++ [p]) t)), some (V.int p.1), some (V.int p.2)]
              rw [run_snoc, if_pos (by omega)]
              rfl
        · obtain ⟨⟨S3, kk⟩, v3, v4, rfl⟩ := inv
          rw [List.take_of_length_le (by rw [List.length_map]; omega)]
          walk_at "rd"
          have k' := k H3 S3
          rw [zeq] at k'
          exact k'
end
end Cf
namespace Cf
open PySem L2
set_option hygiene false
local macro_rules | `(tactic| walk_at "len") => `(tactic| repeat (first | (obtain ⟨e, _⟩ := h; subst e; rfl; done) | (obtain ⟨_, h⟩ := h)))
local macro_rules | `(tactic| walk_at "rd") => `(tactic| repeat (first | refine ⟨_, rfl, ?_⟩ | refine ⟨_, _, rfl, rfl, ?_⟩ | refine ⟨rfl, ?_⟩ | refine ⟨_, _, rfl, ?_⟩))
local macro_rules | `(tactic| walk_at "yes") => `(tactic| (dsimp only [tYes]; rw [if_pos rfl]))
set_option hygiene true
section
variable {P : Program} {w : World} {K : PySem.W.Frag} {mg : Str → Option Value} {base : Heap}
/-! ### _law_year, _law_offset -/
def spLYear : Sp := fun vs H Q _ => ∃ t : Int, vs = [.int t] ∧ ∀ H', Same H H' → Q (.int (yrOf t)) H'
theorem scLawYear : FnScope ["instant", "day", "year"] ["instant"] (defScope sLawYear) := ⟨rfl, rfl, rfl, by decide +kernel, rfl, by decide +kernel, by decide +kernel⟩
theorem ok_lyear {f : Addr} {fd : FuncData} (F : Fun K "_law_year" "_law_year" sLawYear f fd) (D_law_new_year : Df P w K mg base 1 "_law_new_year" ["year"] [] spNy) : FnOk P w K mg base CX0 2 f fd ["instant"] spLYear := by
  refine F.ok scLawYear (fun vs H Q E h => ?_) (fun cdv A outer s H vs Q E hr h => ?_)
  · obtain ⟨_, rfl, _⟩ := h
    rfl
  · obtain ⟨t, rfl, k⟩ := h
    have nd := scLawYear.nd
    refine ⟨_, (pss_cons (ps_set (i := 1) nd rfl (Or.inl rfl) (pe_op op_fdiv (pv 0) pe_int))
      (pss_cons (ps_set (i := 2) nd rfl (Or.inl rfl) (pe_op op_add pe_int (pe_op op_fdiv (pe_op op_mul (pv 1) pe_int) pe_int)))
      (pss_cons (ps_while PassesOwn.never (pt_cmpR op_gt (pe_df D_law_new_year (hr.mono (by decide)) (pa_cons (pv 2) pa_nil)) (pv 1) (nomark _))
        (pss_one (ps_set (i := 2) nd rfl (Or.inl rfl) (pe_op op_sub (pv 2) pe_int))))
      (pss_cons (ps_while PassesOwn.never (pt_cmpR op_le (pe_df D_law_new_year (hr.mono (by decide)) (pa_cons (pe_op op_add (pv 2) pe_int) pa_nil)) (pv 1) (nomark _))
        (pss_one (ps_set (i := 2) nd rfl (Or.inl rfl) (pe_op op_add (pv 2) pe_int))))
      (pss_one (ps_ret (pv 2))))))), ?_⟩
    obtain ⟨z1, z2⟩ := (yrOf_in t).day
    generalize yrOf t = z at *
    walk_at "rd"
    refine ⟨⟨by decide, by decide⟩, ?_⟩
    walk_at "rd"
    refine ⟨.inr ⟨by decide, by decide⟩, ?_⟩
    walk_at "rd"
    refine ⟨⟨by decide, by decide⟩, ?_⟩
    walk_at "rd"
    refine ⟨fun mm σ H' => Same H H' ∧ ∃ y : Int, σ = [some (.int t), some (.int (t / 86400)), some (.int y)] ∧ mm = (y - z).toNat, ⟨_, Same.refl _, _, rfl, rfl⟩, fun mm σ H1 wv => ?_⟩
    obtain ⟨S1, y, rfl, rfl⟩ := wv
    walk_at "rd"
    by_cases c : t / 86400 < ysOf y
    · have yz : z < y := by
        rcases Int.lt_or_le z y with g | g
        · exact g
        · have := ys_le g; omega
      refine iteTT (decide_eq_true c) ⟨fun σ' H'' => Same H H'' ∧ σ' = [some (.int t), some (.int (t / 86400)), some (.int (y - 1))], fun σ' H'' nx => ?_, ?_⟩
      · obtain ⟨S6, rfl⟩ := nx
        exact ⟨_, by omega, S6, _, rfl, rfl⟩
      · walk_at "rd"
        exact ⟨S1, rfl⟩
    · have yz : y ≤ z := by
        rcases Int.lt_or_le z y with g | g
        · have := ys_le (show z + 1 ≤ y by omega); omega
        · exact g
      refine iteFF (decide_eq_false c) ?_
      walk_at "rd"
      refine ⟨fun mm σ H' => Same H H' ∧ ∃ y : Int, y ≤ z ∧ σ = [some (.int t), some (.int (t / 86400)), some (.int y)] ∧ mm = (z - y).toNat, ⟨_, S1, _, yz, rfl, rfl⟩, fun mm σ H2 wv => ?_⟩
      obtain ⟨S2, y2, yz2, rfl, rfl⟩ := wv
      walk_at "rd"
      by_cases d : ysOf (y2 + 1) ≤ t / 86400
      · have y2z : y2 < z := by
          rcases Int.lt_or_le y2 z with g | g
          · exact g
          · have := ys_le (show z + 1 ≤ y2 + 1 by omega); omega
        refine iteTT (decide_eq_true d) ⟨fun σ' H'' => Same H H'' ∧ σ' = [some (.int t), some (.int (t / 86400)), some (.int (y2 + 1))], fun σ' H'' nx => ?_, ?_⟩
        · obtain ⟨S6, rfl⟩ := nx
          exact ⟨_, by omega, S6, _, by omega, rfl, rfl⟩
        · walk_at "rd"
          exact ⟨S2, rfl⟩
      · have e : y2 = z := by
          rcases Int.lt_or_le y2 z with g | g
          · have := ys_le (show y2 + 1 ≤ z by omega); omega
          · omega
        refine iteFF (decide_eq_false d) ?_
        walk_at "rd"
        rw [e]
        exact k H2 S2
end
end Cf
namespace Cf
open PySem L2
set_option hygiene false
local macro_rules | `(tactic| walk_at "len") => `(tactic| repeat (first | (obtain ⟨e, _⟩ := h; subst e; rfl; done) | (obtain ⟨_, h⟩ := h)))
local macro_rules | `(tactic| walk_at "rd") => `(tactic| repeat (first | refine ⟨_, rfl, ?_⟩ | refine ⟨_, _, rfl, rfl, ?_⟩ | refine ⟨rfl, ?_⟩ | refine ⟨_, _, rfl, ?_⟩))
local macro_rules | `(tactic| walk_at "yes") => `(tactic| (dsimp only [tYes]; rw [if_pos rfl]))
set_option hygiene true
section
variable {P : Program} {w : World} {K : PySem.W.Frag} {mg : Str → Option Value} {base : Heap}
/-! ### a world: what a zone is made of -/
theorem lt1 {n : Nat} (h : n + 64 < cLine) : n + 1 < cLine := by omega
def wK (o : Int) (L : Addr) (vr vt : V) : List (Key × V) := [(Sum.inr "offset", V.int o), (Sum.inr "changes", V.ref L), (Sum.inr "rule", vr), (Sum.inr "since", vt)]
theorem wK_off {o : Int} {L : Addr} {a b : V} : valV (wK o L a b) (Sum.inr ("offset" : Str) : Key) = some (V.int o) := by
  unfold wK
  exact valV_pos rfl
theorem wK_chs {o : Int} {L : Addr} {a b : V} : valV (wK o L a b) (Sum.inr ("changes" : Str) : Key) = some (V.ref L) := by
  unfold wK
  rw [valV_neg (nkk (by decide +kernel))]
  exact valV_pos rfl
theorem wK_rule {o : Int} {L : Addr} {a b : V} : valV (wK o L a b) (Sum.inr ("rule" : Str) : Key) = some a := by
  unfold wK
  rw [valV_neg (nkk (by decide +kernel)), valV_neg (nkk (by decide +kernel))]
  exact valV_pos rfl
theorem wK_since {o : Int} {L : Addr} {a b : V} : valV (wK o L a b) (Sum.inr ("since" : Str) : Key) = some b := by
  unfold wK
  rw [valV_neg (nkk (by decide +kernel)), valV_neg (nkk (by decide +kernel)), valV_neg (nkk (by decide +kernel))]
  exact valV_pos rfl
structure WAt (H : Hp) (W : Addr) (o : Int) (chs : List (Int × Int)) (rl : Option (Int × List Row)) : Prop where
  ex : ∃ (L : Addr) (vr vt : V), H W = some (.dK (wK o L vr vt)) ∧ PlsAt H L chs ∧ Given H chs vr vt rl
  o0 : -86399 ≤ o
  o1 : o ≤ 86399
  asc : AscC 0 chs
  len : chs.length ≤ 1000
theorem Given.same {H H' : Hp} {chs : List (Int × Int)} {a b : V} {rl : Option (Int × List Row)} (g : Given H chs a b rl) (s : Same H H') : Given H' chs a b rl := by
  cases g with
  | no => exact .no
  | yes R ok tu al bel s0 => exact .yes (R.same s) ok tu al bel s0
theorem WAt.same {H H' : Hp} {W : Addr} {o : Int} {chs : List (Int × Int)} {rl : Option (Int × List Row)} (h : WAt H W o chs rl) (s : Same H H') : WAt H' W o chs rl := by
  obtain ⟨L, a, b, e, p, g⟩ := h.ex
  exact ⟨⟨L, a, b, s _ _ e, PlsAt.same p s, g.same s⟩, h.o0, h.o1, h.asc, h.len⟩
def spLOff : Sp := fun vs H Q _ => ∃ (W : Addr) (o t : Int) (chs : List (Int × Int)) (rl : Option (Int × List Row)), vs = [.ref W, .int t] ∧ WAt H W o chs rl ∧ ∀ H', Same H H' → Q (.int (zOff o chs rl t)) H'
theorem scLawOffset : FnScope ["world", "instant", "scheme", "found", "pairs", "begin", "offset"] ["world", "instant"] (defScope sLawOffset) := ⟨rfl, rfl, rfl, by decide +kernel, rfl, by decide +kernel, by decide +kernel⟩
set_option maxHeartbeats 1000000 in
theorem ok_loff {f : Addr} {fd : FuncData} (F : Fun K "_law_offset" "_law_offset" sLawOffset f fd) (D_law_turns : Df P w K mg base 4 "_law_turns" ["scheme", "year"] [] spTurns) (D_law_year : Df P w K mg base 2 "_law_year" ["instant"] [] spLYear) : FnOk P w K mg base CX0 5 f fd ["world", "instant"] spLOff := by
  refine F.ok scLawOffset (fun vs H Q E h => ?_) (fun cdv A outer s H vs Q E hr h => ?_)
  · obtain ⟨_, _, _, _, _, rfl, _⟩ := h
    rfl
  · obtain ⟨W, o, t, chs, rl, rfl, WA, k⟩ := h
    have nd := scLawOffset.nd
    have hu := hr.units
    obtain ⟨L, vr, vt, hW, pl, gv⟩ := WA.ex
    refine ⟨_, (pss_cons (ps_par (i := 2) (j := 3) (by rfl) nd rfl rfl (by decide) rfl rfl (pa_cons (pe_dget (lt1 hu) (pv 0) pe_str (fun _ _ => rfl)) (pa_cons (pe_dget (lt1 hu) (pv 0) pe_str (fun _ _ => rfl)) pa_nil)) (by rfl))
      (pss_cons (ps_set (i := 4) nd rfl (Or.inl rfl) (pe_dget (lt1 hu) (pv 0) pe_str (fun _ _ => rfl)))
      (C8.pss_cut (ps_if (PW.pt (pw_and (pt_cmpR op_notN (pv 2) pe_non (nomark _)) (pw_and1 (pt_cmpR op_ge (pv 1) (pe_dget (lt1 hu) (pv 0) pe_str (fun _ _ => rfl)) (nomark _)))))
        (pss_one (ps_par (i := 3) (j := 4) (by rfl) nd rfl rfl (by decide) rfl rfl (pa_cons (pe_ix ix_tup (pe_ix ix_tup (pv 2) (pe_un un_neg pe_int) (fun _ _ => rfl)) pe_int (fun _ _ => rfl)) (pa_cons (pe_df D_law_turns (hr.mono (by decide)) (pa_cons (pv 2) (pa_cons (pe_df D_law_year (hr.mono (by decide)) (pa_cons (pv 1) pa_nil)) pa_nil))) pa_nil)) (by rfl)))
        pss_nil)
      (pss_cons (ps_for PassesOwn.never rfl (pi_list (pv 4)) (pg_tup (by rfl) (pgs_cons (pg_name (i := 5) nd rfl (Or.inl rfl)) (pgs_cons (pg_name (i := 6) nd rfl (Or.inl rfl)) pgs_nil)))
        (pss_one (ps_if (pt_cmpR op_le (pv 5) (pv 1) (nomark _))
          (pss_one (ps_set (i := 3) nd rfl (Or.inl rfl) (pv 6)))
          pss_nil)))
      (pss_one (ps_ret (pv 3))))))), ?_⟩
    have gOff : ∀ H', Same H H' → DGet H' W (.str ("offset" : Str)) (some (.int o)) := fun H' s => .inl ⟨_, Sum.inr "offset", .inl (s _ _ hW), rfl, wK_off.symm⟩
    have gChs : ∀ H', Same H H' → DGet H' W (.str ("changes" : Str)) (some (.ref L)) := fun H' s => .inl ⟨_, Sum.inr "changes", .inl (s _ _ hW), rfl, wK_chs.symm⟩
    have gRul : ∀ H', Same H H' → DGet H' W (.str ("rule" : Str)) (some vr) := fun H' s => .inl ⟨_, Sum.inr "rule", .inl (s _ _ hW), rfl, wK_rule.symm⟩
    have gSin : ∀ H', Same H H' → DGet H' W (.str ("since" : Str)) (some vt) := fun H' s => .inl ⟨_, Sum.inr "since", .inl (s _ _ hW), rfl, wK_since.symm⟩
    walk_at "rd"
    refine ⟨W, _, rfl, gRul _ (Same.refl _), ?_⟩
    walk_at "rd"
    refine ⟨W, _, rfl, gOff _ (Same.refl _), ?_⟩
    walk_at "rd"
    refine ⟨W, _, rfl, gChs _ (Same.refl _), ?_⟩
    walk_at "rd"
    refine ⟨fun σ' H' => (Same H H' ∧ ∃ (f0 : Int) (L0 : Addr) (ps : List (Int × Int)), PlsAt H' L0 ps ∧ runOff f0 ps t = zOff o chs rl t ∧ σ' = [some (.ref W), some (.int t), some vr, some (.int f0), some (.ref L0), none, none]), ?_, ?_⟩
    · walk_at "rd"
      cases gv with
      | no =>
        walk_at "rd"
        exact ⟨Same.refl _, o, L, chs, pl, rfl, rfl⟩
      | @yes p since rs Rl ok tu al bel s0 =>
        walk_at "rd"
        refine ⟨W, _, rfl, gSin _ (Same.refl _), ?_⟩
        walk_at "rd"
        by_cases c : since ≤ t
        · refine iteTT (decide_eq_true c) ?_
          obtain ⟨qs, hq, rows⟩ := Rl.ex
          have two := ok.two
          have lq : qs.length = rs.length := rows.length
          obtain ⟨pz, hpz⟩ : ∃ pz, qs[qs.length - 1]? = some pz := ⟨_, List.getElem?_eq_getElem (by omega)⟩
          obtain ⟨rz, hrz, Rz⟩ := paired_get' rows _ pz hpz
          obtain ⟨yz, hrowz, _⟩ := Rz.ex
          have pv0 : prevOff rs 0 = rz.off := by
            unfold prevOff
            rw [if_pos rfl, ← lq, hrz]
            rfl
          walk_at "rd"
          refine ⟨p, _, _, _, rfl, rfl, SqT.of hq, atI_prev (i := 0) (v := V.ref pz) (by rw [List.length_map]; omega) (by rw [if_pos rfl, List.length_map, List.getElem?_map, hpz]; rfl), ?_⟩
          walk_at "rd"
          refine ⟨pz, _, _, _, rfl, rfl, SqT.of hrowz, atI_nat (j := 3) rfl, ?_⟩
          walk_at "rd"
          refine fun H1 S1 => ?_
          walk_at "rd"
          refine ⟨p, rs, _, rfl, Rl.same S1, ok, fun H2 L2 S2 nL pl2 => ?_⟩
          walk_at "rd"
          refine ⟨S1.trans S2, _, L2, tps rs (yrOf t), pl2, ?_, rfl⟩
          show runOff rz.off (tps rs (yrOf t)) t = if since ≤ t then rOff rs t else runOff o chs t
          rw [if_pos c, ← pv0]
          rfl
        · refine iteFF (decide_eq_false c) ?_
          walk_at "rd"
          exact ⟨Same.refl _, o, L, chs, pl, (if_neg c).symm, rfl⟩
    · rintro σ' H1 ⟨S1, f0, L0, ps, ⟨ts, hL0, pr⟩, er, rfl⟩
      have tl : ts.length = ps.length := pr.length
      walk_at "rd"
      refine ⟨⟨_, SqL.of hL0⟩, for_list (K := K) (a := L0) (xs := ts.map V.ref) (fun i σ H' => Same H1 H' ∧ ∃ v5 v6 : Option V, σ = [some (.ref W), some (.int t), some vr, some (.int (runOff f0 (ps.take i) t)), some (.ref L0), v5, v6])
        ⟨Same.refl _, _, _, rfl⟩ (fun i σ H' hi inv => SqL.of (inv.1 _ _ hL0)) (fun i y' σ H3 hy inv => ?_) fun σ H3 inv => ?_⟩
      · obtain ⟨S3, v5, v6, rfl⟩ := inv
        obtain ⟨u, p, rfl, hu', hp, ep⟩ := pls_get pr hy
        refine ⟨u, _, rfl, SqT.of (S3 _ _ ep), rfl, ?_⟩
        have et : ps.take (i + 1) = ps.take i ++ [p] := by rw [List.take_succ, hp]; rfl
        have ef := run_snoc f0 p (ps.take i) t
        rw [← et] at ef
        walk_at "rd"
        by_cases c : p.1 ≤ t
        · refine iteTT (decide_eq_true c) ?_
          walk_at "rd"
          rw [if_pos c] at ef
          exact ⟨S3, some (.int p.1), some (.int p.2), by rw [ef]; rfl⟩
        · refine iteFF (decide_eq_false c) ?_
          walk_at "rd"
          rw [if_neg c] at ef
          exact ⟨S3, some (.int p.1), some (.int p.2), by rw [ef]; rfl⟩
      · obtain ⟨S3, v5, v6, rfl⟩ := inv
        rw [List.take_of_length_le (by rw [List.length_map]; omega), er]
        walk_at "rd"
        exact k H3 (S1.trans S3)
end
end Cf
namespace Cf
open PySem L2
set_option hygiene false
local macro_rules | `(tactic| walk_at "len") => `(tactic| repeat (first | (obtain ⟨e, _⟩ := h; subst e; rfl; done) | (obtain ⟨_, h⟩ := h)))
local macro_rules | `(tactic| walk_at "rd") => `(tactic| repeat (first | refine ⟨_, rfl, ?_⟩ | refine ⟨_, _, rfl, rfl, ?_⟩ | refine ⟨rfl, ?_⟩ | refine ⟨_, _, rfl, ?_⟩))
local macro_rules | `(tactic| walk_at "yes") => `(tactic| (dsimp only [tYes]; rw [if_pos rfl]))
set_option hygiene true
section
variable {P : Program} {w : World} {K : PySem.W.Frag} {mg : Str → Option Value} {base : Heap}
/-! ### _law_changes -/
theorem AscC.snoc {p : Int × Int} : ∀ {ps : List (Int × Int)} {b : Int}, AscC b ps → b < p.1 → (∀ q ∈ ps, q.1 < p.1) → (-86399 ≤ p.2 ∧ p.2 ≤ 86399) → AscC b (ps ++ [p])
  | [], _, _, h1, _, h3 => ⟨h1, h3, trivial⟩
  | q :: ps, _, a, _, h2, h3 => ⟨a.1, a.2.1, a.2.2.snoc (h2 q (List.mem_cons_self ..)) (fun r hr => h2 r (List.mem_cons_of_mem _ hr)) h3⟩
structure Chs (H0 : Hp) (p a b L : Addr) (n : Nat) (H : Hp) (ps : List (Int × Int)) : Prop where
  st : Stt p a b n H
  but : But p a H0 H
  pl : PlsAt H L ps
  asc : AscC 0 ps
theorem PlsAt.ts {H H' : Hp} {L : Addr} {ps : List (Int × Int)} (h : PlsAt H L ps) (t : TSame H H') (e : ∀ o, H L = some o → H' L = some o) : PlsAt H' L ps := by
  obtain ⟨ts, hL, r⟩ := h
  exact ⟨ts, e _ hL, Paired.mapP r fun a b x => t _ _ x⟩
theorem Chs.go {H0 H H' : Hp} {p a b L : Addr} {n n' : Nat} {ps : List (Int × Int)} (G : Chs H0 p a b L n H ps) (B : But p a H H') (S : Stt p a b n' H') (h1 : L ≠ p) (h2 : L ≠ a) : Chs H0 p a b L n' H' ps :=
  ⟨S, G.but.trans B, G.pl.ts (G.st.ts B) fun o e => B _ _ e h1 h2, G.asc⟩
def spLChs : Sp := fun vs H Q _ => ∃ (p a b : Addr) (n : Nat) (m : Int), vs = [.ref p, .int m] ∧ Stt p a b n H ∧ n ≤ 700000 ∧ 0 ≤ m ∧ m ≤ 20 ∧
  ∀ (L : Addr) (ps : List (Int × Int)) (H' : Hp), H L = none → L ≠ p → L ≠ a → L ≠ b → PlsAt H' L ps → AscC 0 ps → ps.length ≤ 20 → Stt p a b (n + 400) H' → But p a H H' → Q (.ref L) H'
theorem scLawChanges : FnScope ["state", "most", "found", "begin", "turn", "gaps", "some"] ["state", "most"] (defScope sLawChanges) := ⟨rfl, rfl, rfl, by decide +kernel, rfl, by decide +kernel, by decide +kernel⟩
set_option maxHeartbeats 2000000 in
theorem ok_lchs {f : Addr} {fd : FuncData} (F : Fun K "_law_changes" "_law_changes" sLawChanges f fd) (T : Nm mg) (D_law_take : Df P w K mg base 2 "_law_take" ["state", "size"] [] spTake) (D_law_pick : Df P w K mg base 3 "_law_pick" ["state", "some"] [] spPick) : FnOk P w K mg base CX0 4 f fd ["state", "most"] spLChs := by
  refine F.ok scLawChanges (fun vs H Q E h => ?_) (fun cdv A outer s H vs Q E hr h => ?_)
  · obtain ⟨_, _, _, _, _, rfl, _⟩ := h
    rfl
  · obtain ⟨p, a, b, n, m, rfl, S, hn, m0, m20, k⟩ := h
    have nd := scLawChanges.nd
    have hu := hr.units
    refine ⟨_, (pss_cons (ps_par (i := 2) (j := 3) (by rfl) nd rfl rfl (by decide) rfl rfl (pa_cons (pe_lst pa_nil) (pa_cons pe_int pa_nil)) (by rfl))
      (pss_cons (ps_for PassesOwn.never rfl (pi_range1 (by rfl) T.range (pa_cons (pe_df D_law_take (hr.mono (by decide)) (pa_cons (pv 0) (pa_cons (pe_op op_add (pv 1) pe_int) pa_nil))) pa_nil)) (pg_name (i := 4) nd rfl (Or.inl rfl))
        (pss_cons (ps_set (i := 5) nd rfl (Or.inl rfl) (pe_lst (pa_cons (pe_op op_add pe_int (pe_df D_law_take (hr.mono (by decide)) (pa_cons (pv 0) (pa_cons pe_int pa_nil)))) (pa_cons (pe_op op_mul pe_int (pe_op op_add pe_int (pe_df D_law_take (hr.mono (by decide)) (pa_cons (pv 0) (pa_cons pe_int pa_nil))))) pa_nil))))
        (pss_cons (ps_expr (pe_bm PySem.F.plainAttrs_list PySem.F.slot_list_append PySem.F.type_list_append mt_append (pv 5) (pa_cons (pe_op op_mul pe_int (pe_op op_add pe_int (pe_df D_law_take (hr.mono (by decide)) (pa_cons (pv 0) (pa_cons pe_int pa_nil))))) pa_nil)))
        (pss_cons (ps_set (i := 3) nd rfl (Or.inl rfl) (pe_op op_add (pv 3) (pe_df D_law_pick (hr.mono (by decide)) (pa_cons (pv 0) (pa_cons (pv 5) pa_nil)))))
        (pss_cons (ps_set (i := 6) nd rfl (Or.inl rfl) (pe_lst (pa_cons (pe_op op_mul pe_int (pe_op op_sub (pe_df D_law_take (hr.mono (by decide)) (pa_cons (pv 0) (pa_cons pe_int pa_nil))) pe_int)) (pa_cons (pe_op op_mul pe_int (pe_op op_sub (pe_df D_law_take (hr.mono (by decide)) (pa_cons (pv 0) (pa_cons pe_int pa_nil))) pe_int)) (pa_cons pe_int (pa_cons (pe_un un_neg pe_int) (pa_cons pe_int pa_nil)))))))
        (pss_one (ps_expr (pe_bm PySem.F.plainAttrs_list PySem.F.slot_list_append PySem.F.type_list_append mt_append (pv 2) (pa_cons (pe_tup (pa_cons (pv 3) (pa_cons (pe_ix ix_list (pv 6) (pe_df D_law_pick (hr.mono (by decide)) (pa_cons (pv 0) (pa_cons (pe_lst (pa_cons pe_int (pa_cons pe_int (pa_cons pe_int (pa_cons pe_int (pa_cons pe_int (pa_cons pe_int (pa_cons pe_int (pa_cons pe_int pa_nil))))))))) pa_nil))) (fun _ _ => rfl)) pa_nil))) pa_nil)))))))))
      (pss_one (ps_ret (pv 2))))), ?_⟩
    walk_at "rd"
    refine ⟨szle (by simp), fun L hL => ?_⟩
    have far := S.far hL
    have G0 : Chs H p a b L n (upd H L (.lst [])) [] := ⟨S.same (Same.new hL), But.of (Same.new hL), ⟨[], upd_same, .nil⟩, trivial⟩
    generalize (upd H L (.lst [])) = H0 at *
    walk_at "rd"
    refine ⟨p, a, b, _, _, rfl, G0.st, by omega, by omega, by omega, fun z H1 z0 z1 S1 B1 => ?_⟩
    have G1 := G0.go B1 S1 far.1 far.2.1
    obtain ⟨zn, rfl⟩ : ∃ zn : Nat, z = (zn : Int) := ⟨z.toNat, by omega⟩
    walk_at "rd"
    refine ⟨by omega, by omega, for_range (n := zn) (fun i σ H' => (∃ (ps : List (Int × Int)) (bg : Int), Chs H p a b L (n + 1 + 10 * i) H' ps ∧ ps.length = i ∧ 0 ≤ bg ∧ (∀ q ∈ ps, q.1 ≤ bg) ∧ ∃ v4 v5 v6 : Option V, σ = [some (.ref p), some (.int m), some (.ref L), some (.int bg), v4, v5, v6])) ⟨[], 0, G1, rfl, by omega, fun q h => absurd h (by simp), _, _, _, rfl⟩ ?_ ?_⟩
    · rintro i σ H2 hi ⟨ps, bg, G2, lp, b0, bq, v4, v5, v6, rfl⟩
      have li : i < 21 := by omega
      walk_at "rd"
      refine ⟨p, a, b, _, _, rfl, G2.st, by omega, by decide, by decide, fun x1 H3 x10 x11 S3 B3 => ?_⟩
      have G3 := G2.go B3 S3 far.1 far.2.1
      walk_at "rd"
      refine ⟨p, a, b, _, _, rfl, S3, by omega, by decide, by decide, fun x2 H4 x20 x21 S4 B4 => ?_⟩
      have G4 := G3.go B4 S4 far.1 far.2.1
      walk_at "rd"
      refine ⟨.inl ⟨by decide, by decide⟩, ?_⟩
      walk_at "rd"
      refine ⟨szle (by simp), fun g hg => ?_⟩
      have eg : (upd H4 g (.lst [V.int (1 + x1), V.int (3600 * (1 + x2))])) g = some (.lst [V.int (1 + x1), V.int (3600 * (1 + x2))]) := upd_same
      have ng := S4.far hg
      have gL : g ≠ L := fun e => by obtain ⟨ts, hh, _⟩ := G4.pl; rw [e, hh] at hg; cases hg
      have G5 := G4.go (But.of (Same.new (o := .lst [V.int (1 + x1), V.int (3600 * (1 + x2))]) hg)) (S4.same (Same.new hg)) far.1 far.2.1
      generalize (upd H4 g (.lst [V.int (1 + x1), V.int (3600 * (1 + x2))])) = H5 at *
      walk_at "rd"
      refine ⟨.inl ⟨rfl, _, SqL.of eg⟩, ?_⟩
      walk_at "rd"
      refine ⟨p, a, b, _, _, rfl, G5.st, by omega, by decide, by decide, fun x3 H6 x30 x31 S6 B6 => ?_⟩
      have G6 := G5.go B6 S6 far.1 far.2.1
      have eg := B6 _ _ eg ng.1 ng.2.1
      walk_at "rd"
      refine ⟨.inl ⟨by decide, by decide⟩, ?_⟩
      walk_at "rd"
      refine ⟨g, _, _, rfl, rfl, eg, szl (by simp), ?_⟩
      have eg7 : (upd H6 g (.lst ([V.int (1 + x1), V.int (3600 * (1 + x2))] ++ [V.int (86400 * (1 + x3))]))) g = some (.lst ([1 + x1, 3600 * (1 + x2), 86400 * (1 + x3)].map V.int)) := upd_same
      have G7 : Chs H p a b L (n + 1 + 10 * i + 3) (upd H6 g (.lst ([V.int (1 + x1), V.int (3600 * (1 + x2))] ++ [V.int (86400 * (1 + x3))]))) ps := by
        have keep : TSame H6 (upd H6 g (.lst ([V.int (1 + x1), V.int (3600 * (1 + x2))] ++ [V.int (86400 * (1 + x3))]))) := fun c vs e => by
          have : c ≠ g := fun z => by rw [z, eg] at e; cases e
          rw [upd_ne this]; exact e
        refine ⟨G6.st.put ng.1 ng.2.1 ng.2.2, fun c o e h1 h2 => ?_, G6.pl.ts keep fun o e => by rw [upd_ne (Ne.symm gL)]; exact e, G6.asc⟩
        have : c ≠ g := fun z => by rw [z] at e h1 h2; rw [G4.but _ _ e h1 h2] at hg; cases hg
        rw [upd_ne this]
        exact G6.but c o e h1 h2
      generalize (upd H6 g (.lst ([V.int (1 + x1), V.int (3600 * (1 + x2))] ++ [V.int (86400 * (1 + x3))]))) = H7 at *
      walk_at "rd"
      refine ⟨p, a, b, g, _, _, rfl, G7.st, by omega, eg7, ng.1, ng.2.1, by show 0 < 3; decide, by show 3 ≤ 1000; decide, fun ig vg H8 hvg S8 B8 => ?_⟩
      obtain ⟨gap, rfl, hgap⟩ := ints_mem (ns := [1 + x1, 3600 * (1 + x2), 86400 * (1 + x3)]) hvg
      have gp : 1 ≤ gap := by simp at hgap; omega
      have G8 := G7.go B8 S8 far.1 far.2.1
      walk_at "rd"
      refine ⟨p, a, b, _, _, rfl, S8, by omega, by decide, by decide, fun y1 H9 y10 y11 S9 B9 => ?_⟩
      have G9 := G8.go B9 S9 far.1 far.2.1
      walk_at "rd"
      refine ⟨.inl ⟨by decide, by decide⟩, ?_⟩
      walk_at "rd"
      refine ⟨p, a, b, _, _, rfl, S9, by omega, by decide, by decide, fun y2 HA y20 y21 SA BA => ?_⟩
      have GA := G9.go BA SA far.1 far.2.1
      walk_at "rd"
      refine ⟨.inl ⟨by decide, by decide⟩, ?_⟩
      walk_at "rd"
      refine ⟨szle (by simp), fun sm hsm => ?_⟩
      have esm : (upd HA sm (.lst [V.int (3600 * (y1 - 12)), V.int (60 * (y2 - 1000)), V.int 86399, V.int (-86399), V.int 0])) sm = some (.lst ([3600 * (y1 - 12), 60 * (y2 - 1000), 86399, -86399, 0].map V.int)) := upd_same
      have nsm := SA.far hsm
      have GB := GA.go (But.of (Same.new (o := .lst [V.int (3600 * (y1 - 12)), V.int (60 * (y2 - 1000)), V.int 86399, V.int (-86399), V.int 0]) hsm)) (SA.same (Same.new hsm)) far.1 far.2.1
      generalize (upd HA sm (.lst [V.int (3600 * (y1 - 12)), V.int (60 * (y2 - 1000)), V.int 86399, V.int (-86399), V.int 0])) = HB at *
      obtain ⟨tsB, eLB, _⟩ := id GB.pl
      walk_at "rd"
      refine ⟨.inl ⟨rfl, _, SqL.of eLB⟩, ?_⟩
      walk_at "rd"
      refine ⟨szle (by simp), fun ld hld => ?_⟩
      have Wd := pick_new GB.st hld ([0, 0, 0, 1, 1, 2, 3, 4].map V.int)
      walk_at "rd"
      refine ⟨p, a, b, ld, _, _, rfl, Wd.1, by omega, Wd.2.1, Wd.2.2.1, Wd.2.2.2, by show 0 < 8; decide, by show 8 ≤ 1000; decide, fun id vd HC hvd SC bC => ?_⟩
      have BC := (But.of (Same.new (o := .lst ([0, 0, 0, 1, 1, 2, 3, 4].map V.int)) hld)).trans bC
      have GC := GB.go BC SC far.1 far.2.1
      have esm := BC _ _ esm nsm.1 nsm.2.1
      obtain ⟨ix, rfl, hix⟩ := ints_mem (ns := [0, 0, 0, 1, 1, 2, 3, 4]) hvd
      have ixb : 0 ≤ ix ∧ ix ≤ 4 := by simp at hix; omega
      walk_at "rd"
      obtain ⟨off, hoff, ofb⟩ : ∃ off : Int, [3600 * (y1 - 12), 60 * (y2 - 1000), 86399, -86399, 0][ix.toNat]? = some off ∧ -86399 ≤ off ∧ off ≤ 86399 := by
        have c : ix = 0 ∨ ix = 1 ∨ ix = 2 ∨ ix = 3 ∨ ix = 4 := by omega
        rcases c with c | c | c | c | c <;> subst c <;> exact ⟨_, rfl, by omega, by omega⟩
      refine ⟨sm, _, _, .int off, rfl, rfl, SqL.of esm, at_of (j := ix.toNat) (by omega) (by rw [List.getElem?_map, hoff]; rfl), ?_⟩
      walk_at "rd"
      refine ⟨szle (by simp), fun tt htt => ?_⟩
      have GD := GC.go (But.of (Same.new (o := .tup [V.int (bg + gap), V.int off]) htt)) (SC.same (Same.new htt)) far.1 far.2.1
      have gD : (upd HC tt (.tup [V.int (bg + gap), V.int off])) tt = some (.tup [V.int (bg + gap), V.int off]) := upd_same
      generalize (upd HC tt (.tup [V.int (bg + gap), V.int off])) = HD at *
      obtain ⟨ts, eL, pr⟩ := GD.pl
      have lt : ts.length = i := by rw [pr.length, lp]
      walk_at "rd"
      refine ⟨L, _, _, rfl, rfl, eL, by rw [List.length_map, lt]; exact szl (by omega), ?_⟩
      have keep : TSame HD (upd HD L (.lst (ts.map V.ref ++ [.ref tt]))) := fun c vs e => by
        have : c ≠ L := fun z => by rw [z, eL] at e; cases e
        rw [upd_ne this]; exact e
      walk_at "rd"
      refine ⟨ps ++ [(bg + gap, off)], bg + gap, ⟨(GD.st.put far.1 far.2.1 far.2.2).mono (by omega), fun c o e h1 h2 => ?_, ⟨ts ++ [tt], by rw [upd_same, List.map_append]; rfl, Paired.snoc (Paired.mapP pr fun x y z => keep _ _ z) (keep _ _ gD)⟩, G2.asc.snoc (by show 0 < bg + gap; omega) (fun q hq => by have := bq q hq; show q.1 < bg + gap; omega) ofb⟩, by rw [List.length_append, lp]; rfl, by omega, fun q hq => ?_, _, _, _, rfl⟩
      · have : c ≠ L := fun z => by rw [z, hL] at e; cases e
        rw [upd_ne this]
        exact GD.but c o e h1 h2
      · rcases List.mem_append.mp hq with z | z
        · have := bq q z; omega
        · rw [List.mem_singleton.mp z]; exact Int.le_refl _
    · rintro σ H2 ⟨ps, bg, G2, lp, b0, bq, v4, v5, v6, rfl⟩
      walk_at "rd"
      exact k L ps H2 hL far.1 far.2.1 far.2.2 G2.pl G2.asc (by omega) (G2.st.mono (by omega)) G2.but
end
end Cf
namespace Cf
open PySem L2
set_option hygiene false
local macro_rules | `(tactic| walk_at "len") => `(tactic| repeat (first | (obtain ⟨e, _⟩ := h; subst e; rfl; done) | (obtain ⟨_, h⟩ := h)))
local macro_rules | `(tactic| walk_at "rd") => `(tactic| repeat (first | refine ⟨_, rfl, ?_⟩ | refine ⟨_, _, rfl, rfl, ?_⟩ | refine ⟨rfl, ?_⟩ | refine ⟨_, _, rfl, ?_⟩))
local macro_rules | `(tactic| walk_at "yes") => `(tactic| (dsimp only [tYes]; rw [if_pos rfl]))
set_option hygiene true
section
variable {P : Program} {w : World} {K : PySem.W.Frag} {mg : Str → Option Value} {base : Heap}
/-! ### _law_zone -/
theorem dp_pairs {H : Hp} : ∀ {ts : List Addr} {ps : List (Int × Int)}, Paired (fun t p => H t = some (.tup [.int p.1, .int p.2])) ts ps → DpAll K H (ts.map V.ref) (ps.map fun p => PyData.tuple [.int p.1, .int p.2])
  | _, _, .nil => .nil
  | _, _, .cons r rs => .cons (.tup (SqT.of r) (.cons (.int _) (.cons (.int _) .nil))) (dp_pairs rs)
theorem lay_pairs : ∀ ps : List (Int × Int), PyData.canLayAll0 (ps.map fun p => PyData.tuple [.int p.1, .int p.2]) = true
  | [] => rfl
  | p :: ps => by simp [PyData.canLayAll0, PyData.canLay0, lay_pairs ps]
theorem depth_pairs : ∀ ps : List (Int × Int), PyData.depthAll (ps.map fun p => PyData.tuple [.int p.1, .int p.2]) ≤ 3
  | [] => by simp [PyData.depthAll]
  | p :: ps => by
    have := depth_pairs ps
    simp [PyData.depthAll, PyData.depth]
    omega
theorem shaped_pairs (ps : List (Int × Int)) : SeqAt.shaped (.list (ps.map fun p => PyData.tuple [.int p.1, .int p.2])) = true := by
  unfold SeqAt.shaped
  rw [Bool.and_eq_true]
  refine ⟨by simp [PyData.canLay0, lay_pairs ps], decide_eq_true ?_⟩
  have := depth_pairs ps
  simp [PyData.depth]
  omega
theorem eqv_pairs (ps : List (Int × Int)) : PyData.eqv (.list (ps.map fun p => PyData.tuple [.int p.1, .int p.2])) (.list (ps.map fun p => PyData.tuple [.int p.1, .int p.2])) = true := SeqAt.eqv_refl _ (SeqAt.canLay_of_shaped (shaped_pairs ps))
theorem shaped_pair (y i : Int) : SeqAt.shaped (.tuple [.int y, .int i]) = true := by
  unfold SeqAt.shaped
  rw [Bool.and_eq_true]
  exact ⟨by simp [PyData.canLay0, PyData.canLayAll0], decide_eq_true (by simp [PyData.depth, PyData.depthAll])⟩
theorem dp_pls {H : Hp} {L : Addr} {ps : List (Int × Int)} (h : PlsAt H L ps) : Dp K H (.ref L) (.list (ps.map fun p => PyData.tuple [.int p.1, .int p.2])) := by
  obtain ⟨ts, e, r⟩ := h
  exact .lst (SqL.of e) (dp_pairs r)
theorem wK_merge (o : Int) (L : Addr) (x y : V) : mergeK [] (wK o L x y) = wK o L x y := by
  unfold mergeK wK
  simp only [List.foldl_cons, List.foldl_nil]
  rw [putK_new (kvs := []) _ valV_nil, List.nil_append, putK_new, putK_new, putK_new]
  · rfl
  · rw [valV_neg (nkk (by decide +kernel)), valV_nil]
  · rw [valV_put, if_neg (nkk (by decide +kernel)), valV_neg (nkk (by decide +kernel)), valV_nil]
  · rw [valV_put, if_neg (nkk (by decide +kernel)), valV_put, if_neg (nkk (by decide +kernel)), valV_neg (nkk (by decide +kernel)), valV_nil]
section
variable {H : Hp} {p a b : Addr} {r t z : Int}
theorem wK_put_rule (o : Int) (L : Addr) (x y z : V) : putK (wK o L x y) (Sum.inr ("rule" : Str) : Key) z = wK o L z y := by
  unfold putK
  rw [valV_any, wK_rule]
  rw [if_pos (by rfl)]
  unfold wK
  simp only [List.map_cons, List.map_nil, if_neg (nkk (x := "offset") (y := "rule") (by decide +kernel)), if_neg (nkk (x := "changes") (y := "rule") (by decide +kernel)), if_neg (nkk (x := "since") (y := "rule") (by decide +kernel)), if_true]
theorem wK_put_since (o : Int) (L : Addr) (x y z : V) : putK (wK o L x y) (Sum.inr ("since" : Str) : Key) z = wK o L x z := by
  unfold putK
  rw [valV_any, wK_since]
  rw [if_pos (by rfl)]
  unfold wK
  simp only [List.map_cons, List.map_nil, if_neg (nkk (x := "offset") (y := "since") (by decide +kernel)), if_neg (nkk (x := "changes") (y := "since") (by decide +kernel)), if_neg (nkk (x := "rule") (y := "since") (by decide +kernel)), if_true]
theorem eqv_pairs_nil (ps : List (Int × Int)) : PyData.eqv (.list (ps.map fun p => PyData.tuple [.int p.1, .int p.2])) (.list []) = ps.isEmpty := by
  cases ps with
  | nil => simp [PyData.eqv, PyData.eqvAll]
  | cons p ps => simp [PyData.eqv, PyData.eqvAll]
theorem Stt.tcut {p a b : Addr} {n : Nat} {H : Hp} (S : Stt p a b n H) : TSame H (cut p a H) := fun c vs e => by
  obtain ⟨ws, cs, rest, turn, h1, h2, _⟩ := S.ex
  exact cut_of e (ne_of e h1 (by intro z; cases z)) (ne_of e h2 (by intro z; cases z))
def spLZone : Sp := fun vs H Q _ => ∃ (p a b : Addr) (n : Nat) (m : Int), vs = [.ref p, .int m] ∧ Stt p a b n H ∧ n ≤ 600000 ∧ 0 ≤ m ∧ m ≤ 20 ∧
  ∀ (W : Addr) (o : Int) (chs : List (Int × Int)) (rl : Option (Int × List Row)) (H' : Hp), WAt (cut p a H') W o chs rl → chs.length ≤ 20 → H W = none → W ≠ p → W ≠ a → W ≠ b → Stt p a b (n + 700) H' → But p a H H' → Q (.ref W) H'
theorem scLawZone : FnScope ["state", "most", "changes", "offset", "world", "last"] ["state", "most"] (defScope sLawZone) := ⟨rfl, rfl, rfl, by decide +kernel, rfl, by decide +kernel, by decide +kernel⟩
set_option maxHeartbeats 2000000 in
theorem ok_lzone {f : Addr} {fd : FuncData} (F : Fun K "_law_zone" "_law_zone" sLawZone f fd) (T : Nm mg) (D_law_take : Df P w K mg base 2 "_law_take" ["state", "size"] [] spTake) (D_law_pick : Df P w K mg base 3 "_law_pick" ["state", "some"] [] spPick) (D_law_changes : Df P w K mg base 4 "_law_changes" ["state", "most"] [] spLChs) (D_law_rule : Df P w K mg base 5 "_law_rule" ["state"] [] spRlO) : FnOk P w K mg base CX0 6 f fd ["state", "most"] spLZone := by
  refine F.ok scLawZone (fun vs H Q E h => ?_) (fun cdv A outer s H vs Q E hr h => ?_)
  · obtain ⟨_, _, _, _, _, rfl, _⟩ := h
    rfl
  · obtain ⟨p, a, b, n, m, rfl, S, hn, m0, m20, k⟩ := h
    have nd := scLawZone.nd
    have hu := hr.units
    refine ⟨_, (pss_cons (ps_par (i := 2) (j := 3) (by rfl) nd rfl rfl (by decide) rfl rfl (pa_cons (pe_df D_law_changes (hr.mono (by decide)) (pa_cons (pv 0) (pa_cons (pv 1) pa_nil))) (pa_cons (pe_op op_mul pe_int (pe_op op_sub (pe_df D_law_take (hr.mono (by decide)) (pa_cons (pv 0) (pa_cons pe_int pa_nil))) pe_int)) pa_nil)) (by rfl))
      (pss_cons (ps_set (i := 4) nd rfl (Or.inl rfl) (pe_disp (pps_cons pe_str (pv 3) (pps_cons pe_str (pv 2) (pps_cons pe_str pe_non (pps_cons pe_str pe_non pps_nil)))) (by rfl) (by rfl) (fun z => by cases z) (by decide)))
      (C8.pss_cut (ps_if (pt_cmpR op_gt (pe_df D_law_take (hr.mono (by decide)) (pa_cons (pv 0) (pa_cons pe_int pa_nil))) pe_int (nomark _))
        (pss_cons (ps_dput (lt1 hu) (pv 4) pe_str (pe_df D_law_rule (hr.mono (by decide)) (pa_cons (pv 0) pa_nil)) rfl)
        (pss_cons (ps_set (i := 5) nd rfl (Or.inl rfl) (pe_ifExp (pt_cmpR (op_neD hu) (pv 2) (pe_lst pa_nil) (nomark _)) (pe_ix ix_tup (pe_ix ix_list (pv 2) (pe_un un_neg pe_int) (fun _ _ => rfl)) pe_int (fun _ _ => rfl)) (pe_un un_neg pe_int)))
        (pss_one (ps_dput (lt1 hu) (pv 4) pe_str (pe_op op_add (pe_op op_add (pv 5) pe_int) (pe_df D_law_pick (hr.mono (by decide)) (pa_cons (pv 0) (pa_cons (pe_lst (pa_cons pe_int (pa_cons pe_int (pa_cons (pe_df D_law_take (hr.mono (by decide)) (pa_cons (pv 0) (pa_cons pe_int pa_nil))) (pa_cons (pe_df D_law_take (hr.mono (by decide)) (pa_cons (pv 0) (pa_cons pe_int pa_nil))) pa_nil))))) pa_nil)))) rfl))))
        pss_nil)
      (pss_one (ps_ret (pv 4)))))), ?_⟩
    walk_at "rd"
    refine ⟨p, a, b, n, m, rfl, S, by omega, m0, m20, fun L chs H1 nL L1 L2' L3 pl as ln S1 B1 => ?_⟩
    walk_at "rd"
    refine ⟨p, a, b, _, _, rfl, S1, by omega, by decide, by decide, fun z H2 z0 z1 S2 B2 => ?_⟩
    have pl2 := pl.ts (S1.ts B2) fun o e => B2 _ _ e L1 L2'
    walk_at "rd"
    refine ⟨.inl ⟨by decide, by decide⟩, ?_⟩
    walk_at "rd"
    refine fun W hW => ?_
    walk_at "rd"
    refine ⟨upd_same, wK (1800 * (z - 24)) L .non .non, rfl, by show 4 ≤ 15; decide, ?_⟩
    rw [wK_merge]
    have eW : (upd (upd H2 W (.dK [])) W (.dK (wK (1800 * (z - 24)) L .non .non))) W = some (.dK (wK (1800 * (z - 24)) L .non .non)) := upd_same
    have SW : Same H2 (upd (upd H2 W (.dK [])) W (.dK (wK (1800 * (z - 24)) L .non .non))) := fun c o e => by
      have : c ≠ W := fun g => by rw [g, hW] at e; cases e
      rw [upd_ne this, upd_ne this]; exact e
    generalize (upd (upd H2 W (.dK [])) W (.dK (wK (1800 * (z - 24)) L .non .non))) = H3 at *
    walk_at "rd"
    have nW := S2.far hW
    have S3 := S2.same SW
    have pl3 := PlsAt.same pl2 SW
    have B03 := (B1.trans B2).trans (But.of SW)
    have ob : -86399 ≤ 1800 * (z - 24) ∧ 1800 * (z - 24) ≤ 86399 := by omega
    have nWL : W ≠ L := fun e => by obtain ⟨ts, hh, _⟩ := pl2; rw [e, hh] at hW; cases hW
    have hW0 : H W = none := by
      cases g : H W with
      | none => rfl
      | some o => exact absurd ((B1.trans B2) _ _ g nW.1 nW.2.1) (by rw [hW]; simp)
    refine ⟨fun σ' H' => (∃ rl, WAt (cut p a H') W (1800 * (z - 24)) chs rl) ∧ Stt p a b (n + 690) H' ∧ But p a H H' ∧ ∃ v5 : Option V, σ' = [some (.ref p), some (.int m), some (.ref L), some (.int (1800 * (z - 24))), some (.ref W), v5], ?_, ?_⟩
    · walk_at "rd"
      refine ⟨p, a, b, _, _, rfl, S3, by omega, by decide, by decide, fun zz H4 zz0 zz1 S4 B4 => ?_⟩
      have pl4 := pl3.ts (S3.ts B4) fun o e => B4 _ _ e L1 L2'
      have eW4 := B4 _ _ eW nW.1 nW.2.1
      walk_at "rd"
      by_cases c : 0 < zz
      · refine iteTT (decide_eq_true c) ?_
        walk_at "rd"
        refine ⟨p, a, b, _, rfl, S4, by omega, fun t rs H5 R5 ok tu al S5 B5 => ?_⟩
        have pl5 := pl4.ts (S4.ts B5) fun o e => B5 _ _ e L1 L2'
        have eW5 := B5 _ _ eW4 nW.1 nW.2.1
        walk_at "rd"
        refine ⟨W, _, rfl, DPut.k (k := Sum.inr ("rule" : Str)) eW5 (szl (by show 4 ≤ 8000000; decide)), ?_⟩
        rw [wK_put_rule]
        have keep : TSame H5 (upd H5 W (.dK (wK (1800 * (z - 24)) L (.ref t) .non))) := fun c vs e => by
          have : c ≠ W := fun z => by rw [z, eW5] at e; cases e
          rw [upd_ne this]; exact e
        have eW6 : (upd H5 W (.dK (wK (1800 * (z - 24)) L (.ref t) .non))) W = some (.dK (wK (1800 * (z - 24)) L (.ref t) .non)) := upd_same
        have pl6 := pl5.ts keep fun o e => by rw [upd_ne (Ne.symm nWL)]; exact e
        have R6 := R5.ts keep
        have S6 := S5.put (o := .dK (wK (1800 * (z - 24)) L (.ref t) .non)) nW.1 nW.2.1 nW.2.2
        have B06 : But p a H (upd H5 W (.dK (wK (1800 * (z - 24)) L (.ref t) .non))) := fun c o e h1 h2 => by
          have : c ≠ W := fun g => by rw [g, hW0] at e; cases e
          rw [upd_ne this]
          exact ((B03.trans B4).trans B5) c o e h1 h2
        generalize (upd H5 W (.dK (wK (1800 * (z - 24)) L (.ref t) .non))) = H6 at *
        walk_at "rd"
        refine ⟨szle (by simp), fun q7 hq7 => ?_⟩
        have e7 : (upd H6 q7 (.lst [])) q7 = some (.lst []) := upd_same
        have s7 := Same.new (o := .lst []) hq7
        have pl7 := PlsAt.same pl6 s7
        have R7 := R6.same s7
        have S7 := S6.same s7
        have eW7 := s7 _ _ eW6
        have B07 := B06.trans (But.of s7)
        clear s7
        generalize (upd H6 q7 (.lst [])) = H7 at *
        refine ⟨_, _, dp_pls pl7, .lst (SqL.of e7) .nil, shaped_pairs chs, shaped_pairs [], !chs.isEmpty, by rw [eqv_pairs_nil], ?_⟩
        obtain ⟨ts7, hL7, pr7⟩ := id pl7
        have lz : ts7.length = chs.length := pr7.length
        by_cases ce : chs = []
        · subst ce
          refine iteFF rfl ?_
          walk_at "rd"
          refine ⟨p, a, b, _, _, rfl, S7, by omega, by decide, by decide, fun d1 H8 d10 d11 S8 B8 => ?_⟩
          walk_at "rd"
          refine ⟨p, a, b, _, _, rfl, S8, by omega, by decide, by decide, fun d2 H9 d20 d21 S9 B9 => ?_⟩
          walk_at "rd"
          refine ⟨szle (by simp), fun g hg => ?_⟩
          have eg : (upd H9 g (.lst [V.int 0, V.int 0, V.int d1, V.int d2])) g = some (.lst [V.int 0, V.int 0, V.int d1, V.int d2]) := upd_same
          have ng := S9.far hg
          have s10 := Same.new (o := .lst [V.int 0, V.int 0, V.int d1, V.int d2]) hg
          have S10 := S9.same s10
          have B710 := (B8.trans B9).trans (But.of s10)
          clear s10
          generalize (upd H9 g (.lst [V.int 0, V.int 0, V.int d1, V.int d2])) = H10 at *
          walk_at "rd"
          refine ⟨p, a, b, g, _, _, rfl, S10, by omega, eg, ng.1, ng.2.1, by simp, by simp, fun i v H11 hi S11 B11 => ?_⟩
          obtain ⟨gap, rfl, gap0⟩ : ∃ gap : Int, v = .int gap ∧ 0 ≤ gap := by
            match i, hi with
            | 0, hi => cases hi; exact ⟨_, rfl, by decide⟩
            | 1, hi => cases hi; exact ⟨_, rfl, by decide⟩
            | 2, hi => cases hi; exact ⟨_, rfl, d10⟩
            | 3, hi => cases hi; exact ⟨_, rfl, d20⟩
            | i + 4, hi => simp at hi
          have B711 := B710.trans B11
          have eW11 := B711 _ _ eW7 nW.1 nW.2.1
          have R11 := R7.ts (S7.ts B711)
          have pl11 := pl7.ts (S7.ts B711) fun o e => B711 _ _ e L1 L2'
          walk_at "rd"
          refine ⟨W, _, rfl, DPut.k (k := Sum.inr ("since" : Str)) eW11 (szl (by show 4 ≤ 8000000; decide)), ?_⟩
          rw [wK_put_since]
          have keep2 : TSame H11 (upd H11 W (.dK (wK (1800 * (z - 24)) L (.ref t) (.int (-1 + 1 + gap))))) := fun c vs e => by
            have : c ≠ W := fun z => by rw [z, eW11] at e; cases e
            rw [upd_ne this]; exact e
          have S12 := S11.put (o := .dK (wK (1800 * (z - 24)) L (.ref t) (.int (-1 + 1 + gap)))) nW.1 nW.2.1 nW.2.2
          have R12 := (R11.ts keep2).ts S12.tcut
          have pl12 := (pl11.ts keep2 fun o e => by rw [upd_ne (Ne.symm nWL)]; exact e).ts S12.tcut fun o e => cut_of e L1 L2'
          refine ⟨⟨_, ⟨L, _, _, cut_of upd_same nW.1 nW.2.1, pl12, .yes R12 ok tu al (fun c h => absurd h (by simp)) (by omega)⟩, ob.1, ob.2, as, by omega⟩, S12.mono (by omega), fun c o e h1 h2 => ?_, _, rfl⟩
          have hc : c ≠ W := fun g => by rw [g, hW0] at e; cases e
          rw [upd_ne hc]
          exact (B07.trans B711) c o e h1 h2
        · obtain ⟨uz, huz⟩ : ∃ uz, ts7[ts7.length - 1]? = some uz := ⟨_, List.getElem?_eq_getElem (by have : 0 < chs.length := List.length_pos_iff.mpr ce; omega)⟩
          obtain ⟨cz, hcz, ez⟩ := paired_get' pr7 _ uz huz
          refine iteTT (by cases chs with | nil => exact absurd rfl ce | cons _ _ => rfl) ?_
          walk_at "rd"
          refine ⟨L, _, _, .ref uz, rfl, rfl, SqL.of hL7, atI_prev (i := 0) (by rw [List.length_map, lz]; exact List.length_pos_iff.mpr ce) (by rw [if_pos rfl, List.length_map, List.getElem?_map, huz]; rfl), ?_⟩
          walk_at "rd"
          refine ⟨uz, _, _, _, rfl, rfl, SqT.of ez, atI_nat (j := 0) rfl, ?_⟩
          walk_at "rd"
          refine ⟨p, a, b, _, _, rfl, S7, by omega, by decide, by decide, fun d1 H8 d10 d11 S8 B8 => ?_⟩
          walk_at "rd"
          refine ⟨p, a, b, _, _, rfl, S8, by omega, by decide, by decide, fun d2 H9 d20 d21 S9 B9 => ?_⟩
          walk_at "rd"
          refine ⟨szle (by simp), fun g hg => ?_⟩
          have eg : (upd H9 g (.lst [V.int 0, V.int 0, V.int d1, V.int d2])) g = some (.lst [V.int 0, V.int 0, V.int d1, V.int d2]) := upd_same
          have ng := S9.far hg
          have s10 := Same.new (o := .lst [V.int 0, V.int 0, V.int d1, V.int d2]) hg
          have S10 := S9.same s10
          have B710 := (B8.trans B9).trans (But.of s10)
          clear s10
          generalize (upd H9 g (.lst [V.int 0, V.int 0, V.int d1, V.int d2])) = H10 at *
          walk_at "rd"
          refine ⟨p, a, b, g, _, _, rfl, S10, by omega, eg, ng.1, ng.2.1, by simp, by simp, fun i v H11 hi S11 B11 => ?_⟩
          obtain ⟨gap, rfl, gap0⟩ : ∃ gap : Int, v = .int gap ∧ 0 ≤ gap := by
            match i, hi with
            | 0, hi => cases hi; exact ⟨_, rfl, by decide⟩
            | 1, hi => cases hi; exact ⟨_, rfl, by decide⟩
            | 2, hi => cases hi; exact ⟨_, rfl, d10⟩
            | 3, hi => cases hi; exact ⟨_, rfl, d20⟩
            | i + 4, hi => simp at hi
          have B711 := B710.trans B11
          have eW11 := B711 _ _ eW7 nW.1 nW.2.1
          have R11 := R7.ts (S7.ts B711)
          have pl11 := pl7.ts (S7.ts B711) fun o e => B711 _ _ e L1 L2'
          walk_at "rd"
          refine ⟨W, _, rfl, DPut.k (k := Sum.inr ("since" : Str)) eW11 (szl (by show 4 ≤ 8000000; decide)), ?_⟩
          rw [wK_put_since]
          have keep2 : TSame H11 (upd H11 W (.dK (wK (1800 * (z - 24)) L (.ref t) (.int (cz.1 + 1 + gap))))) := fun c vs e => by
            have : c ≠ W := fun z => by rw [z, eW11] at e; cases e
            rw [upd_ne this]; exact e
          have S12 := S11.put (o := .dK (wK (1800 * (z - 24)) L (.ref t) (.int (cz.1 + 1 + gap)))) nW.1 nW.2.1 nW.2.2
          have R12 := (R11.ts keep2).ts S12.tcut
          have pl12 := (pl11.ts keep2 fun o e => by rw [upd_ne (Ne.symm nWL)]; exact e).ts S12.tcut fun o e => cut_of e L1 L2'
          refine ⟨⟨_, ⟨L, _, _, cut_of upd_same nW.1 nW.2.1, pl12, .yes R12 ok tu al (fun q hq => ?_) ?_⟩, ob.1, ob.2, as, by omega⟩, S12.mono (by omega), fun c o e h1 h2 => ?_, _, rfl⟩
          · rcases List.mem_iff_getElem?.mp hq with ⟨jq, hjq⟩
            have hle : q.1 ≤ cz.1 := by
              by_cases ee : jq = ts7.length - 1
              · rw [ee, hcz] at hjq; cases hjq; exact Int.le_refl _
              · have := (List.getElem?_eq_some_iff.mp hjq).1
                have := as.lt hjq hcz (by omega)
                omega
            omega
          · have : 0 < cz.1 := as.all _ (List.mem_of_getElem? hcz)
            omega
          · have hc : c ≠ W := fun g => by rw [g, hW0] at e; cases e
            rw [upd_ne hc]
            exact (B07.trans B711) c o e h1 h2
      · refine iteFF (decide_eq_false c) ?_
        walk_at "rd"
        exact ⟨⟨none, ⟨L, .non, .non, cut_of eW4 nW.1 nW.2.1, pl4.ts S4.tcut (fun o e => cut_of e L1 L2'), .no⟩, ob.1, ob.2, as, by omega⟩, S4.mono (by omega), B03.trans B4, _, rfl⟩
    · rintro σ' H' ⟨⟨rl, WA⟩, St, Bt, v5, rfl⟩
      walk_at "rd"
      exact k W _ chs rl H' WA ln hW0 nW.1 nW.2.1 nW.2.2 (St.mono (by omega)) Bt
end
end
end Cf
namespace Cf
open PySem L2
set_option hygiene false
local macro_rules | `(tactic| walk_at "len") => `(tactic| repeat (first | (obtain ⟨e, _⟩ := h; subst e; rfl; done) | (obtain ⟨_, h⟩ := h)))
local macro_rules | `(tactic| walk_at "rd") => `(tactic| repeat (first | refine ⟨_, rfl, ?_⟩ | refine ⟨_, _, rfl, rfl, ?_⟩ | refine ⟨rfl, ?_⟩ | refine ⟨_, _, rfl, ?_⟩))
local macro_rules | `(tactic| walk_at "yes") => `(tactic| (dsimp only [tYes]; rw [if_pos rfl]))
set_option hygiene true
section
variable {P : Program} {w : World} {K : PySem.W.Frag} {mg : Str → Option Value} {base : Heap} {C : Addr}
/-! ### _law_made -/
def gApp : List V → List V → List V := fun us ws => us ++ ws
def spMade (P : Program) (w : World) (C : Addr) : Sp := fun vs H Q _ => ∃ (W : Addr) (o : Int) (chs : List (Int × Int)) (rl : Option (Int × List Row)), vs = [.ref W] ∧ WAt H W o chs rl ∧
  ∀ (x : Addr) (H' : Hp) (o' : Int) (chs' : List (Int × Int)) (rl' : Option (Int × List Row)), Same H H' → ZAt P w C H' x o' chs' rl' → (∀ t, 0 ≤ t → zOff o' chs' rl' t = zOff o chs rl t) → Q (.ref x) H'
theorem scLawMade : FnScope ["world"] ["world"] (defScope sLawMade) := ⟨rfl, rfl, rfl, by decide +kernel, rfl, by decide +kernel, by decide +kernel⟩
set_option maxHeartbeats 1000000 in
theorem ok_made {f : Addr} {fd : FuncData} (F : Fun K "_law_made" "_law_made" sLawMade f fd) (mZ : mg "Zone" = some (.ref C)) (D_initK : DmK P w K mg base 9 C ["self", "offset", "changes", "rule", "since"] 2 ["rule", "since"] gApp (spZInit P w C)) : FnOk P w K mg base CX0 11 f fd ["world"] (spMade P w C) := by
  refine F.ok scLawMade (fun vs H Q E h => ?_) (fun cdv A outer s H vs Q E hr h => ?_)
  · obtain ⟨_, _, _, _, rfl, _⟩ := h
    rfl
  · obtain ⟨W, o, chs, rl, rfl, WA, k⟩ := h
    have nd := scLawMade.nd
    have hu := hr.units
    obtain ⟨L, vr, vt, hW, pl, gv⟩ := WA.ex
    refine ⟨_, (pss_one (ps_ret (pe_dmakeK D_initK mZ (hr.mono (by decide)) (pa_cons (pe_dget (lt1 hu) (pv 0) pe_str (fun _ _ => rfl)) (pa_cons (pe_dget (lt1 hu) (pv 0) pe_str (fun _ _ => rfl)) pa_nil)) (pk_cons (pe_dget (lt1 hu) (pv 0) pe_str (fun _ _ => rfl)) (pk_cons (pe_dget (lt1 hu) (pv 0) pe_str (fun _ _ => rfl)) pk_nil))))), ?_⟩
    have gOff : DGet H W (.str ("offset" : Str)) (some (.int o)) := .inl ⟨_, Sum.inr "offset", .inl hW, rfl, wK_off.symm⟩
    have gChs : DGet H W (.str ("changes" : Str)) (some (.ref L)) := .inl ⟨_, Sum.inr "changes", .inl hW, rfl, wK_chs.symm⟩
    have gRul : DGet H W (.str ("rule" : Str)) (some vr) := .inl ⟨_, Sum.inr "rule", .inl hW, rfl, wK_rule.symm⟩
    have gSin : DGet H W (.str ("since" : Str)) (some vt) := .inl ⟨_, Sum.inr "since", .inl hW, rfl, wK_since.symm⟩
    walk_at "rd"
    refine ⟨W, _, rfl, gOff, ?_⟩
    walk_at "rd"
    refine ⟨W, _, rfl, gChs, ?_⟩
    walk_at "rd"
    refine ⟨W, _, rfl, gRul, ?_⟩
    walk_at "rd"
    refine ⟨W, _, rfl, gSin, ?_⟩
    walk_at "rd"
    refine fun x dx hx hdx ne => ?_
    have s1 : Same H (upd (upd H dx (.own x)) x (.ins C dx [])) := fun c u e => by
      have n1 : c ≠ x := fun g => by rw [g, hx] at e; cases e
      have n2 : c ≠ dx := fun g => by rw [g, hdx] at e; cases e
      rw [upd_ne n1, upd_ne n2]; exact e
    have e1 : (upd (upd H dx (.own x)) x (.ins C dx [])) x = some (.ins C dx []) := upd_same
    generalize (upd (upd H dx (.own x)) x (.ins C dx [])) = H1 at *
    refine ⟨x, dx, L, o, chs, vr, vt, rl, rfl, e1, WA.o0, WA.o1, PlsAt.same pl s1, WA.asc, WA.len, gv.same s1, fun H' o' chs' rl' F' Z' eq => ⟨rfl, ?_⟩⟩
    refine k x H' o' chs' rl' (fun c u e => ?_) Z' eq
    have n1 : c ≠ x := fun g => by rw [g, hx] at e; cases e
    exact F' c u (s1 c u e) n1
end
end Cf
namespace Cf
open PySem L2
set_option hygiene false
local macro_rules | `(tactic| walk_at "len") => `(tactic| repeat (first | (obtain ⟨e, _⟩ := h; subst e; rfl; done) | (obtain ⟨_, h⟩ := h)))
local macro_rules | `(tactic| walk_at "rd") => `(tactic| repeat (first | refine ⟨_, rfl, ?_⟩ | refine ⟨_, _, rfl, rfl, ?_⟩ | refine ⟨rfl, ?_⟩ | refine ⟨_, _, rfl, ?_⟩))
local macro_rules | `(tactic| walk_at "yes") => `(tactic| (dsimp only [tYes]; rw [if_pos rfl]))
set_option hygiene true
section
variable {P : Program} {w : World} {K : PySem.W.Frag} {mg : Str → Option Value} {base : Heap} {C : Addr}
/-! ### _law_spots -/
/-- at L stand numbers that are not below 0, no more than n -/
def NumsAt (H : Hp) (L : Addr) (n : Nat) : Prop := ∃ xs : List Int, H L = some (.lst (xs.map V.int)) ∧ (∀ x ∈ xs, 0 ≤ x) ∧ xs.length ≤ n
theorem yr_near {t u : Int} (h0 : t ≤ u) (h : u ≤ t + 300000000) : yrOf t ≤ yrOf u ∧ yrOf u ≤ yrOf t + 10 := by
  obtain ⟨a1, a2⟩ := yrOf_in t
  obtain ⟨b1, b2⟩ := yrOf_in u
  constructor
  · refine Decidable.byContradiction fun c => ?_
    have := ys_mono_nat (yrOf u + 1) (yrOf t - (yrOf u + 1)).toNat
    rw [show (yrOf u + 1) + ((yrOf t - (yrOf u + 1)).toNat : Int) = yrOf t by omega] at this
    omega
  · refine Decidable.byContradiction fun c => ?_
    have := ys_mono_nat (yrOf t + 1) (yrOf u - (yrOf t + 1)).toNat
    rw [show (yrOf t + 1) + ((yrOf u - (yrOf t + 1)).toNat : Int) = yrOf u by omega] at this
    omega
theorem range_up (a b : Int) (h : a ≤ b) : Builtin.Range.rangeSize a (b + 1) 1 = ((b + 1 - a).toNat : Nat) := by
  unfold Builtin.Range.rangeSize
  rw [if_pos (by decide), if_pos (by omega)]
  omega
theorem pairs_dict {H : Hp} : ∀ {us : List Addr} {zs : List Int}, Paired (fun t z => H t = some (.tup [.int z, .bl true])) us zs → Paired (fun p (kv : Key × V) => SqT K H p [kV kv.1, kv.2]) us (zs.map fun z => (Sum.inl z, V.bl true))
  | _, _, .nil => .nil
  | _, _, .cons r rs => .cons (SqT.of r) (pairs_dict rs)
def spSpots : Sp := fun vs H Q _ => ∃ (W : Addr) (lo hi o : Int) (chs : List (Int × Int)) (rl : Option (Int × List Row)), vs = [.ref W, .int lo, .int hi] ∧ WAt H W o chs rl ∧ chs.length ≤ 40 ∧ 0 ≤ lo ∧ lo ≤ hi ∧ hi ≤ lo + 300000000 ∧
  ∀ (L : Addr) (H' : Hp), Same H H' → NumsAt H' L 200 → Q (.ref L) H'
theorem scLawSpots : FnScope ["world", "low", "high", "found", "pair", "year", "some", "spot"] ["world", "low", "high"] (defScope sLawSpots) := ⟨rfl, rfl, rfl, by decide +kernel, rfl, by decide +kernel, by decide +kernel⟩
set_option maxHeartbeats 1000000 in
theorem ok_spots {f : Addr} {fd : FuncData} (F : Fun K "_law_spots" "_law_spots" sLawSpots f fd) (T : Nm mg) (hdict : mg "dict" = none) (D_law_turns : Df P w K mg base 4 "_law_turns" ["scheme", "year"] [] spTurns) (D_law_year : Df P w K mg base 2 "_law_year" ["instant"] [] spLYear) : FnOk P w K mg base CX0 5 f fd ["world", "low", "high"] spSpots := by
  refine F.ok scLawSpots (fun vs H Q E h => ?_) (fun cdv A outer s H vs Q E hr h => ?_)
  · obtain ⟨_, _, _, _, _, _, rfl, _⟩ := h
    rfl
  · obtain ⟨W, lo, hi, o, chs, rl, rfl, WA, ln, l0, lh, hl, k⟩ := h
    have nd := scLawSpots.nd
    have hu := hr.units
    obtain ⟨L, vr, vt, hW, pl, gv⟩ := WA.ex
    refine ⟨_, (pss_cons (ps_asg (pe_tup (pa_cons (pe_callB (call_max2 rfl) (by rfl) T.max (by decide +kernel) (pa_cons (pv 1) (pa_cons pe_int pa_nil))) (pa_cons (pe_lc (own := [("pair", 4)]) (g := (gName 4)) (tt := tYes) rfl nd (pi_list (pe_dget (lt1 hu) (pv 0) pe_str (fun _ _ => rfl))) (blkOk_by (N := ["world", "low", "high", "found", "pair", "year", "some", "spot"]) (sc := defScope sLawSpots) (by decide +kernel)) (fun _ _ _ _ _ => pg_name (i := 4) nd rfl (Or.inl rfl)) (fun _ _ _ _ _ => pts_nil) (fun _ _ _ _ _ => (pe_ix (show IxR _ (rIxT K) from ix_tup) (pv 4) pe_int (fun _ _ => rfl)))) pa_nil))) (pg_tup (by rfl) (pgs_cons (pg_name (i := 1) nd rfl (Or.inr rfl)) (pgs_cons (pg_name (i := 3) nd rfl (Or.inl rfl)) pgs_nil))))
      (C8.pss_cut (ps_if (pt_cmpR op_notN (pe_dget (lt1 hu) (pv 0) pe_str (fun _ _ => rfl)) pe_non (nomark _))
        (pss_cons (ps_expr (pe_bm PySem.F.plainAttrs_list PySem.F.slot_list_append PySem.F.type_list_append mt_append (pv 3) (pa_cons (pe_dget (lt1 hu) (pv 0) pe_str (fun _ _ => rfl)) pa_nil)))
        (pss_one (ps_for PassesOwn.never rfl (pi_range2W (by rfl) T.range (pa_cons (pe_df D_law_year (hr.mono (by decide)) (pa_cons (pv 1) pa_nil)) (pa_cons (pe_op op_add (pe_df D_law_year (hr.mono (by decide)) (pa_cons (pe_callB (call_max2 rfl) (by rfl) T.max (by decide +kernel) (pa_cons (pv 2) (pa_cons pe_int pa_nil))) pa_nil)) pe_int) pa_nil))) (pg_name (i := 5) nd rfl (Or.inl rfl))
          (pss_one (ps_set (i := 3) nd rfl (Or.inl rfl) (pe_op op_cat (pv 3) (pe_lc (own := [("pair", 4)]) (g := (gName 4)) rfl nd (pi_list (pe_df D_law_turns (hr.mono (by decide)) (pa_cons (pe_dget (lt1 hu) (pv 0) pe_str (fun _ _ => rfl)) (pa_cons (pv 5) pa_nil)))) (blkOk_by (N := ["world", "low", "high", "found", "pair", "year", "some", "spot"]) (sc := defScope sLawSpots) (by decide +kernel)) (fun _ _ _ _ _ => pg_name (i := 4) nd rfl (Or.inl rfl)) (fun _ _ _ _ _ => (pts_one (pt_cmpR op_ge (pe_ix (show IxR _ (rIxT K) from ix_tup) (pv 4) pe_int (fun _ _ => rfl)) (show PE _ _ (tDGet (tVar 0) (tC (V.str "since"))) from pe_dget (lt1 hu) (pv 0) pe_str (fun _ _ => rfl)) (nomark _)))) (fun _ _ _ _ _ => (pe_ix (show IxR _ (rIxT K) from ix_tup) (pv 4) pe_int (fun _ _ => rfl))))))))))
        pss_nil)
      (pss_cons (ps_set (i := 6) nd rfl (Or.inl rfl) (pe_callTy (call_dictP rfl) (by rfl) hdict (by decide +kernel) (pa_cons (pe_lc (own := [("spot", 7)]) (g := (gName 7)) rfl nd (pi_list (pv 3)) (blkOk_by (N := ["world", "low", "high", "found", "pair", "year", "some", "spot"]) (sc := defScope sLawSpots) (by decide +kernel)) (fun _ _ _ _ _ => pg_name (i := 7) nd rfl (Or.inl rfl)) (fun _ _ _ _ _ => (pts_one (pt_chain op_lt op_lt (pv 1) (pv 7) (pv 2)))) (fun _ _ _ _ _ => (pe_tup (pa_cons (pv 7) (pa_cons pe_bl pa_nil))))) pa_nil)))
      (pss_one (ps_ret (pe_op op_cat (pe_lst (pa_cons (pv 1) pa_nil)) (pe_callB (call_sortedDL rfl) (by rfl) T.sorted (by decide +kernel) (pa_cons (pv 6) pa_nil)))))))), ?_⟩
    have gChs : ∀ H', Same H H' → DGet H' W (.str ("changes" : Str)) (some (.ref L)) := fun H' s => .inl ⟨_, Sum.inr "changes", .inl (s _ _ hW), rfl, wK_chs.symm⟩
    have gRul : ∀ H', Same H H' → DGet H' W (.str ("rule" : Str)) (some vr) := fun H' s => .inl ⟨_, Sum.inr "rule", .inl (s _ _ hW), rfl, wK_rule.symm⟩
    have gSin : ∀ H', Same H H' → DGet H' W (.str ("since" : Str)) (some vt) := fun H' s => .inl ⟨_, Sum.inr "since", .inl (s _ _ hW), rfl, wK_since.symm⟩
    obtain ⟨ts, hL, pr⟩ := id pl
    have tl : ts.length = chs.length := pr.length
    walk_at "rd"
    refine ⟨W, _, rfl, gChs _ (Same.refl _), ?_⟩
    refine ⟨L, rfl, ⟨_, SqL.of hL⟩, fun D hD => ?_⟩
    refine lc_list (K := K) (a := L) (xs := ts.map V.ref) (fun i H' => Same H H' ∧ ∃ xs : List Int, H' D = some (.lst (xs.map V.int)) ∧ (∀ x ∈ xs, 0 ≤ x) ∧ xs.length ≤ i)
      ⟨Same.new hD, [], upd_same, fun _ h => (nomatch h), Nat.le_refl _⟩ (fun i H' _ ⟨s1, _⟩ => SqL.of (s1 _ _ hL)) ?_ ?_
    · rintro i y' H3 hi ⟨S3, xs, d3, x0, lx⟩
      obtain ⟨u, p, rfl, hu', hp, ep⟩ := pls_get pr hi
      have ep3 := S3 _ _ ep
      have li : i < ts.length := (List.getElem?_eq_some_iff.mp hu').1
      refine ⟨rfl, ?_⟩
      walk_at "rd"
      refine ⟨u, _, _, _, rfl, rfl, SqT.of ep3, atI_nat (j := 0) rfl, ?_⟩
      refine ⟨_, d3, by rw [List.length_map]; exact szl (by omega), S3.wr hD, xs ++ [p.1], by rw [upd_same, List.map_append]; rfl, fun x hx => ?_, by rw [List.length_append]; exact Nat.add_le_add_right lx 1⟩
      rcases List.mem_append.mp hx with g | g
      · exact x0 x g
      · cases List.mem_singleton.mp g
        have := WA.asc.all p (List.mem_of_getElem? hp)
        omega
    · rintro H1 ⟨S1, xs, d1, x0, lx⟩
      rw [List.length_map, tl] at lx
      walk_at "rd"
      refine ⟨szle (by simp), fun t ht => ?_⟩
      have mx : (if (0 : Int) > lo then 0 else lo) = lo := if_neg (by omega)
      rw [mx]
      refine ⟨t, _, rfl, SqT.of upd_same, rfl, ?_⟩
      have s2 := Same.new (o := .tup [V.int lo, V.ref D]) ht
      have S2 := S1.trans s2
      have d2 := s2 _ _ d1
      clear s2
      generalize (upd H1 t (.tup [V.int lo, V.ref D])) = H2 at *
      walk_at "rd"
      refine ⟨fun σ' H' => (Same H H' ∧ ∃ (Lf : Addr) (fs : List Int), H' Lf = some (.lst (fs.map V.int)) ∧ (∀ x ∈ fs, 0 ≤ x) ∧ fs.length ≤ 100 ∧ ∃ v4 v5 : Option V, σ' = [some (.ref W), some (.int lo), some (.int hi), some (.ref Lf), v4, v5, none, none]), ?_, ?_⟩
      · walk_at "rd"
        refine ⟨W, _, rfl, gRul _ S2, ?_⟩
        walk_at "rd"
        cases gv with
        | no =>
          walk_at "rd"
          exact ⟨S2, D, xs, d2, x0, by omega, _, _, rfl⟩
        | @yes p since rs Rl ok tu al bel s0 =>
          walk_at "rd"
          refine ⟨.inl ⟨rfl, _, SqL.of d2⟩, ?_⟩
          walk_at "rd"
          refine ⟨W, _, rfl, gSin _ S2, ?_⟩
          walk_at "rd"
          refine ⟨D, _, _, rfl, rfl, d2, szl (by rw [List.length_map]; omega), ?_⟩
          have d3 : (upd H2 D (.lst (xs.map V.int ++ [V.int since]))) D = some (.lst ((xs ++ [since]).map V.int)) := by rw [upd_same, List.map_append]; rfl
          have S3 := S2.wr (o := .lst (xs.map V.int ++ [V.int since])) hD
          have x3 : ∀ x ∈ xs ++ [since], 0 ≤ x := fun x hx => by
            rcases List.mem_append.mp hx with g | g
            · exact x0 x g
            · cases List.mem_singleton.mp g; exact s0
          have l3 : (xs ++ [since]).length ≤ 41 := by rw [List.length_append]; show xs.length + 1 ≤ 41; omega
          generalize (xs ++ [since]) = ys at *
          generalize (upd H2 D (.lst (xs.map V.int ++ [V.int since]))) = H3 at *
          have two := ok.two
          have four := ok.four
          walk_at "rd"
          refine fun H4 S4 => ?_
          walk_at "rd"
          have mx2 : (if (0 : Int) > hi then 0 else hi) = hi := if_neg (by omega)
          rw [mx2]
          refine fun H5 S5 => ?_
          walk_at "rd"
          obtain ⟨yn1, yn2⟩ := yr_near lh hl
          have S05 := (S3.trans S4).trans S5
          refine ⟨_, _, _, rfl, range_up _ _ yn1, for_rangeC (fun i σ H' => Same H H' ∧ ∃ (Lf : Addr) (fs : List Int), H' Lf = some (.lst (fs.map V.int)) ∧ (∀ x ∈ fs, 0 ≤ x) ∧ fs.length ≤ 41 + 4 * i ∧ ∃ v4 v5 : Option V, σ = [some (.ref W), some (.int lo), some (.int hi), some (.ref Lf), v4, v5, none, none])
            ⟨S05, D, ys, S5 _ _ (S4 _ _ d3), x3, l3, _, _, rfl⟩ (fun i σ H6 hi6 inv => ?_) fun σ H6 inv => ?_⟩
          · obtain ⟨S6, Lf, fs, hf, f0, lf, v4, v5, rfl⟩ := inv
            have i11 : i < 11 := by omega
            walk_at "rd"
            refine ⟨W, _, rfl, gRul _ S6, ?_⟩
            walk_at "rd"
            refine ⟨p, rs, _, rfl, Rl.same S6, ok, fun H7 L2 S7 nL2 pl2 => ?_⟩
            obtain ⟨us, hL2, pu⟩ := id pl2
            have lu : us.length = rs.length := by rw [pu.length, tps_len]
            have S07 := S6.trans S7
            refine ⟨L2, rfl, ⟨_, SqL.of hL2⟩, fun D2 hD2 => ?_⟩
            refine lc_list (K := K) (a := L2) (xs := us.map V.ref) (fun i H' => Same H7 H' ∧ ∃ zs : List Int, H' D2 = some (.lst (zs.map V.int)) ∧ (∀ x ∈ zs, 0 ≤ x) ∧ zs.length ≤ i)
              ⟨Same.new hD2, [], upd_same, fun _ h => (nomatch h), Nat.le_refl _⟩ (fun i H' _ ⟨s1, _⟩ => SqL.of (s1 _ _ hL2)) ?_ ?_
            · rintro j y' H8 hj ⟨S8, zs, dz, z0, lz⟩
              obtain ⟨u, q, rfl, hu', hq, eq⟩ := pls_get pu hj
              have eq8 := S8 _ _ eq
              have lj : j < us.length := (List.getElem?_eq_some_iff.mp hu').1
              refine ⟨rfl, ?_⟩
              walk_at "rd"
              refine ⟨u, _, _, _, rfl, rfl, SqT.of eq8, atI_nat (j := 0) rfl, ?_⟩
              walk_at "rd"
              refine ⟨W, _, rfl, gSin _ (S07.trans S8), ?_⟩
              walk_at "rd"
              by_cases c : since ≤ q.1
              · refine iteTT (decide_eq_true c) ?_
                walk_at "rd"
                refine ⟨u, _, _, _, rfl, rfl, SqT.of eq8, atI_nat (j := 0) rfl, ?_⟩
                refine ⟨_, dz, by rw [List.length_map]; exact szl (by omega), S8.wr hD2, zs ++ [q.1], by rw [upd_same, List.map_append]; rfl, fun x hx => ?_, by rw [List.length_append]; exact Nat.add_le_add_right lz 1⟩
                rcases List.mem_append.mp hx with g | g
                · exact z0 x g
                · cases List.mem_singleton.mp g
                  omega
              · refine iteFF (decide_eq_false c) ?_
                exact ⟨S8, zs, dz, z0, by omega⟩
            · rintro H8 ⟨S8, zs, dz, z0, lz⟩
              rw [List.length_map, lu] at lz
              have hf8 := S8 _ _ (S7 _ _ hf)
              walk_at "rd"
              refine ⟨Lf, D2, _, _, rfl, rfl, hf8, dz, szle (by rw [List.length_map, List.length_map]; omega), fun q hq => ?_⟩
              walk_at "rd"
              refine ⟨(S07.trans S8).trans (Same.new hq), q, fs ++ zs, by rw [upd_same, List.map_append], fun x hx => ?_, by rw [List.length_append]; omega, _, _, rfl⟩
              rcases List.mem_append.mp hx with g | g
              · exact f0 x g
              · exact z0 x g
          · obtain ⟨S6, Lf, fs, hf, f0, lf, v4, v5, rfl⟩ := inv
            exact ⟨S6, Lf, fs, hf, f0, by omega, _, _, rfl⟩
      · rintro σ' H3 ⟨S3, Lf, fs, hf, f0, lf, v4, v5, rfl⟩
        walk_at "rd"
        refine ⟨⟨_, SqL.of hf⟩, fun D4 hD4 => ?_⟩
        refine lc_list (K := K) (a := Lf) (xs := fs.map V.int) (fun i H' => Same H3 H' ∧ ∃ (us : List Addr) (zs : List Int), H' D4 = some (.lst (us.map V.ref)) ∧ Paired (fun t z => H' t = some (.tup [.int z, .bl true])) us zs ∧ (∀ x ∈ zs, 0 ≤ x) ∧ us.length ≤ i)
          ⟨Same.new hD4, [], [], upd_same, .nil, fun _ h => (nomatch h), Nat.le_refl _⟩ (fun i H' _ ⟨s1, _⟩ => SqL.of (s1 _ _ hf)) ?_ ?_
        · rintro j y' H8 hj ⟨S8, us, zs, dz, pz, z0, lz⟩
          rw [List.getElem?_map] at hj
          obtain ⟨z, hz, rfl⟩ := Option.map_eq_some_iff.mp hj
          have lj : j < fs.length := (List.getElem?_eq_some_iff.mp hz).1
          refine ⟨rfl, ?_⟩
          walk_at "rd"
          have no : Same H3 H8 ∧ ∃ (us : List Addr) (zs : List Int), H8 D4 = some (.lst (us.map V.ref)) ∧ Paired (fun t z => H8 t = some (.tup [.int z, .bl true])) us zs ∧ (∀ x ∈ zs, 0 ≤ x) ∧ us.length ≤ j + 1 := ⟨S8, us, zs, dz, pz, z0, by omega⟩
          by_cases c1 : lo < z
          · refine iteTT (decide_eq_true c1) ?_
            walk_at "rd"
            by_cases c2 : z < hi
            · refine iteTT (decide_eq_true c2) ?_
              walk_at "rd"
              refine ⟨szle (by simp), fun t ht => ?_⟩
              have s9 := Same.new (o := .tup [V.int z, V.bl true]) ht
              have keep : ∀ (o : HO) (c : Addr) (vs : List L2.V), (upd H8 t (.tup [V.int z, V.bl true])) c = some (.tup vs) → (upd (upd H8 t (.tup [V.int z, V.bl true])) D4 o) c = some (.tup vs) := fun o c vs g => by
                have : c ≠ D4 := fun q => by rw [q, s9 _ _ dz] at g; cases g
                rw [upd_ne this]; exact g
              refine ⟨_, s9 _ _ dz, by rw [List.length_map]; exact szl (by omega), (S8.trans s9).wr hD4, us ++ [t], zs ++ [z], by rw [upd_same, List.map_append]; rfl, Paired.snoc (Paired.mapP pz fun a b r => keep _ _ _ (s9 _ _ r)) (keep _ _ _ upd_same), fun x hx => ?_, by rw [List.length_append]; exact Nat.add_le_add_right lz 1⟩
              rcases List.mem_append.mp hx with g | g
              · exact z0 x g
              · cases List.mem_singleton.mp g
                omega
            · refine iteFF (decide_eq_false c2) ?_
              exact no
          · refine iteFF (decide_eq_false c1) ?_
            walk_at "rd"
            exact no
        · rintro H8 ⟨S8, us, zs, dz, pz, z0, lz⟩
          rw [List.length_map] at lz
          have S08 := S3.trans S8
          walk_at "rd"
          refine ⟨D4, us, zs.map fun z => (Sum.inl z, .bl true), rfl, SqL.of dz, ?_, fun M hM => ?_⟩
          · exact pairs_dict pz
          · obtain ⟨ns, ek, n0, ln2⟩ := mergeK_keys (A := fun z => 0 ≤ z) (ps := zs.map fun z => (z, V.bl true)) (es := []) (ns := []) rfl (fun _ h => nomatch h) fun p hp => by
              obtain ⟨z, hz, rfl⟩ := List.mem_map.mp hp
              exact z0 z hz
            have lu : us.length = zs.length := pz.length
            rw [List.map_map] at ek
            have s9 := Same.new (o := .dK (mergeK [] (zs.map fun z => ((Sum.inl z : Key), V.bl true)))) hM
            have eM : (upd H8 M (.dK (mergeK [] (zs.map fun z => ((Sum.inl z : Key), V.bl true))))) M = some (.dK (mergeK [] (zs.map fun z => ((Sum.inl z : Key), V.bl true)))) := upd_same
            have S9 := S08.trans s9
            generalize (upd H8 M (.dK (mergeK [] (zs.map fun z => ((Sum.inl z : Key), V.bl true))))) = H9 at *
            walk_at "rd"
            refine ⟨szle (by simp), fun q hq => ?_⟩
            have s10 := Same.new (o := .lst [V.int lo]) hq
            have eq10 : (upd H9 q (.lst [V.int lo])) q = some (.lst [V.int lo]) := upd_same
            have S10 := S9.trans s10
            have eM := s10 _ _ eM
            clear s10
            generalize (upd H9 q (.lst [V.int lo])) = H10 at *
            walk_at "rd"
            refine ⟨M, _, ns, rfl, eM, ek, fun ys l py hl => ?_⟩
            have s11 := Same.new (o := .lst (ys.map V.int)) hl
            walk_at "rd"
            refine ⟨q, l, _, _, rfl, rfl, s11 _ _ eq10, upd_same, szle (by rw [List.length_map, py.length_eq]; simp at ln2 ⊢; omega), fun r hr' => ?_⟩
            refine k r _ ((S10.trans s11).trans (Same.new hr')) ⟨lo :: ys, by rw [upd_same]; rfl, fun x hx => ?_, by rw [List.length_cons, py.length_eq]; simp at ln2 ⊢; omega⟩
            rcases List.mem_cons.mp hx with g | g
            · rw [g]; exact l0
            · exact n0 x (py.mem_iff.mp g)
end
end Cf
namespace Cf
open PySem L2
set_option hygiene false
local macro_rules | `(tactic| walk_at "len") => `(tactic| repeat (first | (obtain ⟨e, _⟩ := h; subst e; rfl; done) | (obtain ⟨_, h⟩ := h)))
local macro_rules | `(tactic| walk_at "rd") => `(tactic| repeat (first | refine ⟨_, rfl, ?_⟩ | refine ⟨_, _, rfl, rfl, ?_⟩ | refine ⟨rfl, ?_⟩ | refine ⟨_, _, rfl, ?_⟩))
local macro_rules | `(tactic| walk_at "yes") => `(tactic| (dsimp only [tYes]; rw [if_pos rfl]))
set_option hygiene true
section
variable {P : Program} {w : World} {K : PySem.W.Frag} {mg : Str → Option Value} {base : Heap}
/-! ### what stands written of the classes -/
/-- an error class at C, above it the classes at up -/
structure Kl (K : PySem.W.Frag) (up : List Value) (C : Addr) : Prop where
  there : ∃ nm q N bs sn sub ab col dd k0 k1 k2 k3 k5, K.lookup C = some (excClassObj nm q C N bs up true sn sub ab col dd k0 k1 k2 k3 k5 "ValueError.__new__")
  sa : PySem.W.findIn K (.ref C) "__setattr__" = some (some (.builtin "object.__setattr__"))
  ga : PySem.W.findIn K (.ref C) "__getattribute__" = some (some (.builtin "BaseException.__getattribute__"))
  gg : PySem.W.findIn K (.ref C) "__getattr__" = some none
  cl : PySem.W.findIn K (.ref C) "__class__" = some (some (.builtin "object.__class__"))
  kp : PySem.W.keepIn K (.ref C) = true
/-- what stands written of object's __class__ -/
structure Ko (K : PySem.W.Frag) : Prop where
  hn : PySem.W.specialIn K (.builtin "object.__class__") "__get__" = some (some (.builtin "getset_descriptor.__get__"))
  ht : PySem.W.takesIn K (.builtin "object.__class__") = some true
def veL : List Value := [.type "ValueError", .type "Exception", .type "BaseException", .type "object"]
section
variable {up : List Value} {C D : Addr}
theorem Kl.cls (k : Kl K up C) : ∃ cd, PySem.W.clsIn K C = some cd ∧ cd.mro = .ref C :: up ∧ cd.hasDict = true ∧ PySem.W.typeIn K (.ref C) = some (.type "type") := by
  obtain ⟨nm, q, N, bs, sn, sub, ab, col, dd, k0, k1, k2, k3, k5, h⟩ := k.there
  refine ⟨_, by unfold PySem.W.clsIn; rw [h], rfl, rfl, ?_⟩
  show (K.lookup C).map (·.cls) = _
  rw [h]
  rfl
theorem Kl.sub (k : Kl K up C) (v : Value) : PySem.W.subIn K (.ref C) v = some ((Value.ref C :: up).contains v) := by
  obtain ⟨cd, h1, h2, _⟩ := k.cls
  show (PySem.W.clsIn K C).bind _ = _
  rw [h1, Option.bind_some, h2]
  rfl
theorem Kl.hd (k : Kl K up C) : PySem.W.hasDictIn K C = true := by
  obtain ⟨cd, h1, _, h3, _⟩ := k.cls
  unfold PySem.W.hasDictIn
  rw [h1]
  exact h3
theorem Kl.mro (k : Kl K up C) (v : Value) : PySem.W.mroIn K C v = some ((Value.ref C :: up).contains v) := k.sub v
/-- the classes above end as ValueError's do -/
structure UpV (up : List Value) : Prop where
  be : up.contains (.type "BaseException") = true
  ob : up.contains (.type "object") = true
  ve : up.contains (.type "ValueError") = true
  re : PySem.HandSPX.refsVE up = true
theorem Kl.oex (k : Kl K up C) (u : UpV up) : OexC K C where
  cls := by
    obtain ⟨nm, q, N, bs, sn, sub, ab, col, dd, k0, k1, k2, k3, k5, h⟩ := k.there
    exact ⟨nm, q, N, bs, up, sn, sub, ab, col, dd, k0, k1, k2, k3, k5, h, u.re⟩
  sa := k.sa
  exC := by rw [k.sub, List.contains_cons, u.be, Bool.or_true]
  tyC := by obtain ⟨cd, _, _, _, h⟩ := k.cls; exact h
  kC := k.kp
theorem Kl.xf (k : Kl K up C) (u : UpV up) : XfC K C := ⟨k.ga, k.gg, by rw [k.sub, List.contains_cons, u.be, Bool.or_true], k.hd⟩
theorem Kl.exc (k : Kl K up C) (u : UpV up) (o : Ko K) : ExcC K C := ⟨k.ga, k.gg, by rw [k.sub, List.contains_cons, u.be, Bool.or_true], k.hd, k.cl, o.hn, o.ht, by rw [k.mro, List.contains_cons, u.ob, Bool.or_true]⟩
theorem kit_ref (kC : Kl K up C) {upD : List Value} (kD : Kl K upD D) : PySem.W.kitOne K (.ref D) (.ref C) = some ((Value.ref D :: upD).contains (.ref C)) := by
  obtain ⟨cd, h1, _, _, h4⟩ := kC.cls
  unfold PySem.W.kitOne
  by_cases e : Value.ref D = Value.ref C
  · rw [e, beq_self_eq_true, if_pos rfl, List.contains_cons, beq_self_eq_true, Bool.true_or]
  · rw [beq_eq_false_iff_ne.mpr e, if_neg Bool.false_ne_true]
    show (if ((PySem.W.clsIn K C).isSome && PySem.W.typeIn K (.ref C) == some (.type "type")) = true then PySem.W.subIn K (.ref D) (.ref C) else none) = _
    rw [h1, h4, kD.sub]
    rfl
theorem kit_ve {upD : List Value} (kD : Kl K upD D) (u : UpV upD) : PySem.W.kitOne K (.ref D) (.type "ValueError") = some true := by
  unfold PySem.W.kitOne
  rw [show ((Value.ref D : Value) == .type "ValueError") = false from beq_eq_false_iff_ne.mpr (fun z => nomatch z), if_neg Bool.false_ne_true]
  show (if PySem.W.kitMeta "ValueError" = true then PySem.W.subIn K (.ref D) (.type "ValueError") else none) = _
  rw [if_pos (by decide +kernel), kD.sub, List.contains_cons, u.ve, Bool.or_true]
end
/-! ### isinstance of an error -/
/-- an error of the class at D stands at a -/
def ErrV (H : Hp) (a D : Addr) : Prop := (∃ fl, ExAt H a D fl) ∨ H a = some (ExO (.ref D) a)
def rIsX (K : PySem.W.Frag) : List V → Hp → VK → Prop := fun xs H Q => ∃ (a D : Addr) (c : V) (cv : Value) (b : Bool), xs = [.ref a, c] ∧ ClsV c cv ∧ ErrV H a D ∧ ExcC K D ∧ PySem.W.kitOne K (.ref D) cv = some b ∧ Q (.bl b) H
theorem call_isX {X : Cx} : CallR X (.builtin "isinstance") (rIsX X.K) := by
  intro pins s σ H xs us Q I r h
  obtain ⟨a, D, c, cv, b, rfl, k, er, E, e, q⟩ := h
  obtain ⟨u1, u2, rfl, r1, r2⟩ := vals2 r
  cases (show u1 = Value.ref a from r1)
  have e2 := k.eq r2
  subst e2
  have cl : (PySem.W.clsIn X.K D).isSome = true := by
    obtain ⟨cd, h1, _⟩ := PySem.W.any_some E.hd
    rw [h1]
    rfl
  have go : ∀ (oe : Obj) (od : Option Obj), PySem.W.InstAt s.heap a oe D od → PySem.wpAny (PySem.model X.prog X.w) X.A (PySem.call (.builtin "isinstance") [.ref a, u2]) (EP X pins σ Q) X.xe s := fun oe od J =>
    PySem.W.kia_one (PySem.W.kitx_exc cl E.hg E.hk E.hs E.ha E.hn E.ht E.hm) I.kIn J e (fun z => nomatch z) fun tk => ⟨.bl b, H, I.tok tk, rfl, q⟩
  rcases er with ⟨fl, dx, ea, ed⟩ | ea
  · obtain ⟨t1, ho⟩ := exo_at I.hok ea
    obtain ⟨mA, hns, hr⟩ := exd_at I.hok ed
    obtain ⟨od, hod, hl⟩ := lookIn_ns hns
    exact go _ (some od) ⟨ho, rfl, rfl, hod⟩
  · obtain ⟨⟨oe, vs, ho, hz, hd, _⟩, _, _⟩ := I.hok a _ ea
    obtain ⟨oc, od, dt, sl⟩ := oe
    obtain ⟨z1, z2⟩ := hz
    dsimp only at z1 z2 hd
    subst z1 z2 hd
    exact go _ none ⟨ho, rfl, rfl, trivial⟩
theorem ErrV.same {H H' : Hp} {a D : Addr} (e : ErrV H a D) (s : Same H H') : ErrV H' a D := by
  rcases e with ⟨fl, e⟩ | e
  · exact .inl ⟨fl, e.same s⟩
  · exact .inr (s _ _ e)
section
variable {P : Program} {w : World} {K : PySem.W.Frag} {mg : Str → Option Value} {base : Heap}
/-! ### an error that is kept in the context -/
/-- isinstance(k, C): the error at a, its class at D, its dict (if any) at d -/
def rIsP (K : PySem.W.Frag) (a D : Addr) (d : Option Addr) : List V → Hp → VK → Prop := fun xs H Q => ∃ (c : V) (cv : Value) (b : Bool), xs = [.ref a, c] ∧ ClsV c cv ∧ ExcC K D ∧ PySem.W.kitOne K (.ref D) cv = some b ∧ (∀ dd, d = some dd → ∃ fs, H dd = some (.xd fs)) ∧ Q (.bl b) H
/-- isinstance(k, (C1, C2, ..)) -/
def rIsPT (K : PySem.W.Frag) (a D : Addr) (d : Option Addr) : List V → Hp → VK → Prop := fun xs H Q => ∃ (tp : Addr) (cs : List V) (us : List Value) (b : Bool), xs = [.ref a, .ref tp] ∧ H tp = some (.tup cs) ∧ Paired ClsV cs us ∧ ExcC K D ∧ PySem.W.kitAny K (.ref D) us = some b ∧
  (∀ dd, d = some dd → ∃ fs, H dd = some (.xd fs)) ∧ Q (.bl b) H
theorem xd_at {X : Cx} {pins : List (Addr × Obj)} {σ : L2.St} {H : Hp} {s : Shared} {dd : Addr} {fs : List (Str × V)} (I : Inv X pins σ H s) (e : H dd = some (.xd fs)) : ∃ mA, s.heap.Ns1 dd mA ∧ ∀ f, RelO (fs.lookup f) (mA f) := I.hok dd _ e
theorem inst_kept {X : Cx} {a D : Addr} {oe : Obj} {d : Option Addr} (hp : (a, oe) ∈ X.pn) (hz : Zc (.ref D) d oe) (hf : ∃ vs, oe.data = .fields vs) {pins : List (Addr × Obj)} {σ : L2.St} {H : Hp} {s : Shared} (I : Inv X pins σ H s) (dk : ∀ dd, d = some dd → ∃ fs, H dd = some (.xd fs)) :
    ∃ od, PySem.W.InstAt s.heap a oe D od := by
  obtain ⟨at_, _⟩ := I.pin (a, oe) (List.mem_append_left _ hp)
  obtain ⟨vs, hv⟩ := hf
  obtain ⟨oc, od, dt, sl⟩ := oe
  obtain ⟨z1, z2⟩ := hz
  dsimp only at z1 z2 hv
  subst z1 z2 hv
  cases od with
  | none => exact ⟨none, at_, rfl, rfl, trivial⟩
  | some dd =>
    obtain ⟨fs, e⟩ := dk dd rfl
    obtain ⟨mA, hns, _⟩ := xd_at I e
    obtain ⟨o2, h2, _⟩ := lookIn_ns hns
    exact ⟨some o2, at_, rfl, rfl, h2⟩
theorem cls_some {D : Addr} (E : ExcC K D) : (PySem.W.clsIn K D).isSome = true := by
  obtain ⟨cd, h1, _⟩ := PySem.W.any_some E.hd
  rw [h1]
  rfl
theorem call_isP {X : Cx} {a D : Addr} {oe : Obj} {d : Option Addr} (hp : (a, oe) ∈ X.pn) (hz : Zc (.ref D) d oe) (hf : ∃ vs, oe.data = .fields vs) : CallR X (.builtin "isinstance") (rIsP X.K a D d) := by
  intro pins s σ H xs us Q I r h
  obtain ⟨c, cv, b, rfl, k, E, e, dk, q⟩ := h
  obtain ⟨u1, u2, rfl, r1, r2⟩ := vals2 r
  cases (show u1 = Value.ref a from r1)
  have e2 := k.eq r2
  subst e2
  obtain ⟨od, J⟩ := inst_kept hp hz hf I dk
  exact PySem.W.kia_one (PySem.W.kitx_exc (cls_some E) E.hg E.hk E.hs E.ha E.hn E.ht E.hm) I.kIn J e (fun z => nomatch z) fun tk => ⟨.bl b, H, I.tok tk, rfl, q⟩
theorem call_isPT {X : Cx} {a D : Addr} {oe : Obj} {d : Option Addr} (hp : (a, oe) ∈ X.pn) (hz : Zc (.ref D) d oe) (hf : ∃ vs, oe.data = .fields vs) : CallR X (.builtin "isinstance") (rIsPT X.K a D d) := by
  intro pins s σ H xs us Q I r h
  obtain ⟨tp, cs, ws, b, rfl, hT, k, E, e, dk, q⟩ := h
  obtain ⟨u1, u2, rfl, r1, r2⟩ := vals2 r
  cases (show u1 = Value.ref a from r1)
  cases (show u2 = Value.ref tp from r2)
  obtain ⟨od, J⟩ := inst_kept hp hz hf I dk
  obtain ⟨_, its, rv, o, h1, h2, n, h3⟩ := (show ObjOk X.prog X.w H s.heap tp (.tup cs) from I.hok tp _ hT)
  have e3 := ClsV.all k rv
  subst e3
  obtain ⟨oc, o2, dt, sl⟩ := o
  simp only at h2 h3
  subst h2 h3
  exact PySem.W.kia_tup (PySem.W.kitx_exc (cls_some E) E.hg E.hk E.hs E.ha E.hn E.ht E.hm) I.kIn J h1 e (fun z => nomatch z) fun tk => ⟨.bl b, H, I.tok tk, rfl, q⟩
/-- k.f, k the kept error -/
theorem pe_xp {X : Cx} {a D : Addr} {oe : Obj} {d : Option Addr} {f : Str} {o : Expr} {to : TE} {pos : Pos} (hp : (a, oe) ∈ X.pn) (hz : Zc (.ref D) d oe) (hf : ∃ vs, oe.data = .fields vs) (he : PE X o to) (hb : attributeBase o f X.env (eval o X.env) = eval o X.env := by rfl) :
    PE X (.Attribute o f pos) (fun σ H Q => to σ H fun y H1 => ∃ (dd : Addr) (fl : List (Str × V)) (v : V), y = .ref a ∧ d = some dd ∧ H1 dd = some (.xd fl) ∧ XfC X.K D ∧ PySem.W.findIn X.K (.ref D) f = some none ∧ fl.lookup f = some v ∧ Q v H1) := by
  constructor
  intro pins s σ H Q I h
  refine attr_of hb (thn (he.run pins s σ H _ I h) fun u s1 hh => ?_)
  obtain ⟨y, H1, I1, ry, dd, fl, v, rfl, rfl, ed, T, no, l, q⟩ := hh
  cases (show u = Value.ref a from ry)
  obtain ⟨at_, _⟩ := I1.pin (a, oe) (List.mem_append_left _ hp)
  obtain ⟨vs, hv⟩ := hf
  obtain ⟨mA, hns, hr⟩ := xd_at I1 ed
  obtain ⟨od, hod, hl⟩ := lookIn_ns hns
  obtain ⟨u, hu, ru⟩ := RelO.some_of (v := v) (o := mA f) (by rw [← l]; exact hr f)
  have J : PySem.W.InstAt s1.heap a oe D (some od) := ⟨at_, hz.1, by unfold PySem.W.notCls; rw [hv] <;> rfl, by rw [hz.2]; exact hod⟩
  exact HandSPX.exc_get I1.kIn J T.ga T.gg T.exC (PySem.W.findObj_own T.hdC no rfl (by rw [hl, hu])) (handed_of ru) ⟨v, H1, I1.tok _, ru, q⟩
/-! ### repr of any item -/
/-- repr(v) of a value that a list may show -/
def rReprI (K : PySem.W.Frag) : List V → Hp → VK → Prop := fun xs H Q => ∃ (v : V) (d : PyData), xs = [v] ∧ Dz K H v d ∧ d.showable = true ∧ d.depth ≤ 60 ∧ d.shown.length ≤ sizeLine ∧ Q (.str d.shown) H
theorem call_reprI {X : Cx} (gd : X.A.guards = some []) (hu : X.A.units + 64 < cLine) : CallR X (.builtin "repr") (rReprI X.K) := by
  intro pins s σ H xs us Q I r h
  obtain ⟨v, d, rfl, hz, sh, dd, sz, q⟩ := h
  obtain ⟨u, rfl, ru⟩ : ∃ u, us = [u] ∧ RelV v u := by
    cases r with
    | cons z1 z2 => cases z2; exact ⟨_, rfl, z1⟩
  obtain ⟨as, rd, nm⟩ := hz.reads I ru
  cases rd with
  | none => exact PySem.P.repr_of_none ⟨.str _, H, I.tok _, ⟨_, rfl⟩, q⟩
  | bool b =>
    refine PySem.P.repr_of_bool ⟨.str _, H, I.tok _, ⟨_, rfl⟩, ?_⟩
    have e : (if b = true then ("True" : Str) else "False") = PyData.shown (.bool b) := by simp only [PyData.shown]
    first | exact q | (rw [← e] at q; exact q)
  | int i t => exact PySem.P.repr_of_int (by simpa [PyData.showable] using sh) ⟨.str _, H, I.tok _, ⟨_, rfl⟩, q⟩
  | str x t => exact PySem.P.repr_of_str ⟨.str _, H, I.tok _, ⟨_, rfl⟩, q⟩ sz
  | list g1 g2 g3 g4 => exact repr_of_reads' (.list g1 g2 g3 g4) sh nm gd (by omega) (fun _ _ e => e) (fun h' u tk k => ⟨.str _, H, I.kept k, ⟨_, rfl⟩, q⟩) sz
  | tuple g1 g2 g3 g4 => exact repr_of_reads' (.tuple g1 g2 g3 g4) sh nm gd (by omega) (fun _ _ e => e) (fun h' u tk k => ⟨.str _, H, I.kept k, ⟨_, rfl⟩, q⟩) sz
  | dict g1 g2 g3 g4 g5 => exact repr_of_reads' (.dict g1 g2 g3 g4 g5) sh nm gd (by omega) (fun _ _ e => e) (fun h' u tk k => ⟨.str _, H, I.kept k, ⟨_, rfl⟩, q⟩) sz
end
end
end Cf
namespace Cf
open PySem L2
set_option hygiene false
local macro_rules | `(tactic| walk_at "len") => `(tactic| repeat (first | (obtain ⟨e, _⟩ := h; subst e; rfl; done) | (obtain ⟨_, h⟩ := h)))
local macro_rules | `(tactic| walk_at "rd") => `(tactic| repeat (first | refine ⟨_, rfl, ?_⟩ | refine ⟨_, _, rfl, rfl, ?_⟩ | refine ⟨rfl, ?_⟩ | refine ⟨_, _, rfl, ?_⟩))
local macro_rules | `(tactic| walk_at "yes") => `(tactic| (dsimp only [tYes]; rw [if_pos rfl]))
set_option hygiene true
section
variable {P : Program} {w : World} {K : PySem.W.Frag} {mg : Str → Option Value} {base : Heap} {cN : Addr}
/-! ### numbers refused -/
/-- data that are no number -/
def nonum : PyData → Bool
  | .int _ => false
  | _ => true
theorem ty_list {H : Hp} {a : Addr} {xs : List V} (h : SqL K H a xs) : TyX K H (.ref a) (.type "list") := by
  rcases h with (h | ⟨o, h⟩) | ⟨o, its, n, h1, h2, _⟩
  · exact .base (.lst h)
  · exact .base (.frz h)
  · exact .kList h1 h2
theorem ty_tup {H : Hp} {a : Addr} {xs : List V} (h : SqT K H a xs) : TyX K H (.ref a) (.type "tuple") := by
  rcases h with (h | ⟨o, h⟩) | ⟨o, its, n, h1, h2, _⟩
  · exact .base (.tup h)
  · exact .fTuple h
  · exact .kTuple h1 h2
/-- its type, and what isinstance says of int and bool -/
theorem dz_ty {H : Hp} {v : V} {d : PyData} (z : Dz K H v d) (n : nonum d = true) : ∃ (t : String) (bi bb : Bool), TyX K H v (.type t) ∧ kitB t "int" = some bi ∧ kitB t "bool" = some bb ∧ (bi && !bb) = false := by
  cases z with
  | flat h nd =>
    cases h with
    | non => exact ⟨"NoneType", false, false, .base .non, by decide +kernel, by decide +kernel, rfl⟩
    | bl b => exact ⟨"bool", true, true, .base (.bl b), by decide +kernel, by decide +kernel, rfl⟩
    | int i => cases n
    | str x => exact ⟨"str", false, false, .base (.str x), by decide +kernel, by decide +kernel, rfl⟩
    | lst h _ => exact ⟨"list", false, false, ty_list h, by decide +kernel, by decide +kernel, rfl⟩
    | tup h _ => exact ⟨"tuple", false, false, ty_tup h, by decide +kernel, by decide +kernel, rfl⟩
  | nums is h => exact ⟨"dict", false, false, .base (.dK h), by decide +kernel, by decide +kernel, rfl⟩
def spIsNumV (K : PySem.W.Frag) : Sp := fun vs H Q _ => ∃ x : V, vs = [x] ∧ ((∃ n, x = .int n ∧ Q (.bl true) H) ∨ ∃ d, Dz K H x d ∧ nonum d = true ∧ Q (.bl false) H)
theorem scIsNumberV : FnScope ["value"] ["value"] (defScope sIsNumber) := ⟨rfl, rfl, rfl, by decide +kernel, rfl, by decide +kernel, by decide +kernel⟩
theorem ok_isnumV {f : Addr} {fd : FuncData} (F : Fun K "is_number" "is_number" sIsNumber f fd) (T : Nm mg) : FnOk P w K mg base CX0 1 f fd ["value"] (spIsNumV K) := by
  refine F.ok scIsNumberV (fun vs H Q E h => ?_) (fun cdv A outer s H vs Q E hr h => ?_)
  · obtain ⟨x, rfl, _⟩ := h
    rfl
  · obtain ⟨x, rfl, h⟩ := h
    refine ⟨_, pss_one (ps_ret (pe_and (pe_callB call_isi (by rfl) T.isinstance (by decide +kernel) (pa_cons (pv 0) (pa_cons (pe_bltn (v := .ty "int") (by rfl) T.int (by decide +kernel) rfl) pa_nil)))
      (pe_one (pe_not (pe_callB call_isi (by rfl) T.isinstance (by decide +kernel) (pa_cons (pv 0) (pa_cons (pe_bltn (v := .ty "bool") (by rfl) T.bool (by decide +kernel) rfl) pa_nil))))))), ?_⟩
    rcases h with ⟨n, rfl, k⟩ | ⟨d, z, n, k⟩
    · refine ⟨_, rfl, _, _, _, _, true, rfl, .ty "int", .base (.int _), kit_ty (by decide +kernel), true, rfl, iteT ?_⟩
      exact ⟨_, rfl, _, _, _, _, false, rfl, .ty "bool", .base (.int _), kit_ty (by decide +kernel), false, rfl, k⟩
    · obtain ⟨t, bi, bb, ty, e1, e2, e3⟩ := dz_ty z n
      refine ⟨_, rfl, _, _, _, _, bi, rfl, .ty "int", ty, kit_ty e1, bi, rfl, ?_⟩
      cases bi with
      | false => exact iteF k
      | true =>
        refine iteT ⟨_, rfl, _, _, _, _, bb, rfl, .ty "bool", ty, kit_ty e2, bb, rfl, ?_⟩
        rw [Bool.true_and] at e3
        rw [e3]
        exact k
/-- BadNumber(x) is let out -/
def OutN (cN : Addr) (x : V) (E : XK) (H : Hp) : Prop := ∀ (dd : Addr) (H' : Hp), Same H H' → H dd = none → H' dd = some (.xd [("value", x)]) → E (.ref cN) (some dd) H'
def mkN : List V → List (Str × V) := fun us => [("value", us.getD 0 .non)]
theorem scInitN : FnScope ["self", "value"] ["self", "value"] (defScope sBadNumberInit) := ⟨rfl, rfl, rfl, by decide +kernel, rfl, by decide +kernel, by decide +kernel⟩
theorem ok_initN {C f : Addr} {fd : FuncData} (F : Fun K "__init__" "BadNumber.__init__" sBadNumberInit f fd) (O : OexC K C) (h0 : PySem.W.findIn K (.ref C) "value" = some none) : FnOk P w K mg base (L2.CX P w) 1 f fd ["self", "value"] (spI C 1 mkN) := by
  refine F.okX scInitN (fun vs H Q E h => ?_) (fun cdv A outer s H vs Q E hr h => ?_)
  · obtain ⟨a, us, rfl, l, _⟩ := h
    match us, l with
    | [_], _ => rfl
  · obtain ⟨a, us, rfl, l, ha, go⟩ := h
    match us, l, go with
    | [v], _, go =>
      refine ⟨_, pss_one (ps_ost (pv 0) (pv 1)), ?_⟩
      refine ⟨_, rfl, _, rfl, a, C, rfl, O, h0, .inl ⟨ha, fun dx hx ne => ?_⟩⟩
      exact go _ dx (fun b o e nb => by rw [upd_ne nb, upd_ne (ne_of_none e hx)]; exact e) hx ne upd_same (by rw [upd_ne ne]; exact upd_same)
/-- what is no number from 0 on -/
def NoNum (K : PySem.W.Frag) (H : Hp) (x : V) : Prop := (∃ n : Int, x = .int n ∧ n < 0) ∨ ∃ d, Dz K H x d ∧ nonum d = true
def spCheckLX (K : PySem.W.Frag) (cN : Addr) : Sp := fun vs H Q E => ∃ x : V, vs = [x, .int 0] ∧ NoNum K H x ∧ OutN cN x E H
theorem scCheckNumberX : FnScope ["value", "least"] ["value", "least"] (defScope sCheckNumber) := ⟨rfl, rfl, rfl, by decide +kernel, rfl, by decide +kernel, by decide +kernel⟩
theorem ok_checkLX {dV : List V} {f : Addr} {fd : FuncData} (F : FunD K "check_number" "check_number" (defArgs sCheckNumber) (defBody sCheckNumber) (defScope sCheckNumber) dV [] f fd) (DN : Df P w K mg base 1 "is_number" ["value"] [] (spIsNumV K)) (R : Rs P w K mg base "BadNumber" cN 1 mkN) :
    FnOk P w K mg base (L2.CX P w) 3 f fd ["value", "least"] (spCheckLX K cN) := by
  refine F.ok scCheckNumberX (fun vs H Q E h => ?_) (fun cdv A outer s H vs Q E hr h => ?_)
  · obtain ⟨x, rfl, _⟩ := h
    rfl
  · obtain ⟨x, rfl, nn, out⟩ := h
    have hr1 : Room 1 _ := hr.mono (by decide)
    refine ⟨_, pss_one (ps_if (PW.pt (pw_or (pt_not (pt_val (pe_df DN hr1 (pa_cons (pv 0) pa_nil)))) (pw_or1 (PW.pt (pw_and (pt_cmpR op_notN (pv 1) pe_non (nomark _)) (pw_and1 (pt_cmpR op_lt (pv 0) (pv 1) (nomark _))))))))
      (pss_one (ps_raise rfl (L2.takes_of rfl rfl rfl rfl) (pmk_rs R hr (L2.takes_of rfl rfl rfl rfl) (pa_cons (pv 0) pa_nil)))) pss_nil), ?_⟩
    rcases nn with ⟨n, rfl, n0⟩ | ⟨d, z, n⟩
    · refine ⟨_, rfl, _, rfl, .inl ⟨n, rfl, true, rfl, iteF ?_⟩⟩
      refine ⟨_, rfl, rfl, true, rfl, iteT ?_⟩
      refine ⟨_, rfl, _, rfl, n, 0, rfl, rfl, true, congrArg V.bl (decide_eq_true n0), iteT ?_⟩
      exact ⟨_, rfl, by show 1 ≤ 1000; decide, raise_read rfl fun dd H2 s h0 h1 => out dd H2 s h0 h1⟩
    · refine ⟨_, rfl, x, rfl, .inr ⟨d, z, n, false, rfl, iteT ?_⟩⟩
      refine iteT ?_
      exact ⟨_, rfl, by show 1 ≤ 1000; decide, raise_read rfl fun dd H2 s h0 h1 => out dd H2 s h0 h1⟩
/-! ### a method that may let errors out -/
structure DmX (P : Program) (w : World) (K : PySem.W.Frag) (mg : Str → Option Value) (base : Heap) (k : Nat) (C : Addr) (m : Str) (ps : List Str) (sp : Sp) : Prop where
  ex : ∃ (f : Addr) (fd : FuncData), FnOk P w K mg base (L2.CX P w) k f fd ps sp ∧ Meth K C m f ∧ Binds K fd ps []
def tMethX (C : Addr) (m : Str) (sp : Sp) (W : WX) (ta : TE) (t : TA) : TE := fun σ H Q => ta σ H fun x H1 => ∃ a dx fs, x = .ref a ∧ H1 a = some (.ins C dx fs) ∧ fs.lookup m = none ∧ t σ H1 fun vs H2 => sp (x :: vs) H2 Q (WE W σ)
theorem pe_dmX {X : Cx} {W : WX} {k : Nat} {C : Addr} {m : Str} {ps : List Str} {sp : Sp} {o e : Expr} {es : List Expr} {ta : TE} {t : TA} {pos apos : Pos} {pl : Sem Bool} (D : DmX X.prog X.w X.K X.mg X.base k C m ps sp) (c : L2.Cls X.K C) (hr : Room k X.A) (tk : L2.Takes X W) (he : PE X o ta) (ha : PA X (e :: es) t)
    (hst : starEach (e :: es) X.env = (false, eval e X.env) :: starEach es X.env := by rfl) (hpl : (backTo pos (starEach es X.env)).any (·.1) = false := by rfl)
    (ht : eval (.Call (.Attribute o m apos) (e :: es) [] pos) X.env = (do
      let ov ← eval o X.env
      standAt apos.atName
      let (f, first) ← holding [ov] (getMethod ov m pl)
      callWith pos f first (backTo pos (starEach (e :: es) X.env)) (backToKw pos (keywordEach [] X.env))) := by rfl) :
    PE X (.Call (.Attribute o m apos) (e :: es) [] pos) (tMethX C m sp W ta t) := by
  obtain ⟨f, fd, F, M, b⟩ := D.ex
  refine ⟨fun pins s σ H Q I h => ?_⟩
  refine PySem.W.methodCall_KW (pl := pl) (thn (he.run pins s σ H _ I h) fun u s1 ⟨x, H1, I1, rx, a, dx, fs, ex, ea, l, q⟩ => ?_) ht
  subst ex
  cases (show u = Value.ref a from rx)
  refine getmeth_ok I1 ea c M l ?_
  exact PySem.W.callWith_K (first := [.ref a]) (h₀ := X.base) I.ok.mod.kin M.kp (thn (ha.run pos pins s1 σ H1 _ I1 q) fun us s2 ⟨vs, H2, I2, r, q2⟩ => ⟨I2.kIn, run_fnS (us := .ref a :: us) (vs := .ref a :: vs) F hr b (L2.passAt tk σ) I2 (.cons rfl r) q2⟩) hst hpl
def spOffAtX (P : Program) (w : World) (K : PySem.W.Frag) (C cN : Addr) : Sp := fun vs H Q E => ∃ (x dx : Addr) (fs : List (Str × V)) (v : V), vs = [.ref x, v] ∧ H x = some (.ins C dx fs) ∧ NoNum K H v ∧ OutN cN v E H
theorem scOffAtX : FnScope ["self", "instant", "offset", "changed", "later"] ["self", "instant"] (defScope sZoneOffsetAt) := ⟨rfl, rfl, rfl, by decide +kernel, rfl, by decide +kernel, by decide +kernel⟩
theorem ok_offatX {C : Addr} {f : Addr} {fd : FuncData} (F : Fun K "offset_at" "Zone.offset_at" sZoneOffsetAt f fd) (DC : Dx P w K mg base 3 "check_number" ["value", "least"] [] (spCheckLX K cN)) : FnOk P w K mg base (L2.CX P w) 4 f fd ["self", "instant"] (spOffAtX P w K C cN) := by
  refine F.okX scOffAtX (fun vs H Q E h => ?_) (fun cdv A outer s H vs Q E hr h => ?_)
  · obtain ⟨_, _, _, _, rfl, _⟩ := h
    rfl
  · obtain ⟨x, dx, fs, v, rfl, hx, nn, out⟩ := h
    refine ⟨_, pss_cons (ps_expr (pe_dx DC hr (L2.takes_of rfl rfl rfl rfl) (pa_cons (pv 1) (pa_cons pe_int pa_nil)))) pss_never, ?_⟩
    exact ⟨_, rfl, v, rfl, nn, fun dd H' s h0 h1 => out dd H' s h0 h1⟩
end
end Cf
namespace Cf
open PySem L2
set_option hygiene false
local macro_rules | `(tactic| walk_at "len") => `(tactic| repeat (first | (obtain ⟨e, _⟩ := h; subst e; rfl; done) | (obtain ⟨_, h⟩ := h)))
local macro_rules | `(tactic| walk_at "rd") => `(tactic| repeat (first | refine ⟨_, rfl, ?_⟩ | refine ⟨_, _, rfl, rfl, ?_⟩ | refine ⟨rfl, ?_⟩ | refine ⟨_, _, rfl, ?_⟩))
local macro_rules | `(tactic| walk_at "yes") => `(tactic| (dsimp only [tYes]; rw [if_pos rfl]))
set_option hygiene true
section
variable {P : Program} {w : World} {K : PySem.W.Frag} {mg : Str → Option Value} {base : Heap} {C cE cO cN : Addr}
/-! ### _law_is_refused -/
/-- the class that is caught and those that are looked for -/
structure Cl5 (K : PySem.W.Frag) (mg : Str → Option Value) (cE cO cN : Addr) : Prop where
  kE : Kl K veL cE
  mE : mg "ClockError" = some (.ref cE)
  kO : Kl K (.ref cE :: veL) cO
  mO : mg "BadOrder" = some (.ref cO)
  kN : Kl K (.ref cE :: veL) cN
  mN : mg "BadNumber" = some (.ref cN)
  o : Ko K
  fv : PySem.W.findIn K (.ref cN) "value" = some none
  ne : cN ≠ cO ∧ cE ≠ cO
theorem upV : UpV veL := ⟨by decide +kernel, by decide +kernel, by decide +kernel, by decide +kernel⟩
theorem upE (cE : Addr) : UpV (.ref cE :: veL) := by
  refine ⟨?_, ?_, ?_, ?_⟩
  · rw [List.contains_cons, upV.be, Bool.or_true]
  · rw [List.contains_cons, upV.ob, Bool.or_true]
  · rw [List.contains_cons, upV.ve, Bool.or_true]
  · exact upV.re
theorem kit_self {C : Addr} : PySem.W.kitOne K (.ref C) (.ref C) = some true := by
  unfold PySem.W.kitOne
  rw [beq_self_eq_true, if_pos rfl]
theorem Cl5.kit_no (L : Cl5 K mg cE cO cN) : PySem.W.kitOne K (.ref cN) (.ref cO) = some false := by
  rw [kit_ref L.kO L.kN, List.contains_cons, List.contains_cons, show (Value.ref cO == Value.ref cN) = false from beq_eq_false_iff_ne.mpr (fun z => L.ne.1 (by cases z; rfl)), show (Value.ref cO == Value.ref cE) = false from beq_eq_false_iff_ne.mpr (fun z => L.ne.2 (by cases z; rfl))]
  have : veL.contains (Value.ref cO) = false := by simp [veL]
  rw [this]
  rfl
def spRef (K : PySem.W.Frag) (C : Addr) : Sp := fun vs H Q _ => ∃ (z dx : Addr) (fs : List (Str × V)) (v : V) (d : PyData), vs = [.ref z, v] ∧ H z = some (.ins C dx fs) ∧ fs.lookup ("offset_at" : Str) = none ∧ Dz K H v d ∧ NoNum K H v ∧ d.showable = true ∧ d.depth ≤ 60 ∧ d.shown.length ≤ sizeLine ∧ ∀ H', Same H H' → Q (.bl true) H'
theorem scLawIsRefused : FnScope ["zone", "thing", "caught", "e"] ["zone", "thing"] (defScope sLawIsRefused) := ⟨rfl, rfl, rfl, by decide +kernel, rfl, by decide +kernel, by decide +kernel⟩
set_option maxHeartbeats 1000000 in
theorem ok_ref {f : Addr} {fd : FuncData} (F : Fun K "_law_is_refused" "_law_is_refused" sLawIsRefused f fd) (T : Nm mg) (L : Cl5 K mg cE cO cN) (T2 : Zk K C) (X_offset_at : DmX P w K mg base 4 C "offset_at" ["self", "instant"] (spOffAtX P w K C cN)) : FnG P w K mg base CX0 5 f fd ["zone", "thing"] (spRef K C) := by
  refine funG F scLawIsRefused (fun vs H Q E h => ?_) (fun cdv A gd outer s H vs Q E hr h => ?_)
  · obtain ⟨_, _, _, _, _, rfl, _⟩ := h
    rfl
  · obtain ⟨z, dx, fs, v, d, rfl, hz, lo, Dv, nn, sh, dp, sz, k⟩ := h
    have nd := scLawIsRefused.nd
    have hu := hr.units
    have pI : bootBuiltins "isinstance" = some (.builtin "isinstance") := by decide +kernel
    refine ⟨_, pss_cons (ps_set (i := 2) nd rfl (Or.inl rfl) pe_non)
      (pss_tryKeep (i := 3) (j := 2) (c := .ref cE) (tb := fun W => tDrop (tMethX C "offset_at" (spOffAtX P w K C cN) W (tVar 0) (tCons (tVar 1) tNil)))
        rfl rfl nd rfl rfl rfl rfl ⟨rfl, by decide, .inl L.mE⟩ L2.takes0 (fun W pn xe tk _ => pss_one (ps_expr (pe_dmX X_offset_at T2.cl (hr.mono (by decide)) tk (pv 0) (pa_cons (pv 1) pa_nil))))
        pss_never), ?_⟩
    walk_at "rd"
    refine ⟨z, dx, fs, rfl, hz, lo, ?_⟩
    walk_at "rd"
    refine ⟨z, dx, fs, v, rfl, hz, nn, fun dd H1 S1 h0 hd => ?_⟩
    have ex : PySem.W.exmOne K (.ref cN) (.ref cE) = some true := PySem.W.exm_ref (by rw [L.kE.sub, List.contains_cons, upV.be, Bool.or_true]) L.kE.hd (by obtain ⟨_, _, _, _, z⟩ := L.kE.cls; exact z) (by rw [L.kN.sub, List.contains_cons, List.contains_cons, beq_self_eq_true, Bool.true_or, Bool.or_true])
    have ee := L.kN.exc (upE cE) L.o
    have xf := L.kN.xf (upE cE)
    refine ⟨true, ex, fun _ a oe na hz hf => ?_, fun z => nomatch z⟩
    refine ⟨_, pss_one (ps_ret (pe_and (pe_callB (call_isP (List.mem_cons_self ..) hz hf) (by rfl) T.isinstance pI (pa_cons (pv 2) (pa_cons (pe_glob (v := .ref cN) rfl L.mN rfl) pa_nil)))
      (pe_and (pe_not (pe_callB (call_isP (List.mem_cons_self ..) hz hf) (by rfl) T.isinstance pI (pa_cons (pv 2) (pa_cons (pe_glob (v := .ref cO) rfl L.mO rfl) pa_nil))))
      (pe_one (pe_cmpR op_eq (pe_callB (call_reprI gd hu) (by rfl) T.repr (by decide +kernel) (pa_cons (pe_xp (List.mem_cons_self ..) hz hf (pv 2)) pa_nil)) (pe_callB (call_reprI gd hu) (by rfl) T.repr (by decide +kernel) (pa_cons (pv 1) pa_nil)) (nomark _)))))), ?_⟩
    refine ⟨_, rfl, .ref cN, _, true, rfl, .own cN, ee, kit_self, (fun _ z => by cases z; exact ⟨_, hd⟩), true, rfl, iteT ?_⟩
    refine ⟨_, rfl, .ref cO, _, false, rfl, .own cO, ee, L.kit_no, (fun _ z => by cases z; exact ⟨_, hd⟩), false, rfl, true, rfl, iteT ?_⟩
    refine ⟨_, rfl, dd, _, v, rfl, rfl, hd, xf, L.fv, rfl, v, d, rfl, Dv.keep S1, sh, dp, sz, ?_⟩
    refine ⟨_, rfl, v, d, rfl, Dv.keep S1, sh, dp, sz, ?_⟩
    refine ⟨rfl, ?_⟩
    rw [decide_eq_true rfl]
    exact k H1 S1
end
end Cf
namespace Cf
open PySem L2
set_option hygiene false
local macro_rules | `(tactic| walk_at "len") => `(tactic| repeat (first | (obtain ⟨e, _⟩ := h; subst e; rfl; done) | (obtain ⟨_, h⟩ := h)))
local macro_rules | `(tactic| walk_at "rd") => `(tactic| repeat (first | refine ⟨_, rfl, ?_⟩ | refine ⟨_, _, rfl, rfl, ?_⟩ | refine ⟨rfl, ?_⟩ | refine ⟨_, _, rfl, ?_⟩))
local macro_rules | `(tactic| walk_at "yes") => `(tactic| (dsimp only [tYes]; rw [if_pos rfl]))
set_option hygiene true
section
variable {P : Program} {w : World} {K : PySem.W.Frag} {mg : Str → Option Value} {base : Heap} {C cE cO cN : Addr}
/-! ### law -/
theorem wK_put_chs (o : Int) (L M : Addr) (x y : V) : putK (wK o L x y) (Sum.inr ("changes" : Str) : Key) (.ref M) = wK o M x y := by
  unfold putK
  rw [valV_any, wK_chs]
  rw [if_pos (by rfl)]
  unfold wK
  simp only [List.map_cons, List.map_nil, if_neg (nkk (x := "offset") (y := "changes") (by decide +kernel)), if_neg (nkk (x := "rule") (y := "changes") (by decide +kernel)), if_neg (nkk (x := "since") (y := "changes") (by decide +kernel)), if_true]
theorem cut_nums {xs : List Int} (lo hi : Option Int) (h : ∀ x ∈ xs, 0 ≤ x) : ∃ ys : List Int, cutV (xs.map V.int) lo hi = ys.map V.int ∧ (∀ y ∈ ys, 0 ≤ y) ∧ ys.length ≤ xs.length := by
  unfold cutV
  refine ⟨(xs.drop (HT.sIx (xs.map V.int).length 0 lo)).take (HT.sIx (xs.map V.int).length (xs.map V.int).length hi - HT.sIx (xs.map V.int).length 0 lo), by rw [List.map_take, List.map_drop], fun y hy => h y (List.mem_of_mem_drop (List.mem_of_mem_take hy)), ?_⟩
  rw [List.length_take, List.length_drop]
  omega
theorem NumsAt.same {H H' : Hp} {L : Addr} {n : Nat} (h : NumsAt H L n) (s : Same H H') : NumsAt H' L n := by
  obtain ⟨xs, e, r⟩ := h
  exact ⟨xs, s _ _ e, r⟩
theorem ZAt.same {H H' : Hp} {x : Addr} {o : Int} {chs : List (Int × Int)} {rl : Option (Int × List Row)} (z : ZAt P w C H x o chs rl) (s : Same H H') : ZAt P w C H' x o chs rl := by
  obtain ⟨dx, fs, L, hx, fo, fc, pl, fn0, fsm⟩ := z.ex
  refine ⟨⟨dx, fs, L, s _ _ hx, fo, fc, PlsAt.same pl s, fn0, fun st rs e => ?_⟩, z.asc, z.len, fun dx' fs' e => by rw [s _ _ hx] at e; cases e; exact z.nof _ _ hx⟩
  obtain ⟨f0, n0, n4, od, D, fd0, TA⟩ := fsm st rs e
  exact ⟨f0, n0, n4, od, D, fd0, TA.same s⟩
/-- the state of the draws, a world at W and the zone at x that it describes -/
structure Wz (P : Program) (w : World) (C p a b W x : Addr) (o : Int) (chs : List (Int × Int)) (rl : Option (Int × List Row)) (o' : Int) (chs' : List (Int × Int)) (rl' : Option (Int × List Row)) (n : Nat) (H : Hp) : Prop where
  st : Stt p a b n H
  wa : WAt (cut p a H) W o chs rl
  za : ZAt P w C (cut p a H) x o' chs' rl'
section
variable {p a b W x : Addr} {o o' : Int} {chs chs' : List (Int × Int)} {rl rl' : Option (Int × List Row)} {n m : Nat} {H H' : Hp}
theorem Wz.but (z : Wz P w C p a b W x o chs rl o' chs' rl' n H) (B : But p a H H') (S : Stt p a b m H') : Wz P w C p a b W x o chs rl o' chs' rl' m H' := ⟨S, z.wa.same B.cut, z.za.same B.cut⟩
theorem Wz.same (z : Wz P w C p a b W x o chs rl o' chs' rl' n H) (s : Same H H') : Wz P w C p a b W x o chs rl o' chs' rl' n H' := z.but (But.of s) (z.st.same s)
theorem Wz.mono (z : Wz P w C p a b W x o chs rl o' chs' rl' n H) (h : n ≤ m) : Wz P w C p a b W x o chs rl o' chs' rl' m H := ⟨z.st.mono h, z.wa, z.za⟩
theorem Wz.wat (z : Wz P w C p a b W x o chs rl o' chs' rl' n H) : WAt H W o chs rl := z.wa.same (cut_same _ _ _)
theorem Wz.zat (z : Wz P w C p a b W x o chs rl o' chs' rl' n H) : ZAt P w C H x o' chs' rl' := z.za.same (cut_same _ _ _)
end
theorem odd_ok {K : PySem.W.Frag} {H : Hp} {t5 l5 : Addr} {io : Nat} {v : V} (h1 : H t5 = some (.tup [])) (h2 : H l5 = some (.lst [V.int 5])) (hv : [V.non, V.bl true, V.bl false, V.int (-1), V.str ("0" : Str), V.ref t5, V.ref l5, V.int (-(10 ^ (20 : Int).toNat))][io]? = some v) :
    ∃ d, Dz K H v d ∧ NoNum K H v ∧ d.showable = true ∧ d.depth ≤ 60 ∧ d.shown.length ≤ sizeLine := by
  have mk : ∀ {v : V} {d : PyData}, Dz K H v d → (nonum d = true ∨ ∃ n : Int, v = .int n ∧ n < 0) → d.showable = true → d.depth ≤ 60 → d.shown.length ≤ sizeLine → ∃ d, Dz K H v d ∧ NoNum K H v ∧ d.showable = true ∧ d.depth ≤ 60 ∧ d.shown.length ≤ sizeLine := fun z n h1 h2 h3 =>
    ⟨_, z, n.elim (fun m => .inr ⟨_, z, m⟩) fun m => .inl m, h1, h2, h3⟩
  match io, hv with
  | 0, hv => cases hv; exact mk (.flat .non rfl) (.inl rfl) (by decide +kernel) (by decide +kernel) (szle (by decide +kernel))
  | 1, hv => cases hv; exact mk (.flat (.bl true) rfl) (.inl rfl) (by decide +kernel) (by decide +kernel) (szle (by decide +kernel))
  | 2, hv => cases hv; exact mk (.flat (.bl false) rfl) (.inl rfl) (by decide +kernel) (by decide +kernel) (szle (by decide +kernel))
  | 3, hv => cases hv; exact mk (.flat (.int (-1)) rfl) (.inr ⟨_, rfl, by decide⟩) (by decide +kernel) (by decide +kernel) (szle (by decide +kernel))
  | 4, hv => cases hv; exact mk (.flat (.str _) rfl) (.inl rfl) (by decide +kernel) (by decide +kernel) (szle (by decide +kernel))
  | 5, hv => cases hv; exact mk (.flat (.tup (SqT.of h1) .nil) rfl) (.inl rfl) (by decide +kernel) (by decide +kernel) (szle (by decide +kernel))
  | 6, hv => cases hv; exact mk (.flat (.lst (SqL.of h2) (.cons (.int 5) .nil)) rfl) (.inl rfl) (by decide +kernel) (by decide +kernel) (szle (by decide +kernel))
  | 7, hv => cases hv; exact mk (.flat (.int _) rfl) (.inr ⟨_, rfl, by decide⟩) (by decide +kernel) (by decide +kernel) (szle (by decide +kernel))
  | io + 8, hv => simp at hv
def spLaw (K : PySem.W.Frag) : Sp := fun vs H Q _ => ∃ (l : Addr) (ns : List Int), vs = [.ref l] ∧ SqL K H l (ns.map V.int) ∧ ns.length ≤ 63 ∧ ∀ H', Q (.bl true) H'
theorem scLaw : FnScope ["script", "state", "turn", "world", "begin", "k", "zone", "some", "spot", "far", "again", "odd"] ["script"] (defScope sLaw) := ⟨rfl, rfl, rfl, by decide +kernel, rfl, by decide +kernel, by decide +kernel⟩
set_option maxHeartbeats 4000000 in
theorem ok_law {f : Addr} {fd : FuncData} (F : Fun K "law" "law" sLaw f fd) (T : Nm mg) (T2 : Zk K C) (D_law_begun : Df P w K mg base 1 "_law_begun" ["script"] [] (spBegun K)) (D_law_take : Df P w K mg base 2 "_law_take" ["state", "size"] [] spTake) (D_law_pick : Df P w K mg base 3 "_law_pick" ["state", "some"] [] spPick)
    (D_law_zone : Df P w K mg base 6 "_law_zone" ["state", "most"] [] spLZone) (D_law_made : Df P w K mg base 11 "_law_made" ["world"] [] (spCut (spMade P w C))) (D_law_spots : Df P w K mg base 5 "_law_spots" ["world", "low", "high"] [] spSpots)
    (D_offset_at : Dm P w K mg base 7 C "offset_at" ["self", "instant"] (spOffAt P w C)) (D_law_offset : Df P w K mg base 5 "_law_offset" ["world", "instant"] [] spLOff) (D_law_is_refused : Dg P w K mg base 5 "_law_is_refused" ["zone", "thing"] [] (spRef K C)) :
    FnG P w K mg base CX0 12 f fd ["script"] (spLaw K) := by
  refine funG F scLaw (fun vs H Q E h => ?_) (fun cdv A gd outer s H vs Q E hr h => ?_)
  · obtain ⟨_, _, rfl, _⟩ := h
    rfl
  · obtain ⟨l, ns, rfl, hS, hlen, k⟩ := h
    have nd := scLaw.nd
    have hu := hr.units
    refine ⟨_, (pss_cons (ps_set (i := 1) nd rfl (Or.inr rfl) (pe_df D_law_begun (hr.mono (by decide)) (pa_cons (pv 0) pa_nil)))
      (pss_cons (ps_for PassesOwn.never rfl (pi_range1 (by rfl) T.range (pa_cons (pe_op op_add pe_int (pe_callB (call_min2 rfl) (by rfl) T.min (by decide +kernel) (pa_cons (pe_callB call_len_seq (by rfl) T.len (by decide +kernel) (pa_cons (pv 0) pa_nil)) (pa_cons pe_int pa_nil)))) pa_nil)) (pg_name (i := 2) nd rfl (Or.inl rfl))
        (pss_cons (ps_set (i := 3) nd rfl (Or.inr rfl) (pe_df D_law_zone (hr.mono (by decide)) (pa_cons (pv 1) (pa_cons pe_int pa_nil))))
        (C8.pss_cut (ps_if (pt_cmpR op_eq (pe_df D_law_take (hr.mono (by decide)) (pa_cons (pv 1) (pa_cons pe_int pa_nil))) pe_int (nomark _))
          (pss_cons (ps_set (i := 4) nd rfl (Or.inr rfl) (pe_op op_add pe_int (pe_df D_law_take (hr.mono (by decide)) (pa_cons (pv 1) (pa_cons (pe_op op_pow pe_int pe_int) pa_nil)))))
          (pss_cons (ps_dput (lt1 hu) (pv 3) pe_str (pe_lc (own := [("k", 5)]) (g := (gName 5)) (tt := tYes) rfl nd (pi_range1 (by rfl) T.range (pa_cons pe_int pa_nil)) (blkOk_by (N := ["script", "state", "turn", "world", "begin", "k", "zone", "some", "spot", "far", "again", "odd"]) (sc := defScope sLaw) (by decide +kernel)) (fun _ _ _ _ _ => pg_name (i := 5) nd rfl (Or.inl rfl)) (fun _ _ _ _ _ => pts_nil) (fun _ _ _ _ _ => (pe_tup (pa_cons (pe_op op_add (pv 4) (pe_op op_mul pe_int (pv 5))) (pa_cons (pe_op op_mul pe_int (pe_op op_sub (pe_df D_law_take (hr.mono (by decide)) (pa_cons (pv 1) (pa_cons pe_int pa_nil))) pe_int)) pa_nil))))) rfl)
          (pss_one (ps_dput (lt1 hu) (pv 3) pe_str (pe_ifExp (pt_cmpR op_isN (pe_dget (lt1 hu) (pv 3) pe_str (fun _ _ => rfl)) pe_non (nomark _)) pe_non (pe_op op_add (pv 4) pe_int)) rfl))))
          pss_nil)
        (pss_cons (ps_asg (pe_tup (pa_cons (pe_df D_law_made (hr.mono (by decide)) (pa_cons (pv 3) pa_nil)) (pa_cons (pe_lst (pa_cons pe_int (pa_cons pe_int (pa_cons pe_int (pa_cons (pe_op op_pow pe_int pe_int) pa_nil))))) pa_nil))) (pg_tup (by rfl) (pgs_cons (pg_name (i := 6) nd rfl (Or.inr rfl)) (pgs_cons (pg_name (i := 7) nd rfl (Or.inl rfl)) pgs_nil))))
        (pss_cons (ps_for PassesOwn.never rfl (pi_list (pe_slice sl_list (pe_df D_law_spots (hr.mono (by decide)) (pa_cons (pv 3) (pa_cons pe_int (pa_cons (pe_op op_mul pe_int (pe_op op_pow pe_int pe_int)) pa_nil)))) po_none (po_some pe_int))) (pg_name (i := 8) nd rfl (Or.inl rfl))
          (pss_one (ps_set (i := 7) nd rfl (Or.inl rfl) (pe_op op_cat (pv 7) (pe_lst (pa_cons (pe_callB (call_max2 rfl) (by rfl) T.max (by decide +kernel) (pa_cons pe_int (pa_cons (pe_op op_sub (pv 8) pe_int) pa_nil))) (pa_cons (pv 8) (pa_cons (pe_op op_add (pv 8) pe_int) pa_nil))))))))
        (pss_cons (ps_set (i := 9) nd rfl (Or.inl rfl) (pe_df D_law_take (hr.mono (by decide)) (pa_cons (pv 1) (pa_cons (pe_op op_pow pe_int pe_int) pa_nil))))
        (pss_cons (ps_for PassesOwn.never rfl (pi_list (pe_df D_law_spots (hr.mono (by decide)) (pa_cons (pv 3) (pa_cons (pv 9) (pa_cons (pe_op op_add (pv 9) pe_int) pa_nil))))) (pg_name (i := 8) nd rfl (Or.inl rfl))
          (pss_one (ps_set (i := 7) nd rfl (Or.inl rfl) (pe_op op_cat (pv 7) (pe_lst (pa_cons (pv 8) (pa_cons (pe_op op_add (pv 8) pe_int) (pa_cons (pe_callB (call_max2 rfl) (by rfl) T.max (by decide +kernel) (pa_cons pe_int (pa_cons (pe_op op_sub (pv 8) pe_int) pa_nil))) pa_nil))))))))
        (pss_cons (ps_set (i := 7) nd rfl (Or.inl rfl) (pe_op op_cat (pv 7) (pe_lc (own := [("again", 10)]) (g := (gName 10)) (tt := tYes) rfl nd (pi_range1 (by rfl) T.range (pa_cons pe_int pa_nil)) (blkOk_by (N := ["script", "state", "turn", "world", "begin", "k", "zone", "some", "spot", "far", "again", "odd"]) (sc := defScope sLaw) (by decide +kernel)) (fun _ _ _ _ _ => pg_name (i := 10) nd rfl (Or.inl rfl)) (fun _ _ _ _ _ => pts_nil) (fun _ _ _ _ _ => (pe_df D_law_take (hr.mono (by decide)) (pa_cons (pv 1) (pa_cons (pe_op op_mul pe_int (pe_op op_pow pe_int pe_int)) pa_nil)))))))
        (pss_cons (ps_if (pt_cmpR (op_neD hu) (pe_lc (own := [("spot", 8)]) (g := (gName 8)) rfl nd (pi_list (pv 7)) (blkOk_by (N := ["script", "state", "turn", "world", "begin", "k", "zone", "some", "spot", "far", "again", "odd"]) (sc := defScope sLaw) (by decide +kernel)) (fun _ _ _ _ _ => pg_name (i := 8) nd rfl (Or.inl rfl)) (fun _ _ _ _ _ => (pts_one (pt_cmpR op_ne (pe_dm D_offset_at T2.cl (hr.mono (by decide)) (pv 6) (pa_cons (pv 8) pa_nil)) (pe_df D_law_offset (hr.mono (by decide)) (pa_cons (pv 3) (pa_cons (pv 8) pa_nil))) (nomark _)))) (fun _ _ _ _ _ => (pv 8))) (pe_lst pa_nil) (nomark _))
          (pss_one (ps_ret pe_bl))
          pss_nil)
        (pss_cons (ps_set (i := 11) nd rfl (Or.inl rfl) (pe_df D_law_pick (hr.mono (by decide)) (pa_cons (pv 1) (pa_cons (pe_lst (pa_cons pe_non (pa_cons pe_bl (pa_cons pe_bl (pa_cons (pe_un un_neg pe_int) (pa_cons pe_str (pa_cons (pe_tup pa_nil) (pa_cons (pe_lst (pa_cons pe_int pa_nil)) (pa_cons (pe_un un_neg (pe_op op_pow pe_int pe_int)) pa_nil))))))))) pa_nil))))
        (pss_one (ps_if (pt_not (pt_val (pe_dg D_law_is_refused gd (hr.mono (by decide)) (pa_cons (pv 6) (pa_cons (pv 11) pa_nil)))))
          (pss_one (ps_ret pe_bl))
          pss_nil))))))))))))
      (pss_one (ps_ret pe_bl)))), ?_⟩
    walk_at "rd"
    refine ⟨l, ns, rfl, hS, hlen, fun H1 p a b p0 a0 b0 S1 St1 => ?_⟩
    walk_at "rd"
    refine ⟨l, _, rfl, .inl (S1.seq hS), _, _, rfl, _, _, rfl, rfl, _, rfl, ?_, ?_, ?_⟩
    · rw [List.length_map]
      split <;> omega
    · rw [List.length_map]
      split <;> omega
    refine for_range (fun i σ H' => Stt p a b (2000 * i) H' ∧ ∃ v2 v3 v4 v5 v6 v7 v8 v9 v10 v11 : Option V, σ = [some (.ref l), some (.ref p), v2, v3, v4, v5, v6, v7, v8, v9, v10, v11]) ⟨St1, none, none, none, none, none, none, none, none, none, none, rfl⟩ ?_ ?_
    · rintro i σ H2 hi ⟨St2, v2, v3, v4, v5, v6, v7, v8, v9, v10, v11, rfl⟩
      have hi2 : i ≤ 10 := by
        rw [List.length_map] at hi
        split at hi <;> omega
      walk_at "rd"
      refine ⟨p, a, b, _, _, rfl, St2, by omega, by decide, by decide, fun W o chs rl H3 WA3 ln3 W0 W1 W2 W3 St3 B3 => ?_⟩
      refine ⟨fun σ' H' => ∃ (chs : List (Int × Int)) (rl : Option (Int × List Row)), WAt (cut p a H') W o chs rl ∧ chs.length ≤ 40 ∧ Stt p a b (2000 * i + 800) H' ∧ ∃ v4 : Option V, σ' = [some (.ref l), some (.ref p), some (.int (0 + (i : Int))), some (.ref W), v4, v5, v6, v7, v8, v9, v10, v11], ?_, ?_⟩
      · refine ⟨_, rfl, p, a, b, _, _, rfl, St3, by omega, by decide, by decide, fun z8 H4 _ _ St4 B4 => ?_⟩
        have WA4 := WA3.same B4.cut
        walk_at "rd"
        by_cases c : z8 = 0
        · refine iteTT (by rw [c]; exact decide_eq_true rfl) ?_
          walk_at "rd"
          refine ⟨⟨by decide, by decide, by decide⟩, ?_⟩
          walk_at "rd"
          refine ⟨p, a, b, _, _, rfl, St4, by omega, by decide, by decide, fun zb H5 zb0 zb1 St5 B5 => ?_⟩
          have WA5 := WA4.same B5.cut
          walk_at "rd"
          refine ⟨by decide, by decide, fun D hD => ?_⟩
          have nD := St5.far hD
          refine lc_range (lo := 0) (n := 40) (fun j H' => Stt p a b (2000 * i + 703 + j) H' ∧ But p a H5 H' ∧ ∃ (us : List Addr) (ps : List (Int × Int)), H' D = some (.lst (us.map V.ref)) ∧ Paired (fun t q => H' t = some (.tup [.int q.1, .int q.2])) us ps ∧ ps.length = j ∧ AscC 0 ps ∧ ∀ q ∈ ps, q.1 < 1 + zb + 3600 * (j : Int)) ?_ ?_ ?_
          · exact ⟨(St5.same (Same.new hD)).mono (by omega), But.of (Same.new hD), [], [], upd_same, .nil, rfl, trivial, fun q h => absurd h (by simp)⟩
          · rintro j H6 hj ⟨St6, B6, us, ps, hDl, pr, lp, asc, bel⟩
            have lu : us.length = ps.length := pr.length
            walk_at "rd"
            refine ⟨.inl ⟨by decide, by decide⟩, ?_⟩
            walk_at "rd"
            refine ⟨p, a, b, _, _, rfl, St6, by omega, by decide, by decide, fun zo H7 zo0 zo1 St7 B7 => ?_⟩
            walk_at "rd"
            refine ⟨.inl ⟨by decide, by decide⟩, ?_⟩
            walk_at "rd"
            refine ⟨szle (by simp), fun t ht => ?_⟩
            have hD7 := B7 _ _ hDl nD.1 nD.2.1
            have pr7 : Paired (fun t q => H7 t = some (.tup [.int q.1, .int q.2])) us ps := Paired.mapP pr fun t q e => St6.ts B7 _ _ e
            have s8 := Same.new (o := .tup [V.int (1 + zb + 3600 * (0 + (j : Int))), V.int (60 * (zo - 1000))]) ht
            have et : (upd H7 t (.tup [V.int (1 + zb + 3600 * (0 + (j : Int))), V.int (60 * (zo - 1000))])) t = some (.tup [V.int (1 + zb + 3600 * (0 + (j : Int))), V.int (60 * (zo - 1000))]) := upd_same
            have keep : ∀ (o : HO) (c : Addr) (vs : List L2.V), (upd H7 t (.tup [V.int (1 + zb + 3600 * (0 + (j : Int))), V.int (60 * (zo - 1000))])) c = some (.tup vs) → (upd (upd H7 t (.tup [V.int (1 + zb + 3600 * (0 + (j : Int))), V.int (60 * (zo - 1000))])) D o) c = some (.tup vs) := fun o c vs g => by
              have : c ≠ D := fun q => by rw [q, s8 _ _ hD7] at g; cases g
              rw [upd_ne this]; exact g
            refine ⟨_, s8 _ _ hD7, by rw [List.length_map]; exact szl (by omega), ((St7.same s8).put nD.1 nD.2.1 nD.2.2).mono (by omega), fun c o e h1 h2 => ?_, us ++ [t], ps ++ [(1 + zb + 3600 * (0 + (j : Int)), 60 * (zo - 1000))], by rw [upd_same, List.map_append]; rfl, Paired.snoc (Paired.mapP pr7 fun a b r => keep _ _ _ (s8 _ _ r)) (keep _ _ _ et), by rw [List.length_append, lp]; rfl, asc.snoc (by show (0 : Int) < 1 + zb + 3600 * (0 + (j : Int)); omega) (fun q hq => by have := bel q hq; show q.1 < 1 + zb + 3600 * (0 + (j : Int)); omega) (by show -86399 ≤ 60 * (zo - 1000) ∧ 60 * (zo - 1000) ≤ 86399; omega), fun q hq => ?_⟩
            · have : c ≠ D := fun g => by rw [g, hD] at e; cases e
              rw [upd_ne this]
              exact s8 _ _ (B7 _ _ (B6 c o e h1 h2) h1 h2)
            · rcases List.mem_append.mp hq with g | g
              · have := bel q g; push_cast; omega
              · cases List.mem_singleton.mp g
                show 1 + zb + 3600 * (0 + (j : Int)) < 1 + zb + 3600 * ((j + 1 : Nat) : Int)
                push_cast; omega
          · rintro H6 ⟨St6, B6, us, ps, hDl, pr, lp, asc, bel⟩
            have WA6 := WA5.same B6.cut
            obtain ⟨L6, vr, vt, hW6, pl6, gv6⟩ := WA6.ex
            have hW := cut_same _ _ _ _ _ hW6
            walk_at "rd"
            refine ⟨W, _, rfl, DPut.k (k := Sum.inr ("changes" : Str)) hW (szl (by show 4 ≤ 8000000; decide)), ?_⟩
            rw [wK_put_chs]
            have St7 := St6.put (o := .dK (wK o D vr vt)) W1 W2 W3
            have nDW : D ≠ W := fun g => by rw [g, hW] at hDl; cases hDl
            have fin : ∀ (rl' : Option (Int × List Row)) (x : V), Given (cut p a H6) ps vr x rl' → WAt (cut p a (upd (upd H6 W (.dK (wK o D vr vt))) W (.dK (wK o D vr x)))) W o ps rl' := fun rl' x g => by
              have keep : TSame H6 (upd (upd H6 W (.dK (wK o D vr vt))) W (.dK (wK o D vr x))) := fun c vs e => by
                have : c ≠ W := fun z => by rw [z, hW] at e; cases e
                rw [upd_ne this, upd_ne this]; exact e
              have St8 := St7.put (o := .dK (wK o D vr x)) W1 W2 W3
              have keepC : TSame (cut p a H6) (cut p a (upd (upd H6 W (.dK (wK o D vr vt))) W (.dK (wK o D vr x)))) := fun c vs e => St8.tcut _ _ (keep _ _ (cut_same _ _ _ _ _ e))
              refine ⟨⟨D, vr, x, cut_of upd_same W1 W2, ⟨us, cut_of (by rw [upd_ne nDW, upd_ne nDW]; exact hDl) nD.1 nD.2.1, Paired.mapP pr fun t q e => St8.tcut _ _ (keep _ _ e)⟩, ?_⟩, WA6.o0, WA6.o1, asc, by omega⟩
              cases g with
              | no => exact .no
              | yes R ok tu al bl s0 => exact .yes (R.ts keepC) ok tu al bl s0
            walk_at "rd"
            refine ⟨W, _, rfl, .inl ⟨_, Sum.inr "rule", .inl upd_same, rfl, wK_rule.symm⟩, ?_⟩
            walk_at "rd"
            cases gv6 with
            | no =>
              walk_at "rd"
              refine ⟨W, _, rfl, DPut.k (k := Sum.inr ("since" : Str)) upd_same (szl (by show 4 ≤ 8000000; decide)), ?_⟩
              rw [wK_put_since]
              exact ⟨ps, none, fin none .non .no, by omega, (St7.put W1 W2 W3).mono (by omega), _, rfl⟩
            | yes R ok tu al bl s0 =>
              walk_at "rd"
              refine ⟨W, _, rfl, DPut.k (k := Sum.inr ("since" : Str)) upd_same (szl (by show 4 ≤ 8000000; decide)), ?_⟩
              rw [wK_put_since]
              exact ⟨ps, _, fin _ _ (.yes R ok tu al (fun q hq => by have := bel q hq; omega) (by omega)), by omega, (St7.put W1 W2 W3).mono (by omega), _, rfl⟩
        · refine iteFF (decide_eq_false fun g => c (V.int.inj g)) ?_
          exact ⟨chs, rl, WA4, by omega, St4.mono (by omega), _, rfl⟩
      · rintro σ H4 ⟨chs, rl, WA4, ln4, St4, v4, rfl⟩
        walk_at "rd"
        obtain ⟨ws4, cs4, rest4, turn4, hp4, ha4, _⟩ := id St4.ex
        refine ⟨p, a, .inl ⟨_, hp4⟩, .inr ⟨_, ha4⟩, W, o, chs, rl, rfl, WA4, fun x H0 o' chs' rl' S0 Z0 eqz H5 mp ma mb np na => ?_⟩
        have ec : cut p a H5 = H0 := by
          funext c
          by_cases c1 : c = p
          · rw [c1, np]; exact cut_at1
          · by_cases c2 : c = a
            · rw [c2, na]; exact cut_at2
            · unfold cut
              rw [if_neg (by rintro (z | z) <;> contradiction)]
              exact mb c c1 c2
        have S45 : Same H4 H5 := fun c u e => by
          by_cases c1 : c = p
          · rw [c1, mp, ← c1]; exact e
          · by_cases c2 : c = a
            · rw [c2, ma, ← c2]; exact e
            · rw [mb c c1 c2]
              exact S0 _ _ (cut_of e c1 c2)
        have Z5 : Wz P w C p a b W x o chs rl o' chs' rl' (2000 * i + 800) H5 := ⟨St4.same S45, WA4.same (Same.cut S45), by rw [ec]; exact Z0⟩
        clear ec mp ma mb np na Z0 S0
        walk_at "rd"
        refine ⟨⟨by decide, by decide, by decide⟩, ?_⟩
        walk_at "rd"
        refine ⟨szle (by simp), fun Ls hLs => ?_⟩
        have s6 := Same.new (o := .lst [V.int 0, V.int 1, V.int 86399, V.int (10 ^ (9 : Int).toNat)]) hLs
        have nLs := Z5.st.far hLs
        have N6 : NumsAt (cut p a (upd H5 Ls (.lst [V.int 0, V.int 1, V.int 86399, V.int (10 ^ (9 : Int).toNat)]))) Ls 4 := ⟨[0, 1, 86399, 10 ^ (9 : Int).toNat], cut_of upd_same nLs.1 nLs.2.1, by decide, by decide⟩
        have Z6 := Z5.same s6
        clear s6
        generalize (upd H5 Ls (.lst [V.int 0, V.int 1, V.int 86399, V.int (10 ^ (9 : Int).toNat)])) = H6 at *
        walk_at "rd"
        refine ⟨szle (by simp), fun t ht => ?_⟩
        refine ⟨t, _, rfl, SqT.of upd_same, rfl, ?_⟩
        have s7 := Same.new (o := .tup [V.ref x, V.ref Ls]) ht
        have N7 := N6.same (Same.cut (p := p) (q := a) s7)
        have Z7 := Z6.same s7
        clear s7
        generalize (upd H6 t (.tup [V.ref x, V.ref Ls])) = H7 at *
        walk_at "rd"
        refine ⟨⟨by decide, by decide, by decide⟩, ?_⟩
        walk_at "rd"
        refine ⟨.inl ⟨by decide, by decide⟩, ?_⟩
        walk_at "rd"
        refine ⟨W, 0, _, o, chs, rl, rfl, Z7.wat, ln4, by decide, by decide, by decide, fun L8 H8 S8 N8 => ?_⟩
        have Z8 := Z7.same S8
        have N78 := N7.same (Same.cut (p := p) (q := a) S8)
        obtain ⟨xs8, eL8, x80, x8l⟩ := N8
        walk_at "rd"
        refine ⟨L8, _, rfl, SqL.of eL8, fun q9 hq9 => ?_⟩
        obtain ⟨ys9, e9, y90, y9l⟩ : ∃ ys : List Int, cutV (xs8.map V.int) none (some 60) = ys.map V.int ∧ (∀ y ∈ ys, 0 ≤ y) ∧ ys.length ≤ 200 := by
          obtain ⟨ys, e, y0, yl⟩ := cut_nums none (some 60) x80
          exact ⟨ys, e, y0, by omega⟩
        rw [e9]
        have s9 := Same.new (o := .lst (ys9.map V.int)) hq9
        have eq9 : (upd H8 q9 (.lst (ys9.map V.int))) q9 = some (.lst (ys9.map V.int)) := upd_same
        have Z9 := Z8.same s9
        have N9 := N78.same (Same.cut (p := p) (q := a) s9)
        clear s9
        generalize (upd H8 q9 (.lst (ys9.map V.int))) = H9 at *
        refine ⟨q9, rfl, ⟨_, SqL.of eq9⟩, for_list (K := K) (a := q9) (xs := ys9.map V.int) (fun j σ H' => Same H9 H' ∧ Wz P w C p a b W x o chs rl o' chs' rl' (2000 * i + 800) H' ∧ ∃ Lz : Addr, NumsAt (cut p a H') Lz (4 + 3 * j) ∧ ∃ v8 : Option V, σ = [some (.ref l), some (.ref p), some (.int (0 + (i : Int))), some (.ref W), v4, v5, some (.ref x), some (.ref Lz), v8, v9, v10, v11])
          ⟨Same.refl _, Z9, Ls, N9, _, rfl⟩ (fun j σ H' hi inv => SqL.of (inv.1 _ _ eq9)) (fun j y' σ H10 hy inv => ?_) fun σ H10 inv => ?_⟩
        · obtain ⟨S10, Z10, Lz, ⟨zs, ez, z0, zl⟩, v8, rfl⟩ := inv
          rw [List.getElem?_map] at hy
          obtain ⟨y, hy', rfl⟩ := Option.map_eq_some_iff.mp hy
          have y0 := y90 y (List.mem_of_getElem? hy')
          have lj : j < ys9.length := (List.getElem?_eq_some_iff.mp hy').1
          walk_at "rd"
          refine ⟨szle (by simp), fun q hq => ?_⟩
          have s11 := Same.new (o := .lst [V.int (if y - 1 > 0 then y - 1 else 0), V.int y, V.int (y + 1)]) hq
          have eq11 : (upd H10 q (.lst [V.int (if y - 1 > 0 then y - 1 else 0), V.int y, V.int (y + 1)])) q = some (.lst [V.int (if y - 1 > 0 then y - 1 else 0), V.int y, V.int (y + 1)]) := upd_same
          have S11 := S10.trans s11
          have Z11 := Z10.same s11
          have ez11 := s11 _ _ (cut_same _ _ _ _ _ ez)
          clear s11
          generalize (upd H10 q (.lst [V.int (if y - 1 > 0 then y - 1 else 0), V.int y, V.int (y + 1)])) = H11 at *
          walk_at "rd"
          refine ⟨Lz, q, _, _, rfl, rfl, ez11, eq11, szle (by rw [List.length_map]; simp only [List.length_cons, List.length_nil]; omega), fun r hr => ?_⟩
          have nr := Z11.st.far hr
          have s12 := Same.new (o := .lst (zs.map V.int ++ [V.int (if y - 1 > 0 then y - 1 else 0), V.int y, V.int (y + 1)])) hr
          refine ⟨S11.trans s12, Z11.same s12, r, ⟨zs ++ [(if y - 1 > 0 then y - 1 else 0), y, (y + 1)], cut_of (by rw [upd_same, List.map_append]; rfl) nr.1 nr.2.1, fun u hu => ?_, by rw [List.length_append]; simp only [List.length_cons, List.length_nil]; omega⟩, _, rfl⟩
          rcases List.mem_append.mp hu with g | g
          · exact z0 u g
          · simp only [List.mem_cons, List.not_mem_nil, or_false] at g
            rcases g with g | g | g
            all_goals (rw [g]; first | omega | (split <;> omega))
        · obtain ⟨S10, Z10, Lz, N10, v8, rfl⟩ := inv
          rw [List.length_map] at N10
          walk_at "rd"
          refine ⟨⟨by decide, by decide, by decide⟩, ?_⟩
          walk_at "rd"
          refine ⟨p, a, b, _, _, rfl, Z10.st, by omega, by decide, by decide, fun far H11 far0 far1 St11 B11 => ?_⟩
          have Z11 := Z10.but B11 St11
          have N11 : NumsAt (cut p a H11) Lz 604 := by
            obtain ⟨zs, ez, z0, zl⟩ := N10
            exact ⟨zs, B11.cut _ _ ez, z0, by omega⟩
          walk_at "rd"
          refine ⟨W, far, _, o, chs, rl, rfl, Z11.wat, ln4, far0, by omega, by omega, fun L12 H12 S12 N12 => ?_⟩
          have Z12 := Z11.same S12
          have N112 := N11.same (Same.cut (p := p) (q := a) S12)
          obtain ⟨ys12, e12, y120, y12l⟩ := N12
          walk_at "rd"
          refine ⟨⟨_, SqL.of e12⟩, for_list (K := K) (a := L12) (xs := ys12.map V.int) (fun j σ H' => Same H12 H' ∧ Wz P w C p a b W x o chs rl o' chs' rl' (2000 * i + 801) H' ∧ ∃ Lz : Addr, NumsAt (cut p a H') Lz (604 + 3 * j) ∧ ∃ v8 : Option V, σ = [some (.ref l), some (.ref p), some (.int (0 + (i : Int))), some (.ref W), v4, v5, some (.ref x), some (.ref Lz), v8, some (.int far), v10, v11])
            ⟨Same.refl _, Z12, Lz, N112, _, rfl⟩ (fun j σ H' hi inv => SqL.of (inv.1 _ _ e12)) (fun j y' σ H10 hy inv => ?_) fun σ H10 inv => ?_⟩
          · obtain ⟨S10, Z10, Lz, ⟨zs, ez, z0, zl⟩, v8, rfl⟩ := inv
            rw [List.getElem?_map] at hy
            obtain ⟨y, hy', rfl⟩ := Option.map_eq_some_iff.mp hy
            have y0 := y120 y (List.mem_of_getElem? hy')
            have lj : j < ys12.length := (List.getElem?_eq_some_iff.mp hy').1
            walk_at "rd"
            refine ⟨szle (by simp), fun q hq => ?_⟩
            have s11 := Same.new (o := .lst [V.int y, V.int (y + 1), V.int (if y - 1 > 0 then y - 1 else 0)]) hq
            have eq11 : (upd H10 q (.lst [V.int y, V.int (y + 1), V.int (if y - 1 > 0 then y - 1 else 0)])) q = some (.lst [V.int y, V.int (y + 1), V.int (if y - 1 > 0 then y - 1 else 0)]) := upd_same
            have S11 := S10.trans s11
            have Z11 := Z10.same s11
            have ez11 := s11 _ _ (cut_same _ _ _ _ _ ez)
            clear s11
            generalize (upd H10 q (.lst [V.int y, V.int (y + 1), V.int (if y - 1 > 0 then y - 1 else 0)])) = H11 at *
            walk_at "rd"
            refine ⟨Lz, q, _, _, rfl, rfl, ez11, eq11, szle (by rw [List.length_map]; simp only [List.length_cons, List.length_nil]; omega), fun r hr => ?_⟩
            have nr := Z11.st.far hr
            have s12 := Same.new (o := .lst (zs.map V.int ++ [V.int y, V.int (y + 1), V.int (if y - 1 > 0 then y - 1 else 0)])) hr
            refine ⟨S11.trans s12, Z11.same s12, r, ⟨zs ++ [y, (y + 1), (if y - 1 > 0 then y - 1 else 0)], cut_of (by rw [upd_same, List.map_append]; rfl) nr.1 nr.2.1, fun u hu => ?_, by rw [List.length_append]; simp only [List.length_cons, List.length_nil]; omega⟩, _, rfl⟩
            rcases List.mem_append.mp hu with g | g
            · exact z0 u g
            · simp only [List.mem_cons, List.not_mem_nil, or_false] at g
              rcases g with g | g | g
              all_goals (rw [g]; first | omega | (split <;> omega))
          · obtain ⟨S10, Z13, Lw, N13, v8', rfl⟩ := inv
            rw [List.length_map] at N13
            have N14 : NumsAt (cut p a H10) Lw 1204 := by
              obtain ⟨zs, ez, z0, zl⟩ := N13
              exact ⟨zs, ez, z0, by omega⟩
            obtain ⟨zs, ez, z0, zl⟩ := N14
            walk_at "rd"
            refine ⟨by decide, by decide, fun D hD => ?_⟩
            have nD := Z13.st.far hD
            refine lc_range (lo := 0) (n := 8) (fun j H' => Stt p a b (2000 * i + 801 + j) H' ∧ But p a H10 H' ∧ ∃ ms : List Int, H' D = some (.lst (ms.map V.int)) ∧ (∀ m ∈ ms, 0 ≤ m) ∧ ms.length = j) ?_ ?_ ?_
            · exact ⟨(Z13.st.same (Same.new hD)).mono (by omega), But.of (Same.new hD), [], upd_same, (fun _ h => nomatch h), rfl⟩
            · rintro j H11 hj ⟨St14, B14, ms, hDl, m0, lm⟩
              walk_at "rd"
              refine ⟨⟨by decide, by decide, by decide⟩, ?_⟩
              walk_at "rd"
              refine ⟨.inl ⟨by decide, by decide⟩, ?_⟩
              walk_at "rd"
              refine ⟨p, a, b, _, _, rfl, St14, by omega, by decide, by decide, fun z H12 zp z1 St15 B15 => ?_⟩
              have hD12 := B15 _ _ hDl nD.1 nD.2.1
              refine ⟨_, hD12, by rw [List.length_map]; exact szl (by omega), (St15.put nD.1 nD.2.1 nD.2.2).mono (by omega), fun c o e h1 h2 => ?_, ms ++ [z], by rw [upd_same, List.map_append]; rfl, fun u hu => ?_, by rw [List.length_append, lm]; rfl⟩
              · have : c ≠ D := fun g => by rw [g, hD] at e; cases e
                rw [upd_ne this]
                exact B15 _ _ (B14 c o e h1 h2) h1 h2
              · rcases List.mem_append.mp hu with g | g
                · exact m0 u g
                · cases List.mem_singleton.mp g
                  exact zp
            · rintro H11 ⟨St14, B14, ms, hDl, m0, lm⟩
              have Z14 := Z13.but B14 St14
              have ez11 := cut_same _ _ _ _ _ (B14.cut _ _ ez)
              walk_at "rd"
              refine ⟨Lw, D, _, _, rfl, rfl, ez11, hDl, szle (by rw [List.length_map, List.length_map]; omega), fun r hr => ?_⟩
              have er : (upd H11 r (.lst (zs.map V.int ++ ms.map V.int))) r = some (.lst ((zs ++ ms).map V.int)) := by rw [upd_same, List.map_append]
              have s12 := Same.new (o := .lst (zs.map V.int ++ ms.map V.int)) hr
              have Z15 := Z14.same s12
              have all0 : ∀ u ∈ zs ++ ms, 0 ≤ u := fun u hu => (List.mem_append.mp hu).elim (z0 u) (m0 u)
              clear s12
              generalize (upd H11 r (.lst (zs.map V.int ++ ms.map V.int))) = H12 at *
              generalize (zs ++ ms) = ws at *
              walk_at "rd"
              refine ⟨⟨_, SqL.of er⟩, fun D2 hD2 => ?_⟩
              refine lc_list (K := K) (a := r) (xs := ws.map V.int) (fun i H' => Same H12 H' ∧ H' D2 = some (.lst []))
                ⟨Same.new hD2, upd_same⟩ (fun i H' _ ⟨s1, _⟩ => SqL.of (s1 _ _ er)) ?_ ?_
              · rintro j y' H13 hj ⟨S13, d13⟩
                rw [List.getElem?_map] at hj
                obtain ⟨y, hy, rfl⟩ := Option.map_eq_some_iff.mp hj
                have y0 := all0 y (List.mem_of_getElem? hy)
                refine ⟨rfl, ?_⟩
                have Z16 := Z15.same S13
                obtain ⟨dxz, fz, Lz', hxz, _⟩ := Z16.zat.ex
                walk_at "rd"
                refine ⟨x, dxz, fz, rfl, hxz, zF_none (by decide +kernel) (Z16.zat.nof _ _ hxz), ?_⟩
                walk_at "rd"
                refine ⟨x, o', y, chs', rl', rfl, Z16.zat, y0, fun H14 S14 => ?_⟩
                walk_at "rd"
                refine ⟨W, o, y, chs, rl, rfl, Z16.wat.same S14, fun H15 S15 => ?_⟩
                rw [eqz y y0]
                walk_at "rd"
                refine iteFF (by simp) ?_
                exact ⟨(S13.trans S14).trans S15, S15 _ _ (S14 _ _ d13)⟩
              · rintro H13 ⟨S13, d13⟩
                have Z16 := Z15.same S13
                walk_at "rd"
                refine ⟨szle (by simp), fun q hq => ?_⟩
                have s14 := Same.new (o := .lst []) hq
                have Z17 := Z16.same s14
                refine ⟨.list [], .list [], .lst (SqL.of (s14 _ _ d13)) .nil, .lst (SqL.of upd_same) .nil, by decide, by decide, false, by simp [PyData.eqv, PyData.eqvAll], ?_⟩
                refine iteFF rfl ?_
                clear s14
                generalize (upd H13 q (.lst [])) = H14 at *
                walk_at "rd"
                refine ⟨szle (by simp), fun t5 ht5 => ?_⟩
                have s15 := Same.new (o := .tup []) ht5
                have e15 : (upd H14 t5 (.tup [])) t5 = some (.tup []) := upd_same
                have Z18 := Z17.same s15
                clear s15
                generalize (upd H14 t5 (.tup [])) = H15 at *
                walk_at "rd"
                refine ⟨szle (by simp), fun l5 hl5 => ?_⟩
                have n5 := Z18.st.far hl5
                have s16 := Same.new (o := .lst [V.int 5]) hl5
                have e16 : (upd H15 l5 (.lst [V.int 5])) l5 = some (.lst [V.int 5]) := upd_same
                have Z19 := Z18.same s16
                have t16 := s16 _ _ e15
                clear s16
                generalize (upd H15 l5 (.lst [V.int 5])) = H16 at *
                walk_at "rd"
                refine ⟨⟨by decide, by decide, by decide⟩, ?_⟩
                walk_at "rd"
                refine ⟨szle (by simp), fun g hg => ?_⟩
                have ng := Z19.st.far hg
                have W17 := pick_new Z19.st hg [V.non, V.bl true, V.bl false, V.int (-1), V.str ("0" : Str), V.ref t5, V.ref l5, V.int (-(10 ^ (20 : Int).toNat))]
                have s17 := Same.new (o := .lst [V.non, V.bl true, V.bl false, V.int (-1), V.str ("0" : Str), V.ref t5, V.ref l5, V.int (-(10 ^ (20 : Int).toNat))]) hg
                have Z20 := Z19.same s17
                have t17 := s17 _ _ t16
                have e17 := s17 _ _ e16
                walk_at "rd"
                refine ⟨p, a, b, g, _, _, rfl, W17.1, by omega, W17.2.1, W17.2.2.1, W17.2.2.2, by show 0 < 8; decide, by show 8 ≤ 1000; decide, fun io v H20 hv St20 B20 => ?_⟩
                have Z21 := Z20.but B20 St20
                have t20 := Z20.st.ts B20 _ _ t17
                have e20 := B20 _ _ e17 n5.1 n5.2.1
                obtain ⟨d, Dv, nn, sh, dp, sz⟩ : ∃ d, Dz K H20 v d ∧ NoNum K H20 v ∧ d.showable = true ∧ d.depth ≤ 60 ∧ d.shown.length ≤ sizeLine := odd_ok t20 e20 hv
                obtain ⟨dxz, fz, Lz', hxz, _⟩ := Z21.zat.ex
                walk_at "rd"
                refine ⟨x, dxz, fz, v, d, rfl, hxz, zF_none (by decide +kernel) (Z21.zat.nof _ _ hxz), Dv, nn, sh, dp, sz, fun H21 S21 => ?_⟩
                walk_at "rd"
                refine iteFF rfl ?_
                exact ⟨(Z21.st.same S21).mono (by omega), _, _, _, _, _, _, _, _, _, _, rfl⟩
    · rintro σ H2 ⟨St2, v2, v3, v4, v5, v6, v7, v8, v9, v10, v11, rfl⟩
      walk_at "rd"
      exact k H2
end
end Cf
/-! The end of a law whose def is promised where no repr is under way. -/
namespace Cf
open PySem PySem.Spec PyProof.Rows L2
section
variable {P : Program} {w : World} {K : PySem.W.Frag} {mg mb : Str → Option Value} {k : Nat} {fa a : Addr} {fd : FuncData} {x : Str} {sp : Sp} {st : Shared} {vs : List Value} {ns : List Int}
/-- the script's own object -/
def scrO (vs : List Value) : Obj := { cls := .type "list", data := .seq vs.toArray }
/-- nothing is tracked but the script, where it is none of the module's own objects -/
noncomputable def scrH (K : PySem.W.Frag) (a : Addr) (vs : List Value) (ns : List Int) : Hp := fun b =>
  open Classical in if b = a ∧ K.lookup a = none then some (.frz (scrO vs) (.lst (ns.map V.int))) else none
theorem scrH_some {b : Addr} {u : HO} (h : scrH K a vs ns b = some u) : b = a ∧ K.lookup a = none ∧ u = .frz (scrO vs) (.lst (ns.map V.int)) := by
  unfold scrH at h
  split at h
  · rename_i c
    exact ⟨c.1, c.2, (Option.some.inj h).symm⟩
  · cases h
theorem scrH_at (h : K.lookup a = none) : scrH K a vs ns a = some (.frz (scrO vs) (.lst (ns.map V.int))) := by
  unfold scrH
  exact if_pos ⟨rfl, h⟩
theorem scrH_no (h : ∀ o, K.lookup a = some o → True) {b : Addr} (hb : b ≠ a ∨ K.lookup a ≠ none) : scrH K a vs ns b = none := by
  unfold scrH
  refine if_neg fun c => ?_
  rcases hb with z | z
  · exact z c.1
  · exact z c.2
theorem law_g (KX : K.In st.heap) (hns : st.heap.Ns mainGlobals mg) (hb : st.heap.Ns builtinsNs mb) (hbb : ∀ x : Str, x ≠ "__name__" → mb x = bootBuiltins x) (lim : st.heap.NoLimit) (hg : st.gens = #[])
    (ha : st.heap.get? a = some (scrO vs)) (hi : IntsAre vs ns) (hl : ns.length ≤ sizeLine) (room : Room k callerA)
    (F : ∀ base : Heap, K.In base → base.Ns mainGlobals mg → FnG P w K mg base CX0 k fa fd [x] sp) (hbind : ∀ (s : Shared) (u : Value), BindsTo s fd ⟨[u], []⟩ [(x, u)])
    (hsp : ∀ H : Hp, SqL K H a (ns.map V.int) → sp [.ref a] H (fun v _ => v = .bl true) fun _ _ _ => False) :
    codeAny (model P w) callerA (.call (.ref fa) ⟨[.ref a], []⟩) (fun r s' => r = .ok (.ret (.bool true)) ∧ OldK st.heap s'.heap ∧ s'.os = st.os ∧ AllBare s'.gens) st := by
  have vals := vals_ints hi
  have len := hi.length
  have inH : SqL K (scrH K a vs ns) a (ns.map V.int) := by
    cases q : K.lookup a with
    | none => exact Or.inl (Or.inr ⟨_, scrH_at q⟩)
    | some o =>
      have e := KX a o q
      rw [ha] at e
      cases e
      refine Or.inr ⟨_, vs.toArray, _, q, rfl, rfl, rfl, ?_, ?_⟩
      · rw [List.size_toArray]; omega
      · simpa using vals
  have held : HOk P w (scrH K a vs ns) st.heap := by
    intro b u e
    obtain ⟨rfl, _, rfl⟩ := scrH_some e
    refine ⟨ha, ?_, vs, _, vals, ha⟩
    rw [List.length_map]
    exact hl
  -- what is not the script stands in the base
  have put : ∀ {b : Addr} {o : Obj}, st.heap.get? b = some o → scrH K a vs ns b = none → (hidT st.heap (scrH K a vs ns)).get? b = some o := fun e n => hidT_get e n
  have names : ∀ {b : Addr} {m : Str → Option Value}, st.heap.Ns b m → (hidT st.heap (scrH K a vs ns)).Ns b m := by
    rintro b m ⟨o, es, ep, e, d, r⟩
    refine ⟨o, es, ep, put e ?_, d, r⟩
    cases q : scrH K a vs ns b with
    | none => rfl
    | some u =>
      obtain ⟨rfl, _, _⟩ := scrH_some q
      rw [ha] at e
      cases e
      cases (show Data.seq vs.toArray _ = Data.dict es ep from d)
  have inB : K.In (hidT st.heap (scrH K a vs ns)) := by
    intro b o e
    refine put (KX b o e) ?_
    cases q : scrH K a vs ns b with
    | none => rfl
    | some u =>
      obtain ⟨rfl, z, _⟩ := scrH_some q
      rw [z] at e
      cases e
  have md : Mod K mg (hidT st.heap (scrH K a vs ns)) := by
    obtain ⟨mc, l1, l2⟩ := lim
    exact { kin := inB, glob := names hns, blt := ⟨mb, names hb, hbb⟩, nolimit := ⟨mc, names l1, l2⟩ }
  have env : Env0 P w K mg (hidT st.heap (scrH K a vs ns)) callerA [] st (scrH K a vs ns) :=
    { frames := rfl, mod := md, bs := fun _ _ e => of_hidT e, bsz := Nat.le_of_eq (hidT_size _ _), funs := trivial, frf := fun b hb => (by cases hb), hok := held, bare := .of_eq hg }
  refine codeAny_mono ((F _ inB (names hns)).go callerA rfl [] st (scrH K a vs ns) ⟨[.ref a], []⟩ [.ref a] [.ref a] _ _ room env (hbind st (.ref a)) (.cons rfl .nil) (hsp _ inH)) ?_
  intro r s' h
  match r, h with
  | .error e, h => exact (h : False).elim
  | .ok .next, h => exact (h : False).elim
  | .ok .brk, h => exact (h : False).elim
  | .ok .cont, h => exact (h : False).elim
  | .ok (.ret u), ⟨v, H', os, bare, un, hok', rv, q⟩ =>
    subst q
    cases (show u = Value.bool true from rv)
    refine ⟨rfl, OldK.of_keep fun b o e => ?_, os, bare⟩
    cases q : scrH K a vs ns b with
    | none => exact un.keep b o e q (by intro z; cases z) (by intro z; cases z)
    | some u =>
      obtain ⟨rfl, _, rfl⟩ := scrH_some q
      have z := un.frzs b _ _ q
      obtain ⟨e2, _⟩ := hok' b _ z
      rw [ha] at e
      cases e
      exact e2
end
theorem walk_g {l : PySem.W.OpenLaw} {n k : Nat} {q : Program} {loose : List Str} {XP : (Str → Option Value) → Heap → Prop} {YP : World → Heap → Prop} {d : DefRec} {K : Params → PySem.W.Frag} {sp : PySem.W.Frag → Sp} {x : Str}
    (most : l.most = some n) (n2 : n ≤ sizeLine) (dflt : d.params.defaults = []) (room : Room k callerA) (hY : ∀ (w : World) (h : Heap), YP w h → (K w.params).In h)
    (F : ∀ (w : World) (mg : Str → Option Value) (fa : Addr) (h : Heap), (K w.params).In h → h.Ns mainGlobals mg → mg d.name = some (.ref fa) →
      ∃ fd : FuncData, (∀ (s : Shared) (u : Value), BindsTo s fd ⟨[u], []⟩ [(x, u)]) ∧ ∀ base : Heap, (K w.params).In base → base.Ns mainGlobals mg → FnG l.prog w (K w.params) mg base CX0 k fa fd [x] (sp (K w.params)))
    (hsp : ∀ (K : PySem.W.Frag) (H : Hp) (a : Addr) (ns : List Int), ns.length ≤ n → SqL K H a (ns.map V.int) → sp K [.ref a] H (fun v _ => v = .bl true) fun _ _ _ => False) :
    PySem.W.WalkO q loose XP YP l.row.toRowW d [] (fun f vs => PySem.call f vs) := by
  apply Att.attach_call most dflt
  intro w s0 s1 mg mb fa o pm cd doc a vs ns G Y ho hd hcd hmg hobj hints hlen hg
  have inK := hY w _ Y
  obtain ⟨fd, hb, hF⟩ := F w mg fa _ inK G.T.g hmg
  exact law_g inK G.T.g G.T.b G.T.builtins G.T.nolimit hg hobj hints (Nat.le_trans hlen n2) room hF hb fun H hS => hsp _ H a ns hlen hS
end Cf
namespace Cf
open PySem L2 PySem.Spec PyProof.Rows

set_option maxHeartbeats 4000000 in
theorem all_mk {l : PySem.W.OpenLaw} {w : World} {K : PySem.W.Frag} {h : Heap} {mg : Str → Option Value} {fa : Addr} (X : K.In h) (G : h.Ns mainGlobals mg) (hfa : mg "law" = some (.ref fa))
    {f0 : Addr} {od0 an0 : Option Addr} {sl0 : Array (Option Value)} {oc0 kV0 dc0 pm0 cd0 ct0 : Value}
    {f1 : Addr} {od1 an1 : Option Addr} {sl1 : Array (Option Value)} {oc1 kV1 dc1 pm1 cd1 ct1 : Value}
    {T1 : Addr} {oT1 : Value} {dT1 : Option Addr} {nT1 : Nat} {sT1 : Array (Option Value)}
    {f2 : Addr} {od2 an2 : Option Addr} {sl2 : Array (Option Value)} {oc2 kV2 dc2 pm2 cd2 ct2 : Value}
    {f3 : Addr} {od3 an3 : Option Addr} {sl3 : Array (Option Value)} {oc3 kV3 dc3 pm3 cd3 ct3 : Value}
    {f4 : Addr} {od4 an4 : Option Addr} {sl4 : Array (Option Value)} {oc4 kV4 dc4 pm4 cd4 ct4 : Value}
    {f5 : Addr} {od5 an5 : Option Addr} {sl5 : Array (Option Value)} {oc5 kV5 dc5 pm5 cd5 ct5 : Value}
    {f6 : Addr} {od6 an6 : Option Addr} {sl6 : Array (Option Value)} {oc6 kV6 dc6 pm6 cd6 ct6 : Value}
    {f7 : Addr} {od7 an7 : Option Addr} {sl7 : Array (Option Value)} {oc7 kV7 dc7 pm7 cd7 ct7 : Value}
    {f8 : Addr} {od8 an8 : Option Addr} {sl8 : Array (Option Value)} {oc8 kV8 dc8 pm8 cd8 ct8 : Value}
    {f9 : Addr} {od9 an9 : Option Addr} {sl9 : Array (Option Value)} {oc9 kV9 dc9 pm9 cd9 ct9 : Value}
    {f10 : Addr} {od10 an10 : Option Addr} {sl10 : Array (Option Value)} {oc10 kV10 dc10 pm10 cd10 ct10 : Value}
    {f11 : Addr} {od11 an11 : Option Addr} {sl11 : Array (Option Value)} {oc11 kV11 dc11 pm11 cd11 ct11 : Value}
    {f12 : Addr} {od12 an12 : Option Addr} {sl12 : Array (Option Value)} {oc12 kV12 dc12 pm12 cd12 ct12 : Value}
    {f13 : Addr} {od13 an13 : Option Addr} {sl13 : Array (Option Value)} {oc13 kV13 dc13 pm13 cd13 ct13 : Value}
    {f14 : Addr} {od14 an14 : Option Addr} {sl14 : Array (Option Value)} {oc14 kV14 dc14 pm14 cd14 ct14 : Value}
    {f15 : Addr} {od15 an15 : Option Addr} {sl15 : Array (Option Value)} {oc15 kV15 dc15 pm15 cd15 ct15 : Value}
    {f16 : Addr} {od16 an16 : Option Addr} {sl16 : Array (Option Value)} {oc16 kV16 dc16 pm16 cd16 ct16 : Value}
    {f17 : Addr} {od17 an17 : Option Addr} {sl17 : Array (Option Value)} {oc17 kV17 dc17 pm17 cd17 ct17 : Value}
    {f18 : Addr} {od18 an18 : Option Addr} {sl18 : Array (Option Value)} {oc18 kV18 dc18 pm18 cd18 ct18 : Value}
    {f19 : Addr} {od19 an19 : Option Addr} {sl19 : Array (Option Value)} {oc19 kV19 dc19 pm19 cd19 ct19 : Value}
    {f20 : Addr} {od20 an20 : Option Addr} {sl20 : Array (Option Value)} {oc20 kV20 dc20 pm20 cd20 ct20 : Value}
    {f21 : Addr} {od21 an21 : Option Addr} {sl21 : Array (Option Value)} {oc21 kV21 dc21 pm21 cd21 ct21 : Value}
    {f22 : Addr} {od22 an22 : Option Addr} {sl22 : Array (Option Value)} {oc22 kV22 dc22 pm22 cd22 ct22 : Value}
    {f23 : Addr} {od23 an23 : Option Addr} {sl23 : Array (Option Value)} {oc23 kV23 dc23 pm23 cd23 ct23 : Value}
    {f24 : Addr} {od24 an24 : Option Addr} {sl24 : Array (Option Value)} {oc24 kV24 dc24 pm24 cd24 ct24 : Value}
    {f25 : Addr} {od25 an25 : Option Addr} {sl25 : Array (Option Value)} {oc25 kV25 dc25 pm25 cd25 ct25 : Value}
    {f26 : Addr} {od26 an26 : Option Addr} {sl26 : Array (Option Value)} {oc26 kV26 dc26 pm26 cd26 ct26 : Value}
    {f27 : Addr} {od27 an27 : Option Addr} {sl27 : Array (Option Value)} {oc27 kV27 dc27 pm27 cd27 ct27 : Value}
    {f28 : Addr} {od28 an28 : Option Addr} {sl28 : Array (Option Value)} {oc28 kV28 dc28 pm28 cd28 ct28 : Value}
    {f29 : Addr} {od29 an29 : Option Addr} {sl29 : Array (Option Value)} {oc29 kV29 dc29 pm29 cd29 ct29 : Value}
    {f30 : Addr} {od30 an30 : Option Addr} {sl30 : Array (Option Value)} {oc30 kV30 dc30 pm30 cd30 ct30 : Value}
    {f31 : Addr} {od31 an31 : Option Addr} {sl31 : Array (Option Value)} {oc31 kV31 dc31 pm31 cd31 ct31 : Value}
    {f32 : Addr} {od32 an32 : Option Addr} {sl32 : Array (Option Value)} {oc32 kV32 dc32 pm32 cd32 ct32 : Value}
    {f33 : Addr} {od33 an33 : Option Addr} {sl33 : Array (Option Value)} {oc33 kV33 dc33 pm33 cd33 ct33 : Value}
    {f34 : Addr} {od34 an34 : Option Addr} {sl34 : Array (Option Value)} {oc34 kV34 dc34 pm34 cd34 ct34 : Value}
    {f35 : Addr} {od35 an35 : Option Addr} {sl35 : Array (Option Value)} {oc35 kV35 dc35 pm35 cd35 ct35 : Value}
    {f36 : Addr} {od36 an36 : Option Addr} {sl36 : Array (Option Value)} {oc36 kV36 dc36 pm36 cd36 ct36 : Value}
    {f37 : Addr} {od37 an37 : Option Addr} {sl37 : Array (Option Value)} {oc37 kV37 dc37 pm37 cd37 ct37 : Value}
    {f38 : Addr} {od38 an38 : Option Addr} {sl38 : Array (Option Value)} {oc38 kV38 dc38 pm38 cd38 ct38 : Value}
    {f39 : Addr} {od39 an39 : Option Addr} {sl39 : Array (Option Value)} {oc39 kV39 dc39 pm39 cd39 ct39 : Value}
    {f40 : Addr} {od40 an40 : Option Addr} {sl40 : Array (Option Value)} {oc40 kV40 dc40 pm40 cd40 ct40 : Value}
    {f41 : Addr} {od41 an41 : Option Addr} {sl41 : Array (Option Value)} {oc41 kV41 dc41 pm41 cd41 ct41 : Value}
    {f42 : Addr} {od42 an42 : Option Addr} {sl42 : Array (Option Value)} {oc42 kV42 dc42 pm42 cd42 ct42 : Value}
    {f43 : Addr} {od43 an43 : Option Addr} {sl43 : Array (Option Value)} {oc43 kV43 dc43 pm43 cd43 ct43 : Value}
    {f44 : Addr} {od44 an44 : Option Addr} {sl44 : Array (Option Value)} {oc44 kV44 dc44 pm44 cd44 ct44 : Value}
    {f45 : Addr} {od45 an45 : Option Addr} {sl45 : Array (Option Value)} {oc45 kV45 dc45 pm45 cd45 ct45 : Value}
    {f46 : Addr} {od46 an46 : Option Addr} {sl46 : Array (Option Value)} {oc46 kV46 dc46 pm46 cd46 ct46 : Value}
    {f47 : Addr} {od47 an47 : Option Addr} {sl47 : Array (Option Value)} {oc47 kV47 dc47 pm47 cd47 ct47 : Value}
    {f48 : Addr} {od48 an48 : Option Addr} {sl48 : Array (Option Value)} {oc48 kV48 dc48 pm48 cd48 ct48 : Value}
    {f49 : Addr} {od49 an49 : Option Addr} {sl49 : Array (Option Value)} {oc49 kV49 dc49 pm49 cd49 ct49 : Value}
    {f50 : Addr} {od50 an50 : Option Addr} {sl50 : Array (Option Value)} {oc50 kV50 dc50 pm50 cd50 ct50 : Value}
    {tp : Addr} {ddM : Option Addr} {nM : Nat} {slM : Array (Option Value)} {w0 w1 w2 w3 w4 w5 w6 w7 w8 w9 w10 w11 : Tok}
    {wd lf fu : Addr} {eW : Array DictEntry} {nW nL nF : Nat} {ddL ddF : Option Addr} {slL slF : Array (Option Value)} {q0 q1 q2 q3 t_nth t_last t_from t_until t_date t_day : Tok}
    {C cE yO iO : Addr}
    {nmE qE : Str} {NE : Addr} {bsE : List Value} {snE : List Str} {subE : List Value} {abE : Bool} {colE : Option Bool} {ddE : Option Addr} {kaE kbE kcE kdE keE : Option Value}
    {nmO qO : Str} {NO : Addr} {bsO : List Value} {snO : List Str} {subO : List Value} {abO : Bool} {colO : Option Bool} {ddO : Option Addr} {kaO kbO kcO kdO keO : Option Value}
    {icO ikO idO ipO ieO itO : Value} {ioO iaO : Option Addr} {isO : Array (Option Value)}
    {yN iN : Addr}
    {nmN qN : Str} {NN : Addr} {bsN : List Value} {snN : List Str} {subN : List Value} {abN : Bool} {colN : Option Bool} {ddN : Option Addr} {kaN kbN kcN kdN keN : Option Value}
    {icN ikN idN ipN ieN itN : Value} {ioN iaN : Option Addr} {isN : Array (Option Value)}
    {fI TI DI eI : Addr} {odI anI dTI : Option Addr} {slI sTI : Array (Option Value)} {nTI : Nat} {ocI oTI dcI pmI cdI ctI : Value}
    {uC uD uM : Tok}
    {uY : Tok}
    (a0 : PySem.W.nsIn K mainGlobals "is_number" = some (some (.ref f0)))
    (l0 : K.lookup f0 = some ⟨oc0, od0, .func (PySem.W.fnOf "is_number" "is_number" (defArgs sIsNumber) (defBody sIsNumber) (defScope sIsNumber) .none kV0 dc0 pm0 an0 cd0 ct0), sl0⟩)
    (c0 : PySem.W.codeIn K cd0 "is_number" = true)
    (k0 : PySem.W.keepIn K (.ref f0) = true)
    (a1 : PySem.W.nsIn K mainGlobals "check_number" = some (some (.ref f1)))
    (l1 : K.lookup f1 = some ⟨oc1, od1, .func (PySem.W.fnOf "check_number" "check_number" (defArgs sCheckNumber) (defBody sCheckNumber) (defScope sCheckNumber) (.ref T1) kV1 dc1 pm1 an1 cd1 ct1), sl1⟩)
    (c1 : PySem.W.codeIn K cd1 "check_number" = true)
    (k1 : PySem.W.keepIn K (.ref f1) = true)
    (lT1 : K.lookup T1 = some ⟨oT1, dT1, .seq #[.none] nT1, sT1⟩)
    (a2 : PySem.W.nsIn K mainGlobals "is_leap" = some (some (.ref f2)))
    (l2 : K.lookup f2 = some ⟨oc2, od2, .func (PySem.W.fnOf "is_leap" "is_leap" (defArgs sIsLeap) (defBody sIsLeap) (defScope sIsLeap) .none kV2 dc2 pm2 an2 cd2 ct2), sl2⟩)
    (c2 : PySem.W.codeIn K cd2 "is_leap" = true)
    (k2 : PySem.W.keepIn K (.ref f2) = true)
    (a3 : PySem.W.nsIn K mainGlobals "leap_years_before" = some (some (.ref f3)))
    (l3 : K.lookup f3 = some ⟨oc3, od3, .func (PySem.W.fnOf "leap_years_before" "leap_years_before" (defArgs sLeapYearsBefore) (defBody sLeapYearsBefore) (defScope sLeapYearsBefore) .none kV3 dc3 pm3 an3 cd3 ct3), sl3⟩)
    (c3 : PySem.W.codeIn K cd3 "leap_years_before" = true)
    (k3 : PySem.W.keepIn K (.ref f3) = true)
    (a4 : PySem.W.nsIn K mainGlobals "year_start" = some (some (.ref f4)))
    (l4 : K.lookup f4 = some ⟨oc4, od4, .func (PySem.W.fnOf "year_start" "year_start" (defArgs sYearStart) (defBody sYearStart) (defScope sYearStart) .none kV4 dc4 pm4 an4 cd4 ct4), sl4⟩)
    (c4 : PySem.W.codeIn K cd4 "year_start" = true)
    (k4 : PySem.W.keepIn K (.ref f4) = true)
    (a5 : PySem.W.nsIn K mainGlobals "year_of" = some (some (.ref f5)))
    (l5 : K.lookup f5 = some ⟨oc5, od5, .func (PySem.W.fnOf "year_of" "year_of" (defArgs sYearOf) (defBody sYearOf) (defScope sYearOf) .none kV5 dc5 pm5 an5 cd5 ct5), sl5⟩)
    (c5 : PySem.W.codeIn K cd5 "year_of" = true)
    (k5 : PySem.W.keepIn K (.ref f5) = true)
    (a6 : PySem.W.nsIn K mainGlobals "month_length" = some (some (.ref f6)))
    (l6 : K.lookup f6 = some ⟨oc6, od6, .func (PySem.W.fnOf "month_length" "month_length" (defArgs sMonthLength) (defBody sMonthLength) (defScope sMonthLength) .none kV6 dc6 pm6 an6 cd6 ct6), sl6⟩)
    (c6 : PySem.W.codeIn K cd6 "month_length" = true)
    (k6 : PySem.W.keepIn K (.ref f6) = true)
    (a7 : PySem.W.nsIn K mainGlobals "month_start" = some (some (.ref f7)))
    (l7 : K.lookup f7 = some ⟨oc7, od7, .func (PySem.W.fnOf "month_start" "month_start" (defArgs sMonthStart) (defBody sMonthStart) (defScope sMonthStart) .none kV7 dc7 pm7 an7 cd7 ct7), sl7⟩)
    (c7 : PySem.W.codeIn K cd7 "month_start" = true)
    (k7 : PySem.W.keepIn K (.ref f7) = true)
    (a8 : PySem.W.nsIn K mainGlobals "weekday" = some (some (.ref f8)))
    (l8 : K.lookup f8 = some ⟨oc8, od8, .func (PySem.W.fnOf "weekday" "weekday" (defArgs sWeekday) (defBody sWeekday) (defScope sWeekday) .none kV8 dc8 pm8 an8 cd8 ct8), sl8⟩)
    (c8 : PySem.W.codeIn K cd8 "weekday" = true)
    (k8 : PySem.W.keepIn K (.ref f8) = true)
    (a9 : PySem.W.nsIn K mainGlobals "on_or_after" = some (some (.ref f9)))
    (l9 : K.lookup f9 = some ⟨oc9, od9, .func (PySem.W.fnOf "on_or_after" "on_or_after" (defArgs sOnOrAfter) (defBody sOnOrAfter) (defScope sOnOrAfter) .none kV9 dc9 pm9 an9 cd9 ct9), sl9⟩)
    (c9 : PySem.W.codeIn K cd9 "on_or_after" = true)
    (k9 : PySem.W.keepIn K (.ref f9) = true)
    (a10 : PySem.W.nsIn K mainGlobals "on_or_before" = some (some (.ref f10)))
    (l10 : K.lookup f10 = some ⟨oc10, od10, .func (PySem.W.fnOf "on_or_before" "on_or_before" (defArgs sOnOrBefore) (defBody sOnOrBefore) (defScope sOnOrBefore) .none kV10 dc10 pm10 an10 cd10 ct10), sl10⟩)
    (c10 : PySem.W.codeIn K cd10 "on_or_before" = true)
    (k10 : PySem.W.keepIn K (.ref f10) = true)
    (a11 : PySem.W.nsIn K mainGlobals "number_in" = some (some (.ref f11)))
    (l11 : K.lookup f11 = some ⟨oc11, od11, .func (PySem.W.fnOf "number_in" "number_in" (defArgs sNumberIn) (defBody sNumberIn) (defScope sNumberIn) .none kV11 dc11 pm11 an11 cd11 ct11), sl11⟩)
    (c11 : PySem.W.codeIn K cd11 "number_in" = true)
    (k11 : PySem.W.keepIn K (.ref f11) = true)
    (a12 : PySem.W.nsIn K mainGlobals "kind_of" = some (some (.ref f12)))
    (l12 : K.lookup f12 = some ⟨oc12, od12, .func (PySem.W.fnOf "kind_of" "kind_of" (defArgs sKindOf) (defBody sKindOf) (defScope sKindOf) .none kV12 dc12 pm12 an12 cd12 ct12), sl12⟩)
    (c12 : PySem.W.codeIn K cd12 "kind_of" = true)
    (k12 : PySem.W.keepIn K (.ref f12) = true)
    (a13 : PySem.W.nsIn K mainGlobals "all_kinds" = some (some (.ref f13)))
    (l13 : K.lookup f13 = some ⟨oc13, od13, .func (PySem.W.fnOf "all_kinds" "all_kinds" (defArgs sAllKinds) (defBody sAllKinds) (defScope sAllKinds) .none kV13 dc13 pm13 an13 cd13 ct13), sl13⟩)
    (c13 : PySem.W.codeIn K cd13 "all_kinds" = true)
    (k13 : PySem.W.keepIn K (.ref f13) = true)
    (a14 : PySem.W.nsIn K mainGlobals "in_bounds" = some (some (.ref f14)))
    (l14 : K.lookup f14 = some ⟨oc14, od14, .func (PySem.W.fnOf "in_bounds" "in_bounds" (defArgs sInBounds) (defBody sInBounds) (defScope sInBounds) .none kV14 dc14 pm14 an14 cd14 ct14), sl14⟩)
    (c14 : PySem.W.codeIn K cd14 "in_bounds" = true)
    (k14 : PySem.W.keepIn K (.ref f14) = true)
    (a15 : PySem.W.nsIn K mainGlobals "is_yearly" = some (some (.ref f15)))
    (l15 : K.lookup f15 = some ⟨oc15, od15, .func (PySem.W.fnOf "is_yearly" "is_yearly" (defArgs sIsYearly) (defBody sIsYearly) (defScope sIsYearly) .none kV15 dc15 pm15 an15 cd15 ct15), sl15⟩)
    (c15 : PySem.W.codeIn K cd15 "is_yearly" = true)
    (k15 : PySem.W.keepIn K (.ref f15) = true)
    (a16 : PySem.W.nsIn K mainGlobals "is_offset" = some (some (.ref f16)))
    (l16 : K.lookup f16 = some ⟨oc16, od16, .func (PySem.W.fnOf "is_offset" "is_offset" (defArgs sIsOffset) (defBody sIsOffset) (defScope sIsOffset) .none kV16 dc16 pm16 an16 cd16 ct16), sl16⟩)
    (c16 : PySem.W.codeIn K cd16 "is_offset" = true)
    (k16 : PySem.W.keepIn K (.ref f16) = true)
    (a17 : PySem.W.nsIn K mainGlobals "is_row" = some (some (.ref f17)))
    (l17 : K.lookup f17 = some ⟨oc17, od17, .func (PySem.W.fnOf "is_row" "is_row" (defArgs sIsRow) (defBody sIsRow) (defScope sIsRow) .none kV17 dc17 pm17 an17 cd17 ct17), sl17⟩)
    (c17 : PySem.W.codeIn K cd17 "is_row" = true)
    (k17 : PySem.W.keepIn K (.ref f17) = true)
    (a18 : PySem.W.nsIn K mainGlobals "row_seconds" = some (some (.ref f18)))
    (l18 : K.lookup f18 = some ⟨oc18, od18, .func (PySem.W.fnOf "row_seconds" "row_seconds" (defArgs sRowSeconds) (defBody sRowSeconds) (defScope sRowSeconds) .none kV18 dc18 pm18 an18 cd18 ct18), sl18⟩)
    (c18 : PySem.W.codeIn K cd18 "row_seconds" = true)
    (k18 : PySem.W.keepIn K (.ref f18) = true)
    (a19 : PySem.W.nsIn K mainGlobals "first_misplaced" = some (some (.ref f19)))
    (l19 : K.lookup f19 = some ⟨oc19, od19, .func (PySem.W.fnOf "first_misplaced" "first_misplaced" (defArgs sFirstMisplaced) (defBody sFirstMisplaced) (defScope sFirstMisplaced) .none kV19 dc19 pm19 an19 cd19 ct19), sl19⟩)
    (c19 : PySem.W.codeIn K cd19 "first_misplaced" = true)
    (k19 : PySem.W.keepIn K (.ref f19) = true)
    (a20 : PySem.W.nsIn K mainGlobals "check_order" = some (some (.ref f20)))
    (l20 : K.lookup f20 = some ⟨oc20, od20, .func (PySem.W.fnOf "check_order" "check_order" (defArgs sCheckOrder) (defBody sCheckOrder) (defScope sCheckOrder) .none kV20 dc20 pm20 an20 cd20 ct20), sl20⟩)
    (c20 : PySem.W.codeIn K cd20 "check_order" = true)
    (k20 : PySem.W.keepIn K (.ref f20) = true)
    (a21 : PySem.W.nsIn K mainGlobals "check_rule" = some (some (.ref f21)))
    (l21 : K.lookup f21 = some ⟨oc21, od21, .func (PySem.W.fnOf "check_rule" "check_rule" (defArgs sCheckRule) (defBody sCheckRule) (defScope sCheckRule) .none kV21 dc21 pm21 an21 cd21 ct21), sl21⟩)
    (c21 : PySem.W.codeIn K cd21 "check_rule" = true)
    (k21 : PySem.W.keepIn K (.ref f21) = true)
    (a22 : PySem.W.nsIn K mainGlobals "rule_table" = some (some (.ref f22)))
    (l22 : K.lookup f22 = some ⟨oc22, od22, .func (PySem.W.fnOf "rule_table" "rule_table" (defArgs sRuleTable) (defBody sRuleTable) (defScope sRuleTable) .none kV22 dc22 pm22 an22 cd22 ct22), sl22⟩)
    (c22 : PySem.W.codeIn K cd22 "rule_table" = true)
    (k22 : PySem.W.keepIn K (.ref f22) = true)
    (a23 : PySem.W.nsIn K mainGlobals "changes_in" = some (some (.ref f23)))
    (l23 : K.lookup f23 = some ⟨oc23, od23, .func (PySem.W.fnOf "changes_in" "changes_in" (defArgs sChangesIn) (defBody sChangesIn) (defScope sChangesIn) .none kV23 dc23 pm23 an23 cd23 ct23), sl23⟩)
    (c23 : PySem.W.codeIn K cd23 "changes_in" = true)
    (k23 : PySem.W.keepIn K (.ref f23) = true)
    (a24 : PySem.W.nsIn K mainGlobals "check_offset" = some (some (.ref f24)))
    (l24 : K.lookup f24 = some ⟨oc24, od24, .func (PySem.W.fnOf "check_offset" "check_offset" (defArgs sCheckOffset) (defBody sCheckOffset) (defScope sCheckOffset) .none kV24 dc24 pm24 an24 cd24 ct24), sl24⟩)
    (c24 : PySem.W.codeIn K cd24 "check_offset" = true)
    (k24 : PySem.W.keepIn K (.ref f24) = true)
    (a25 : PySem.W.nsIn K mainGlobals "is_change" = some (some (.ref f25)))
    (l25 : K.lookup f25 = some ⟨oc25, od25, .func (PySem.W.fnOf "is_change" "is_change" (defArgs sIsChange) (defBody sIsChange) (defScope sIsChange) .none kV25 dc25 pm25 an25 cd25 ct25), sl25⟩)
    (c25 : PySem.W.codeIn K cd25 "is_change" = true)
    (k25 : PySem.W.keepIn K (.ref f25) = true)
    (a26 : PySem.W.nsIn K mainGlobals "check_changes" = some (some (.ref f26)))
    (l26 : K.lookup f26 = some ⟨oc26, od26, .func (PySem.W.fnOf "check_changes" "check_changes" (defArgs sCheckChanges) (defBody sCheckChanges) (defScope sCheckChanges) .none kV26 dc26 pm26 an26 cd26 ct26), sl26⟩)
    (c26 : PySem.W.codeIn K cd26 "check_changes" = true)
    (k26 : PySem.W.keepIn K (.ref f26) = true)
    (a27 : PySem.W.nsIn K mainGlobals "real_changes" = some (some (.ref f27)))
    (l27 : K.lookup f27 = some ⟨oc27, od27, .func (PySem.W.fnOf "real_changes" "real_changes" (defArgs sRealChanges) (defBody sRealChanges) (defScope sRealChanges) .none kV27 dc27 pm27 an27 cd27 ct27), sl27⟩)
    (c27 : PySem.W.codeIn K cd27 "real_changes" = true)
    (k27 : PySem.W.keepIn K (.ref f27) = true)
    (a28 : PySem.W.nsIn K mainGlobals "last_change" = some (some (.ref f28)))
    (l28 : K.lookup f28 = some ⟨oc28, od28, .func (PySem.W.fnOf "last_change" "last_change" (defArgs sLastChange) (defBody sLastChange) (defScope sLastChange) .none kV28 dc28 pm28 an28 cd28 ct28), sl28⟩)
    (c28 : PySem.W.codeIn K cd28 "last_change" = true)
    (k28 : PySem.W.keepIn K (.ref f28) = true)
    (a29 : PySem.W.nsIn K mainGlobals "ruled_from" = some (some (.ref f29)))
    (l29 : K.lookup f29 = some ⟨oc29, od29, .func (PySem.W.fnOf "ruled_from" "ruled_from" (defArgs sRuledFrom) (defBody sRuledFrom) (defScope sRuledFrom) .none kV29 dc29 pm29 an29 cd29 ct29), sl29⟩)
    (c29 : PySem.W.codeIn K cd29 "ruled_from" = true)
    (k29 : PySem.W.keepIn K (.ref f29) = true)
    (a30 : PySem.W.findIn K (.ref C) "_follow" = some (some (.ref f30)))
    (i30 : PySem.W.isFn K (.ref f30) = true)
    (l30 : K.lookup f30 = some ⟨oc30, od30, .func (PySem.W.fnOf "_follow" "Zone._follow" (defArgs sZoneFollow) (defBody sZoneFollow) (defScope sZoneFollow) .none kV30 dc30 pm30 an30 cd30 ct30), sl30⟩)
    (c30 : PySem.W.codeIn K cd30 "Zone._follow" = true)
    (k30 : PySem.W.keepIn K (.ref f30) = true)
    (a31 : PySem.W.findIn K (.ref C) "offset_at" = some (some (.ref f31)))
    (i31 : PySem.W.isFn K (.ref f31) = true)
    (l31 : K.lookup f31 = some ⟨oc31, od31, .func (PySem.W.fnOf "offset_at" "Zone.offset_at" (defArgs sZoneOffsetAt) (defBody sZoneOffsetAt) (defScope sZoneOffsetAt) .none kV31 dc31 pm31 an31 cd31 ct31), sl31⟩)
    (c31 : PySem.W.codeIn K cd31 "Zone.offset_at" = true)
    (k31 : PySem.W.keepIn K (.ref f31) = true)
    (a32 : PySem.W.nsIn K mainGlobals "_law_begun" = some (some (.ref f32)))
    (l32 : K.lookup f32 = some ⟨oc32, od32, .func (PySem.W.fnOf "_law_begun" "_law_begun" (defArgs sLawBegun) (defBody sLawBegun) (defScope sLawBegun) .none kV32 dc32 pm32 an32 cd32 ct32), sl32⟩)
    (c32 : PySem.W.codeIn K cd32 "_law_begun" = true)
    (k32 : PySem.W.keepIn K (.ref f32) = true)
    (a33 : PySem.W.nsIn K mainGlobals "_law_mixed" = some (some (.ref f33)))
    (l33 : K.lookup f33 = some ⟨oc33, od33, .func (PySem.W.fnOf "_law_mixed" "_law_mixed" (defArgs sLawMixed) (defBody sLawMixed) (defScope sLawMixed) .none kV33 dc33 pm33 an33 cd33 ct33), sl33⟩)
    (c33 : PySem.W.codeIn K cd33 "_law_mixed" = true)
    (k33 : PySem.W.keepIn K (.ref f33) = true)
    (a34 : PySem.W.nsIn K mainGlobals "_law_take" = some (some (.ref f34)))
    (l34 : K.lookup f34 = some ⟨oc34, od34, .func (PySem.W.fnOf "_law_take" "_law_take" (defArgs sLawTake) (defBody sLawTake) (defScope sLawTake) .none kV34 dc34 pm34 an34 cd34 ct34), sl34⟩)
    (c34 : PySem.W.codeIn K cd34 "_law_take" = true)
    (k34 : PySem.W.keepIn K (.ref f34) = true)
    (a35 : PySem.W.nsIn K mainGlobals "_law_pick" = some (some (.ref f35)))
    (l35 : K.lookup f35 = some ⟨oc35, od35, .func (PySem.W.fnOf "_law_pick" "_law_pick" (defArgs sLawPick) (defBody sLawPick) (defScope sLawPick) .none kV35 dc35 pm35 an35 cd35 ct35), sl35⟩)
    (c35 : PySem.W.codeIn K cd35 "_law_pick" = true)
    (k35 : PySem.W.keepIn K (.ref f35) = true)
    (a36 : PySem.W.nsIn K mainGlobals "_law_new_year" = some (some (.ref f36)))
    (l36 : K.lookup f36 = some ⟨oc36, od36, .func (PySem.W.fnOf "_law_new_year" "_law_new_year" (defArgs sLawNewYear) (defBody sLawNewYear) (defScope sLawNewYear) .none kV36 dc36 pm36 an36 cd36 ct36), sl36⟩)
    (c36 : PySem.W.codeIn K cd36 "_law_new_year" = true)
    (k36 : PySem.W.keepIn K (.ref f36) = true)
    (a37 : PySem.W.nsIn K mainGlobals "_law_month" = some (some (.ref f37)))
    (l37 : K.lookup f37 = some ⟨oc37, od37, .func (PySem.W.fnOf "_law_month" "_law_month" (defArgs sLawMonth) (defBody sLawMonth) (defScope sLawMonth) .none kV37 dc37 pm37 an37 cd37 ct37), sl37⟩)
    (c37 : PySem.W.codeIn K cd37 "_law_month" = true)
    (k37 : PySem.W.keepIn K (.ref f37) = true)
    (a38 : PySem.W.nsIn K mainGlobals "_law_named" = some (some (.ref f38)))
    (l38 : K.lookup f38 = some ⟨oc38, od38, .func (PySem.W.fnOf "_law_named" "_law_named" (defArgs sLawNamed) (defBody sLawNamed) (defScope sLawNamed) .none kV38 dc38 pm38 an38 cd38 ct38), sl38⟩)
    (c38 : PySem.W.codeIn K cd38 "_law_named" = true)
    (k38 : PySem.W.keepIn K (.ref f38) = true)
    (a39 : PySem.W.nsIn K mainGlobals "_law_turns" = some (some (.ref f39)))
    (l39 : K.lookup f39 = some ⟨oc39, od39, .func (PySem.W.fnOf "_law_turns" "_law_turns" (defArgs sLawTurns) (defBody sLawTurns) (defScope sLawTurns) .none kV39 dc39 pm39 an39 cd39 ct39), sl39⟩)
    (c39 : PySem.W.codeIn K cd39 "_law_turns" = true)
    (k39 : PySem.W.keepIn K (.ref f39) = true)
    (a40 : PySem.W.nsIn K mainGlobals "_law_yearly" = some (some (.ref f40)))
    (l40 : K.lookup f40 = some ⟨oc40, od40, .func (PySem.W.fnOf "_law_yearly" "_law_yearly" (defArgs sLawYearly) (defBody sLawYearly) (defScope sLawYearly) .none kV40 dc40 pm40 an40 cd40 ct40), sl40⟩)
    (c40 : PySem.W.codeIn K cd40 "_law_yearly" = true)
    (k40 : PySem.W.keepIn K (.ref f40) = true)
    (a41 : PySem.W.nsIn K mainGlobals "_law_twin" = some (some (.ref f41)))
    (l41 : K.lookup f41 = some ⟨oc41, od41, .func (PySem.W.fnOf "_law_twin" "_law_twin" (defArgs sLawTwin) (defBody sLawTwin) (defScope sLawTwin) .none kV41 dc41 pm41 an41 cd41 ct41), sl41⟩)
    (c41 : PySem.W.codeIn K cd41 "_law_twin" = true)
    (k41 : PySem.W.keepIn K (.ref f41) = true)
    (a42 : PySem.W.nsIn K mainGlobals "_law_rule" = some (some (.ref f42)))
    (l42 : K.lookup f42 = some ⟨oc42, od42, .func (PySem.W.fnOf "_law_rule" "_law_rule" (defArgs sLawRule) (defBody sLawRule) (defScope sLawRule) .none kV42 dc42 pm42 an42 cd42 ct42), sl42⟩)
    (c42 : PySem.W.codeIn K cd42 "_law_rule" = true)
    (k42 : PySem.W.keepIn K (.ref f42) = true)
    (a43 : PySem.W.nsIn K mainGlobals "_law_year" = some (some (.ref f43)))
    (l43 : K.lookup f43 = some ⟨oc43, od43, .func (PySem.W.fnOf "_law_year" "_law_year" (defArgs sLawYear) (defBody sLawYear) (defScope sLawYear) .none kV43 dc43 pm43 an43 cd43 ct43), sl43⟩)
    (c43 : PySem.W.codeIn K cd43 "_law_year" = true)
    (k43 : PySem.W.keepIn K (.ref f43) = true)
    (a44 : PySem.W.nsIn K mainGlobals "_law_offset" = some (some (.ref f44)))
    (l44 : K.lookup f44 = some ⟨oc44, od44, .func (PySem.W.fnOf "_law_offset" "_law_offset" (defArgs sLawOffset) (defBody sLawOffset) (defScope sLawOffset) .none kV44 dc44 pm44 an44 cd44 ct44), sl44⟩)
    (c44 : PySem.W.codeIn K cd44 "_law_offset" = true)
    (k44 : PySem.W.keepIn K (.ref f44) = true)
    (a45 : PySem.W.nsIn K mainGlobals "_law_changes" = some (some (.ref f45)))
    (l45 : K.lookup f45 = some ⟨oc45, od45, .func (PySem.W.fnOf "_law_changes" "_law_changes" (defArgs sLawChanges) (defBody sLawChanges) (defScope sLawChanges) .none kV45 dc45 pm45 an45 cd45 ct45), sl45⟩)
    (c45 : PySem.W.codeIn K cd45 "_law_changes" = true)
    (k45 : PySem.W.keepIn K (.ref f45) = true)
    (a46 : PySem.W.nsIn K mainGlobals "_law_zone" = some (some (.ref f46)))
    (l46 : K.lookup f46 = some ⟨oc46, od46, .func (PySem.W.fnOf "_law_zone" "_law_zone" (defArgs sLawZone) (defBody sLawZone) (defScope sLawZone) .none kV46 dc46 pm46 an46 cd46 ct46), sl46⟩)
    (c46 : PySem.W.codeIn K cd46 "_law_zone" = true)
    (k46 : PySem.W.keepIn K (.ref f46) = true)
    (a47 : PySem.W.nsIn K mainGlobals "_law_made" = some (some (.ref f47)))
    (l47 : K.lookup f47 = some ⟨oc47, od47, .func (PySem.W.fnOf "_law_made" "_law_made" (defArgs sLawMade) (defBody sLawMade) (defScope sLawMade) .none kV47 dc47 pm47 an47 cd47 ct47), sl47⟩)
    (c47 : PySem.W.codeIn K cd47 "_law_made" = true)
    (k47 : PySem.W.keepIn K (.ref f47) = true)
    (a48 : PySem.W.nsIn K mainGlobals "_law_spots" = some (some (.ref f48)))
    (l48 : K.lookup f48 = some ⟨oc48, od48, .func (PySem.W.fnOf "_law_spots" "_law_spots" (defArgs sLawSpots) (defBody sLawSpots) (defScope sLawSpots) .none kV48 dc48 pm48 an48 cd48 ct48), sl48⟩)
    (c48 : PySem.W.codeIn K cd48 "_law_spots" = true)
    (k48 : PySem.W.keepIn K (.ref f48) = true)
    (a49 : PySem.W.nsIn K mainGlobals "_law_is_refused" = some (some (.ref f49)))
    (l49 : K.lookup f49 = some ⟨oc49, od49, .func (PySem.W.fnOf "_law_is_refused" "_law_is_refused" (defArgs sLawIsRefused) (defBody sLawIsRefused) (defScope sLawIsRefused) .none kV49 dc49 pm49 an49 cd49 ct49), sl49⟩)
    (c49 : PySem.W.codeIn K cd49 "_law_is_refused" = true)
    (k49 : PySem.W.keepIn K (.ref f49) = true)
    (a50 : PySem.W.nsIn K mainGlobals "law" = some (some (.ref f50)))
    (l50 : K.lookup f50 = some ⟨oc50, od50, .func (PySem.W.fnOf "law" "law" (defArgs sLaw) (defBody sLaw) (defScope sLaw) .none kV50 dc50 pm50 an50 cd50 ct50), sl50⟩)
    (c50 : PySem.W.codeIn K cd50 "law" = true)
    (k50 : PySem.W.keepIn K (.ref f50) = true)
    (z_abs : PySem.W.nsIn K mainGlobals "abs" = some none)
    (z_int : PySem.W.nsIn K mainGlobals "int" = some none)
    (z_bool : PySem.W.nsIn K mainGlobals "bool" = some none)
    (z_isinstance : PySem.W.nsIn K mainGlobals "isinstance" = some none)
    (z_sum : PySem.W.nsIn K mainGlobals "sum" = some none)
    (z_divmod : PySem.W.nsIn K mainGlobals "divmod" = some none)
    (z_min : PySem.W.nsIn K mainGlobals "min" = some none)
    (z_len : PySem.W.nsIn K mainGlobals "len" = some none)
    (z_range : PySem.W.nsIn K mainGlobals "range" = some none)
    (z_repr : PySem.W.nsIn K mainGlobals "repr" = some none)
    (z_max : PySem.W.nsIn K mainGlobals "max" = some none)
    (z_tuple : PySem.W.nsIn K mainGlobals "tuple" = some none)
    (z_str : PySem.W.nsIn K mainGlobals "str" = some none)
    (z_all : PySem.W.nsIn K mainGlobals "all" = some none)
    (z_enumerate : PySem.W.nsIn K mainGlobals "enumerate" = some none)
    (z_zip : PySem.W.nsIn K mainGlobals "zip" = some none)
    (z_sorted : PySem.W.nsIn K mainGlobals "sorted" = some none)
    (z_reversed : PySem.W.nsIn K mainGlobals "reversed" = some none)
    (z_list : PySem.W.nsIn K mainGlobals "list" = some none)
    (z_dict : PySem.W.nsIn K mainGlobals "dict" = some none)
    (aM : PySem.W.nsIn K mainGlobals "MONTH_LENGTHS" = some (some (.ref tp)))
    (lM : K.lookup tp = some ⟨.type "tuple", ddM, .seq #[.int 31 w0, .int 28 w1, .int 31 w2, .int 30 w3, .int 31 w4, .int 30 w5, .int 31 w6, .int 31 w7, .int 30 w8, .int 31 w9, .int 30 w10, .int 31 w11] nM, slM⟩)
    (aW : PySem.W.nsIn K mainGlobals "WORDS" = some (some (.ref wd)))
    (lW : K.lookup wd = some ⟨.type "dict", none, .dict eW nW, #[]⟩)
    (kW : PySem.W.KeysLit w.params eW.toList)
    (sW : (wd == sysModules) = false)
    (w_nth : PySem.W.nsIn K wd "nth" = some (some (.int 3 t_nth)))
    (w_last : PySem.W.nsIn K wd "last" = some (some (.int 2 t_last)))
    (w_from : PySem.W.nsIn K wd "from" = some (some (.int 3 t_from)))
    (w_until : PySem.W.nsIn K wd "until" = some (some (.int 3 t_until)))
    (w_date : PySem.W.nsIn K wd "date" = some (some (.int 2 t_date)))
    (w_day : PySem.W.nsIn K wd "day" = some (some (.int 1 t_day)))
    (aLf : PySem.W.nsIn K mainGlobals "LAST_FROM" = some (some (.ref lf)))
    (lLf : K.lookup lf = some ⟨.type "tuple", ddL, .seq #[.int 12 q0, .int 25 q1] nL, slL⟩)
    (aFu : PySem.W.nsIn K mainGlobals "FIRST_UNTIL" = some (some (.ref fu)))
    (lFu : K.lookup fu = some ⟨.type "tuple", ddF, .seq #[.int 1 q2, .int 7 q3] nF, slF⟩)
    (mCE : PySem.W.nsIn K mainGlobals "ClockError" = some (some (.ref cE)))
    (mCO : PySem.W.nsIn K mainGlobals "BadOrder" = some (some (.ref yO)))
    (hnO : PySem.W.specialIn K (.builtin "object.__class__") "__get__" = some (some (.builtin "getset_descriptor.__get__")))
    (htO : PySem.W.takesIn K (.builtin "object.__class__") = some true)
    (thE : K.lookup cE = some (excClassObj nmE qE cE NE bsE [.type "ValueError", .type "Exception", .type "BaseException", .type "object"] true snE subE abE colE ddE kaE kbE kcE kdE keE "ValueError.__new__"))
    (saE : PySem.W.findIn K (.ref cE) "__setattr__" = some (some (.builtin "object.__setattr__")))
    (gaE : PySem.W.findIn K (.ref cE) "__getattribute__" = some (some (.builtin "BaseException.__getattribute__")))
    (ggE : PySem.W.findIn K (.ref cE) "__getattr__" = some none)
    (clE : PySem.W.findIn K (.ref cE) "__class__" = some (some (.builtin "object.__class__")))
    (kpE : PySem.W.keepIn K (.ref cE) = true)
    (thO : K.lookup yO = some (excClassObj nmO qO yO NO bsO (.ref cE :: [.type "ValueError", .type "Exception", .type "BaseException", .type "object"]) true snO subO abO colO ddO kaO kbO kcO kdO keO "ValueError.__new__"))
    (saO : PySem.W.findIn K (.ref yO) "__setattr__" = some (some (.builtin "object.__setattr__")))
    (gaO : PySem.W.findIn K (.ref yO) "__getattribute__" = some (some (.builtin "BaseException.__getattribute__")))
    (ggO : PySem.W.findIn K (.ref yO) "__getattr__" = some none)
    (clO : PySem.W.findIn K (.ref yO) "__class__" = some (some (.builtin "object.__class__")))
    (kpO : PySem.W.keepIn K (.ref yO) = true)
    (inO : PySem.W.findIn K (.ref yO) "__init__" = some (some (.ref iO)))
    (ilO : K.lookup iO = some ⟨icO, ioO, .func (PySem.W.fnOf "__init__" "BadOrder.__init__" (defArgs sBadOrderInit) (defBody sBadOrderInit) (defScope sBadOrderInit) .none ikO idO ipO iaO ieO itO), isO⟩)
    (io_O : PySem.W.codeIn K ieO "BadOrder.__init__" = true)
    (ik_O : PySem.W.keepIn K (.ref iO) = true)
    (ityO : PySem.W.typeIn K (.ref iO) = some (.type "function"))
    (fyO : PySem.W.findIn K (.ref yO) "year" = some none)
    (fiO : PySem.W.findIn K (.ref yO) "index" = some none)
    (mCN : PySem.W.nsIn K mainGlobals "BadNumber" = some (some (.ref yN)))
    (thN : K.lookup yN = some (excClassObj nmN qN yN NN bsN (.ref cE :: [.type "ValueError", .type "Exception", .type "BaseException", .type "object"]) true snN subN abN colN ddN kaN kbN kcN kdN keN "ValueError.__new__"))
    (saN : PySem.W.findIn K (.ref yN) "__setattr__" = some (some (.builtin "object.__setattr__")))
    (gaN : PySem.W.findIn K (.ref yN) "__getattribute__" = some (some (.builtin "BaseException.__getattribute__")))
    (ggN : PySem.W.findIn K (.ref yN) "__getattr__" = some none)
    (clN : PySem.W.findIn K (.ref yN) "__class__" = some (some (.builtin "object.__class__")))
    (kpN : PySem.W.keepIn K (.ref yN) = true)
    (inN : PySem.W.findIn K (.ref yN) "__init__" = some (some (.ref iN)))
    (ilN : K.lookup iN = some ⟨icN, ioN, .func (PySem.W.fnOf "__init__" "BadNumber.__init__" (defArgs sBadNumberInit) (defBody sBadNumberInit) (defScope sBadNumberInit) .none ikN idN ipN iaN ieN itN), isN⟩)
    (io_N : PySem.W.codeIn K ieN "BadNumber.__init__" = true)
    (ik_N : PySem.W.keepIn K (.ref iN) = true)
    (ityN : PySem.W.typeIn K (.ref iN) = some (.type "function"))
    (fvN : PySem.W.findIn K (.ref yN) "value" = some none)
    (ne1 : (yN == yO) = false)
    (ne2 : (cE == yO) = false)
    (aC : PySem.W.nsIn K mainGlobals "Zone" = some (some (.ref C)))
    (pgC : PySem.W.plainGet K C Str.empty = true)
    (hdC : PySem.W.hasDictIn K C = true)
    (poC : PySem.W.plainOver K C = true)
    (saC : PySem.W.findIn K (.ref C) "__setattr__" = some (some (.builtin "object.__setattr__")))
    (mkC : PySem.W.makesIn K C = true)
    (kpC : PySem.W.keepIn K (.ref C) = true)
    (noT : PySem.W.findIn K (.ref C) "_told" = some none)
    (noO : PySem.W.findIn K (.ref C) "_offset" = some none)
    (noC : PySem.W.findIn K (.ref C) "_changes" = some none)
    (noS : PySem.W.findIn K (.ref C) "_since" = some none)
    (noB : PySem.W.findIn K (.ref C) "_table" = some none)
    (aI : PySem.W.findIn K (.ref C) "__init__" = some (some (.ref fI)))
    (iI : PySem.W.isFn K (.ref fI) = true)
    (lI : K.lookup fI = some ⟨ocI, odI, .func (PySem.W.fnOf "__init__" "Zone.__init__" (defArgs sZoneInit) (defBody sZoneInit) (defScope sZoneInit) (.ref TI) (.ref DI) dcI pmI anI cdI ctI), slI⟩)
    (lTI : K.lookup TI = some ⟨oTI, dTI, .seq #[.ref eI] nTI, sTI⟩)
    (kRI : PySem.W.nsIn K DI "rule" = some (some .none))
    (kSI : PySem.W.nsIn K DI "since" = some (some .none))
    (cI : PySem.W.codeIn K cdI "Zone.__init__" = true)
    (kI : PySem.W.keepIn K (.ref fI) = true)
    (xC : PySem.W.nsIn K mainGlobals "CYCLE_YEARS" = some (some (.int 400 uC)))
    (xD : PySem.W.nsIn K mainGlobals "DAY" = some (some (.int 86400 uD)))
    (xY : PySem.W.nsIn K mainGlobals "CYCLE_DAYS" = some (some (.int 146097 uY)))
    (xM : PySem.W.nsIn K mainGlobals "MOST_OFFSET" = some (some (.int 86399 uM)))
    : ∃ fd : FuncData, (∀ (s : Shared) (v : Value), BindsTo s fd ⟨[v], []⟩ [("script", v)]) ∧ ∀ base : Heap, K.In base → base.Ns mainGlobals mg → FnG l.prog w K mg base CX0 12 fa fd ["script"] (spLaw K) := by
  have e := hfa.symm.trans (PySem.W.mg_of X G a50)
  cases e
  refine ⟨PySem.W.fnOf "law" "law" (defArgs sLaw) (defBody sLaw) (defScope sLaw) .none kV50 dc50 pm50 an50 cd50 ct50, fun s v => .of_eq rfl, fun base _ _ => ?_⟩
  have T : Nm mg := { abs := PySem.W.mg_none_of X G z_abs, int := PySem.W.mg_none_of X G z_int, bool := PySem.W.mg_none_of X G z_bool, isinstance := PySem.W.mg_none_of X G z_isinstance, sum := PySem.W.mg_none_of X G z_sum, divmod := PySem.W.mg_none_of X G z_divmod, min := PySem.W.mg_none_of X G z_min, len := PySem.W.mg_none_of X G z_len, range := PySem.W.mg_none_of X G z_range, repr := PySem.W.mg_none_of X G z_repr, max := PySem.W.mg_none_of X G z_max, tuple := PySem.W.mg_none_of X G z_tuple, str := PySem.W.mg_none_of X G z_str, all := PySem.W.mg_none_of X G z_all, enumerate := PySem.W.mg_none_of X G z_enumerate, zip := PySem.W.mg_none_of X G z_zip, sorted := PySem.W.mg_none_of X G z_sorted, reversed := PySem.W.mg_none_of X G z_reversed, list := PySem.W.mg_none_of X G z_list, dict := PySem.W.mg_none_of X G z_dict }
  have M : Cm K mg tp := ⟨PySem.W.mg_of X G aM, fun H => .inr ⟨_, _, _, lM, rfl, rfl, (by show 12 ≤ sizeLine; decide), .cons ⟨_, rfl⟩ (.cons ⟨_, rfl⟩ (.cons ⟨_, rfl⟩ (.cons ⟨_, rfl⟩ (.cons ⟨_, rfl⟩ (.cons ⟨_, rfl⟩ (.cons ⟨_, rfl⟩ (.cons ⟨_, rfl⟩ (.cons ⟨_, rfl⟩ (.cons ⟨_, rfl⟩ (.cons ⟨_, rfl⟩ (.cons ⟨_, rfl⟩ (.nil))))))))))))⟩⟩
  have GY : Gy K w mg wd lf fu := ⟨PySem.W.mg_of X G aW, ⟨_, _, lW, kW, sW⟩, ⟨_, w_nth⟩, ⟨_, w_last⟩, ⟨_, w_from⟩, ⟨_, w_until⟩, ⟨_, w_date⟩, ⟨_, w_day⟩, PySem.W.mg_of X G aLf, PySem.W.mg_of X G aFu, fun H => .inr ⟨_, _, _, lLf, rfl, rfl, (by show 2 ≤ sizeLine; decide), .cons ⟨_, rfl⟩ (.cons ⟨_, rfl⟩ .nil)⟩, fun H => .inr ⟨_, _, _, lFu, rfl, rfl, (by show 2 ≤ sizeLine; decide), .cons ⟨_, rfl⟩ (.cons ⟨_, rfl⟩ .nil)⟩⟩
  have CN : Cn K mg := ⟨⟨_, PySem.W.mg_of X G xC⟩, ⟨_, PySem.W.mg_of X G xY⟩⟩
  have Z : Cz mg := ⟨⟨_, PySem.W.mg_of X G xD⟩, ⟨_, PySem.W.mg_of X G xM⟩⟩
  have T2 : Zk K C := ⟨⟨pgC, hdC, poC, saC⟩, noT, noO, noC, noS, noB⟩
  have mZ : mg "Zone" = some (.ref C) := PySem.W.mg_of X G aC
  have kO : Kl K (.ref cE :: veL) yO := ⟨⟨nmO, qO, NO, bsO, snO, subO, abO, colO, ddO, kaO, kbO, kcO, kdO, keO, thO⟩, saO, gaO, ggO, clO, kpO⟩
  have FiO := fun_mk (st := sBadOrderInit) ilO io_O ik_O
  have BiO := FiO.binds (ps := ["self", "year", "index"]) fun _ _ _ _ _ _ us hl => match us, hl with | [_, _, _], _ => rfl
  have RO : Rs l.prog w K mg base "BadOrder" yO 2 mkO := ⟨kO.oex (upE cE), PySem.W.mg_of X G mCO, iO, _, ["self", "year", "index"], inO, ityO, ok_initO FiO (kO.oex (upE cE)) fyO fiO, BiO⟩
  have L : Cl5 K mg cE yO yN := ⟨⟨⟨nmE, qE, NE, bsE, snE, subE, abE, colE, ddE, kaE, kbE, kcE, kdE, keE, thE⟩, saE, gaE, ggE, clE, kpE⟩, PySem.W.mg_of X G mCE, kO, PySem.W.mg_of X G mCO, ⟨⟨nmN, qN, NN, bsN, snN, subN, abN, colN, ddN, kaN, kbN, kcN, kdN, keN, thN⟩, saN, gaN, ggN, clN, kpN⟩, PySem.W.mg_of X G mCN, ⟨hnO, htO⟩, fvN, beq_eq_false_iff_ne.mp ne1, beq_eq_false_iff_ne.mp ne2⟩
  have FiN := fun_mk (st := sBadNumberInit) ilN io_N ik_N
  have BiN := FiN.binds (ps := ["self", "value"]) fun _ _ _ _ _ _ us hl => match us, hl with | [_, _], _ => rfl
  have RN : Rs l.prog w K mg base "BadNumber" yN 1 mkN := ⟨L.kN.oex (upE cE), L.mN, iN, _, ["self", "value"], inN, ityN, ok_initN FiN (L.kN.oex (upE cE)) fvN, BiN⟩
  have F_is_number := fun_mk (st := sIsNumber) l0 c0 k0
  have b_is_number := F_is_number.binds (ps := ["value"]) fun _ _ _ _ _ _ us hl => match us, hl with | [_], _ => rfl
  have G_is_number : FnOk l.prog w K mg base CX0 1 f0 _ ["value"] spIsNum := ok_isnum F_is_number T
  have D_is_number : Df l.prog w K mg base 1 "is_number" ["value"] [] spIsNum := ⟨⟨_, _, [], G_is_number, PySem.W.mg_of X G a0, k0, .nil, b_is_number⟩⟩
  have D_is_numberV : Df l.prog w K mg base 1 "is_number" ["value"] [] (spIsNumV K) := ⟨⟨_, _, [], ok_isnumV F_is_number T, PySem.W.mg_of X G a0, k0, .nil, b_is_number⟩⟩
  have F_check_number : FunD K "check_number" "check_number" (defArgs sCheckNumber) (defBody sCheckNumber) (defScope sCheckNumber) [.non] [] f1 _ := ⟨⟨_, _, _, _, _, _, _, _, _, _, rfl, l1, c1, .inr ⟨by simp, _, _, [.none], _, rfl, lT1, rfl, .cons rfl .nil⟩, .inl rfl⟩, k1⟩
  obtain ⟨ds1, v1, b1⟩ := F_check_number.binds1 (ps := ["value", "least"]) 1 0 (by simp) (by rfl) (fun T kV doc pm an cdv ct us its h1 h2 => match us, its, h1, h2 with | [_], [_], _, _ => ⟨_, rfl, rfl⟩)
  have D_check_number : Df l.prog w K mg base 2 "check_number" ["value", "least"] [.non] spCheck := ⟨⟨_, _, ds1, ok_check F_check_number D_is_number, PySem.W.mg_of X G a1, k1, v1, b1⟩⟩
  obtain ⟨dz1, w1, y1⟩ := F_check_number.binds1 (ps := ["value", "least"]) 2 1 (by simp) (by rfl) (fun T kV doc pm an cdv ct us its h1 h2 => match us, its, h1, h2 with | [_, _], [_], _, _ => ⟨_, rfl, rfl⟩)
  have D_check_number2 : Df l.prog w K mg base 2 "check_number" ["value", "least"] [] spCheckL := ⟨⟨_, _, dz1, ok_checkL F_check_number D_is_number, PySem.W.mg_of X G a1, k1, w1, y1⟩⟩
  have X_check_number : Dx l.prog w K mg base 3 "check_number" ["value", "least"] [] (spCheckLX K yN) := ⟨⟨_, _, dz1, ok_checkLX F_check_number D_is_numberV RN, PySem.W.mg_of X G a1, k1, w1, y1⟩⟩
  have F_is_leap := fun_mk (st := sIsLeap) l2 c2 k2
  have b_is_leap := F_is_leap.binds (ps := ["year"]) fun _ _ _ _ _ _ us hl => match us, hl with | [_], _ => rfl
  have G_is_leap : FnOk l.prog w K mg base CX0 3 f2 _ ["year"] spLeap := ok_leap F_is_leap D_check_number
  have D_is_leap : Df l.prog w K mg base 3 "is_leap" ["year"] [] spLeap := ⟨⟨_, _, [], G_is_leap, PySem.W.mg_of X G a2, k2, .nil, b_is_leap⟩⟩
  have F_leap_years_before := fun_mk (st := sLeapYearsBefore) l3 c3 k3
  have b_leap_years_before := F_leap_years_before.binds (ps := ["year"]) fun _ _ _ _ _ _ us hl => match us, hl with | [_], _ => rfl
  have G_leap_years_before : FnOk l.prog w K mg base CX0 1 f3 _ ["year"] spLyb := ok_lyb F_leap_years_before
  have D_leap_years_before : Df l.prog w K mg base 1 "leap_years_before" ["year"] [] spLyb := ⟨⟨_, _, [], G_leap_years_before, PySem.W.mg_of X G a3, k3, .nil, b_leap_years_before⟩⟩
  have F_year_start := fun_mk (st := sYearStart) l4 c4 k4
  have b_year_start := F_year_start.binds (ps := ["year"]) fun _ _ _ _ _ _ us hl => match us, hl with | [_], _ => rfl
  have G_year_start : FnOk l.prog w K mg base CX0 3 f4 _ ["year"] spYs := ok_ys F_year_start D_check_number D_leap_years_before
  have D_year_start : Df l.prog w K mg base 3 "year_start" ["year"] [] spYs := ⟨⟨_, _, [], G_year_start, PySem.W.mg_of X G a4, k4, .nil, b_year_start⟩⟩
  have F_year_of := fun_mk (st := sYearOf) l5 c5 k5
  have b_year_of := F_year_of.binds (ps := ["day"]) fun _ _ _ _ _ _ us hl => match us, hl with | [_], _ => rfl
  have G_year_of : FnOk l.prog w K mg base CX0 4 f5 _ ["day"] spYearOf := ok_yearof F_year_of T CN D_year_start
  have D_year_of : Df l.prog w K mg base 4 "year_of" ["day"] [] spYearOf := ⟨⟨_, _, [], G_year_of, PySem.W.mg_of X G a5, k5, .nil, b_year_of⟩⟩
  have F_month_length := fun_mk (st := sMonthLength) l6 c6 k6
  have b_month_length := F_month_length.binds (ps := ["month", "leap"]) fun _ _ _ _ _ _ us hl => match us, hl with | [_, _], _ => rfl
  have G_month_length : FnOk l.prog w K mg base CX0 1 f6 _ ["month", "leap"] spMlen := ok_mlen F_month_length M
  have D_month_length : Df l.prog w K mg base 1 "month_length" ["month", "leap"] [] spMlen := ⟨⟨_, _, [], G_month_length, PySem.W.mg_of X G a6, k6, .nil, b_month_length⟩⟩
  have F_month_start := fun_mk (st := sMonthStart) l7 c7 k7
  have b_month_start := F_month_start.binds (ps := ["month", "leap"]) fun _ _ _ _ _ _ us hl => match us, hl with | [_, _], _ => rfl
  have G_month_start : FnOk l.prog w K mg base CX0 1 f7 _ ["month", "leap"] spMst := ok_mst F_month_start M T
  have D_month_start : Df l.prog w K mg base 1 "month_start" ["month", "leap"] [] spMst := ⟨⟨_, _, [], G_month_start, PySem.W.mg_of X G a7, k7, .nil, b_month_start⟩⟩
  have F_weekday := fun_mk (st := sWeekday) l8 c8 k8
  have b_weekday := F_weekday.binds (ps := ["day"]) fun _ _ _ _ _ _ us hl => match us, hl with | [_], _ => rfl
  have G_weekday : FnOk l.prog w K mg base CX0 3 f8 _ ["day"] spWeekday := ok_weekday F_weekday D_check_number
  have D_weekday : Df l.prog w K mg base 3 "weekday" ["day"] [] spWeekday := ⟨⟨_, _, [], G_weekday, PySem.W.mg_of X G a8, k8, .nil, b_weekday⟩⟩
  have F_on_or_after := fun_mk (st := sOnOrAfter) l9 c9 k9
  have b_on_or_after := F_on_or_after.binds (ps := ["number", "weekday", "first"]) fun _ _ _ _ _ _ us hl => match us, hl with | [_, _, _], _ => rfl
  have G_on_or_after : FnOk l.prog w K mg base CX0 1 f9 _ ["number", "weekday", "first"] spOnAfter := ok_onafter F_on_or_after
  have D_on_or_after : Df l.prog w K mg base 1 "on_or_after" ["number", "weekday", "first"] [] spOnAfter := ⟨⟨_, _, [], G_on_or_after, PySem.W.mg_of X G a9, k9, .nil, b_on_or_after⟩⟩
  have F_on_or_before := fun_mk (st := sOnOrBefore) l10 c10 k10
  have b_on_or_before := F_on_or_before.binds (ps := ["number", "weekday", "first"]) fun _ _ _ _ _ _ us hl => match us, hl with | [_, _, _], _ => rfl
  have G_on_or_before : FnOk l.prog w K mg base CX0 1 f10 _ ["number", "weekday", "first"] spOnBefore := ok_onbefore F_on_or_before
  have D_on_or_before : Df l.prog w K mg base 1 "on_or_before" ["number", "weekday", "first"] [] spOnBefore := ⟨⟨_, _, [], G_on_or_before, PySem.W.mg_of X G a10, k10, .nil, b_on_or_before⟩⟩
  have F_number_in := fun_mk (st := sNumberIn) l11 c11 k11
  have b_number_in := F_number_in.binds (ps := ["yearly", "kind"]) fun _ _ _ _ _ _ us hl => match us, hl with | [_, _], _ => rfl
  have G_number_in : FnOk l.prog w K mg base CX0 2 f11 _ ["yearly", "kind"] spNumIn := ok_numin F_number_in D_month_start D_month_length D_on_or_after D_on_or_before
  have D_number_in : Df l.prog w K mg base 2 "number_in" ["yearly", "kind"] [] spNumIn := ⟨⟨_, _, [], G_number_in, PySem.W.mg_of X G a11, k11, .nil, b_number_in⟩⟩
  have F_kind_of := fun_mk (st := sKindOf) l12 c12 k12
  have b_kind_of := F_kind_of.binds (ps := ["year"]) fun _ _ _ _ _ _ us hl => match us, hl with | [_], _ => rfl
  have G_kind_of : FnOk l.prog w K mg base CX0 4 f12 _ ["year"] spKindOf := ok_kindof F_kind_of D_check_number D_weekday D_year_start D_is_leap
  have D_kind_of : Df l.prog w K mg base 4 "kind_of" ["year"] [] spKindOf := ⟨⟨_, _, [], G_kind_of, PySem.W.mg_of X G a12, k12, .nil, b_kind_of⟩⟩
  have F_all_kinds := fun_mk (st := sAllKinds) l13 c13 k13
  have b_all_kinds := F_all_kinds.binds (ps := []) fun _ _ _ _ _ _ us hl => match us, hl with | [], _ => rfl
  have G_all_kinds : FnOk l.prog w K mg base CX0 1 f13 _ [] spAllKinds := ok_allkinds F_all_kinds T
  have D_all_kinds : Df l.prog w K mg base 1 "all_kinds" [] [] spAllKinds := ⟨⟨_, _, [], G_all_kinds, PySem.W.mg_of X G a13, k13, .nil, b_all_kinds⟩⟩
  have F_in_bounds := fun_mk (st := sInBounds) l14 c14 k14
  have b_in_bounds := F_in_bounds.binds (ps := ["word", "numbers"]) fun _ _ _ _ _ _ us hl => match us, hl with | [_, _], _ => rfl
  have G_in_bounds : FnOk l.prog w K mg base CX0 2 f14 _ ["word", "numbers"] (spInB K) := ok_inb F_in_bounds T GY D_month_length
  have D_in_bounds : Df l.prog w K mg base 2 "in_bounds" ["word", "numbers"] [] (spInB K) := ⟨⟨_, _, [], G_in_bounds, PySem.W.mg_of X G a14, k14, .nil, b_in_bounds⟩⟩
  have F_is_yearly := fun_mk (st := sIsYearly) l15 c15 k15
  have b_is_yearly := F_is_yearly.binds (ps := ["value"]) fun _ _ _ _ _ _ us hl => match us, hl with | [_], _ => rfl
  have G_is_yearly : FnOk l.prog w K mg base CX0 3 f15 _ ["value"] spIsY := ok_isy F_is_yearly T GY D_is_number D_in_bounds
  have D_is_yearly : Df l.prog w K mg base 3 "is_yearly" ["value"] [] spIsY := ⟨⟨_, _, [], G_is_yearly, PySem.W.mg_of X G a15, k15, .nil, b_is_yearly⟩⟩
  have F_is_offset := fun_mk (st := sIsOffset) l16 c16 k16
  have b_is_offset := F_is_offset.binds (ps := ["value"]) fun _ _ _ _ _ _ us hl => match us, hl with | [_], _ => rfl
  have G_is_offset : FnOk l.prog w K mg base CX0 2 f16 _ ["value"] spIsOff := ok_isoff F_is_offset Z D_is_number
  have D_is_offset : Df l.prog w K mg base 2 "is_offset" ["value"] [] spIsOff := ⟨⟨_, _, [], G_is_offset, PySem.W.mg_of X G a16, k16, .nil, b_is_offset⟩⟩
  have F_is_row := fun_mk (st := sIsRow) l17 c17 k17
  have b_is_row := F_is_row.binds (ps := ["value"]) fun _ _ _ _ _ _ us hl => match us, hl with | [_], _ => rfl
  have G_is_row : FnOk l.prog w K mg base CX0 4 f17 _ ["value"] spIsRow := ok_isrow F_is_row T Z D_is_number D_is_yearly D_is_offset
  have D_is_row : Df l.prog w K mg base 4 "is_row" ["value"] [] spIsRow := ⟨⟨_, _, [], G_is_row, PySem.W.mg_of X G a17, k17, .nil, b_is_row⟩⟩
  have F_row_seconds := fun_mk (st := sRowSeconds) l18 c18 k18
  have b_row_seconds := F_row_seconds.binds (ps := ["rule", "kind"]) fun _ _ _ _ _ _ us hl => match us, hl with | [_, _], _ => rfl
  have G_row_seconds : FnOk l.prog w K mg base CX0 3 f18 _ ["rule", "kind"] spRowSec := ok_rowsec F_row_seconds T Z D_number_in
  have D_row_seconds : Df l.prog w K mg base 3 "row_seconds" ["rule", "kind"] [] spRowSec := ⟨⟨_, _, [], G_row_seconds, PySem.W.mg_of X G a18, k18, .nil, b_row_seconds⟩⟩
  have F_first_misplaced := fun_mk (st := sFirstMisplaced) l19 c19 k19
  have b_first_misplaced := F_first_misplaced.binds (ps := ["seconds", "length"]) fun _ _ _ _ _ _ us hl => match us, hl with | [_, _], _ => rfl
  have G_first_misplaced : FnOk l.prog w K mg base CX0 1 f19 _ ["seconds", "length"] spMisp := ok_misp F_first_misplaced T
  have D_first_misplaced : Df l.prog w K mg base 1 "first_misplaced" ["seconds", "length"] [] spMisp := ⟨⟨_, _, [], G_first_misplaced, PySem.W.mg_of X G a19, k19, .nil, b_first_misplaced⟩⟩
  have F_check_order := fun_mk (st := sCheckOrder) l20 c20 k20
  have b_check_order := F_check_order.binds (ps := ["rule"]) fun _ _ _ _ _ _ us hl => match us, hl with | [_], _ => rfl
  have G_check_order : FnOk l.prog w K mg base (L2.CX l.prog w) 5 f20 _ ["rule"] (spOrd yO) := ok_ord F_check_order T Z CN RO D_all_kinds D_row_seconds D_first_misplaced D_month_start D_kind_of
  have X_check_order : Dx l.prog w K mg base 5 "check_order" ["rule"] [] (spOrd yO) := ⟨⟨_, _, [], G_check_order, PySem.W.mg_of X G a20, k20, .nil, b_check_order⟩⟩
  have F_check_rule := fun_mk (st := sCheckRule) l21 c21 k21
  have b_check_rule := F_check_rule.binds (ps := ["rule"]) fun _ _ _ _ _ _ us hl => match us, hl with | [_], _ => rfl
  have G_check_rule : FnOk l.prog w K mg base (L2.CX l.prog w) 6 f21 _ ["rule"] (spRule yO) := ok_rule F_check_rule T D_is_row X_check_order
  have X_check_rule : Dx l.prog w K mg base 6 "check_rule" ["rule"] [] (spRule yO) := ⟨⟨_, _, [], G_check_rule, PySem.W.mg_of X G a21, k21, .nil, b_check_rule⟩⟩
  have D_check_rule : Df l.prog w K mg base 6 "check_rule" ["rule"] [] spRule0 := ⟨⟨_, _, [], ok_rule0 G_check_rule, PySem.W.mg_of X G a21, k21, .nil, b_check_rule⟩⟩
  have F_rule_table := fun_mk (st := sRuleTable) l22 c22 k22
  have b_rule_table := F_rule_table.binds (ps := ["rule"]) fun _ _ _ _ _ _ us hl => match us, hl with | [_], _ => rfl
  have G_rule_table : FnOk l.prog w K mg base CX0 7 f22 _ ["rule"] (spRTab l.prog w) := ok_rtab F_rule_table T D_check_rule D_all_kinds D_row_seconds
  have D_rule_table : Df l.prog w K mg base 7 "rule_table" ["rule"] [] (spRTab l.prog w) := ⟨⟨_, _, [], G_rule_table, PySem.W.mg_of X G a22, k22, .nil, b_rule_table⟩⟩
  have F_changes_in := fun_mk (st := sChangesIn) l23 c23 k23
  have b_changes_in := F_changes_in.binds (ps := ["table", "year"]) fun _ _ _ _ _ _ us hl => match us, hl with | [_, _], _ => rfl
  have G_changes_in : FnOk l.prog w K mg base CX0 5 f23 _ ["table", "year"] (spChin l.prog w) := ok_chin F_changes_in T Z D_year_start D_kind_of
  have D_changes_in : Df l.prog w K mg base 5 "changes_in" ["table", "year"] [] (spChin l.prog w) := ⟨⟨_, _, [], G_changes_in, PySem.W.mg_of X G a23, k23, .nil, b_changes_in⟩⟩
  have F_check_offset := fun_mk (st := sCheckOffset) l24 c24 k24
  have b_check_offset := F_check_offset.binds (ps := ["value"]) fun _ _ _ _ _ _ us hl => match us, hl with | [_], _ => rfl
  have G_check_offset : FnOk l.prog w K mg base CX0 3 f24 _ ["value"] spChkOff := ok_chkoff F_check_offset D_is_offset
  have D_check_offset : Df l.prog w K mg base 3 "check_offset" ["value"] [] spChkOff := ⟨⟨_, _, [], G_check_offset, PySem.W.mg_of X G a24, k24, .nil, b_check_offset⟩⟩
  have F_is_change := fun_mk (st := sIsChange) l25 c25 k25
  have b_is_change := F_is_change.binds (ps := ["value", "last"]) fun _ _ _ _ _ _ us hl => match us, hl with | [_, _], _ => rfl
  have G_is_change : FnOk l.prog w K mg base CX0 3 f25 _ ["value", "last"] spIsChange := ok_isch F_is_change T D_is_number D_is_offset
  have D_is_change : Df l.prog w K mg base 3 "is_change" ["value", "last"] [] spIsChange := ⟨⟨_, _, [], G_is_change, PySem.W.mg_of X G a25, k25, .nil, b_is_change⟩⟩
  have F_check_changes := fun_mk (st := sCheckChanges) l26 c26 k26
  have b_check_changes := F_check_changes.binds (ps := ["changes"]) fun _ _ _ _ _ _ us hl => match us, hl with | [_], _ => rfl
  have G_check_changes : FnOk l.prog w K mg base CX0 4 f26 _ ["changes"] (spChkCh l.prog w) := ok_chkch F_check_changes T D_is_change
  have D_check_changes : Df l.prog w K mg base 4 "check_changes" ["changes"] [] (spChkCh l.prog w) := ⟨⟨_, _, [], G_check_changes, PySem.W.mg_of X G a26, k26, .nil, b_check_changes⟩⟩
  have F_real_changes := fun_mk (st := sRealChanges) l27 c27 k27
  have b_real_changes := F_real_changes.binds (ps := ["offset", "changes"]) fun _ _ _ _ _ _ us hl => match us, hl with | [_, _], _ => rfl
  have G_real_changes : FnOk l.prog w K mg base CX0 1 f27 _ ["offset", "changes"] spReal := ok_real F_real_changes
  have D_real_changes : Df l.prog w K mg base 1 "real_changes" ["offset", "changes"] [] spReal := ⟨⟨_, _, [], G_real_changes, PySem.W.mg_of X G a27, k27, .nil, b_real_changes⟩⟩
  have F_last_change := fun_mk (st := sLastChange) l28 c28 k28
  have b_last_change := F_last_change.binds (ps := ["table", "instant"]) fun _ _ _ _ _ _ us hl => match us, hl with | [_, _], _ => rfl
  have G_last_change : FnOk l.prog w K mg base CX0 6 f28 _ ["table", "instant"] (spLastC l.prog w) := ok_lastc F_last_change T Z D_year_of D_changes_in
  have D_last_change : Df l.prog w K mg base 6 "last_change" ["table", "instant"] [] (spLastC l.prog w) := ⟨⟨_, _, [], G_last_change, PySem.W.mg_of X G a28, k28, .nil, b_last_change⟩⟩
  have F_ruled_from := fun_mk (st := sRuledFrom) l29 c29 k29
  have b_ruled_from := F_ruled_from.binds (ps := ["offset", "changes", "since", "table"]) fun _ _ _ _ _ _ us hl => match us, hl with | [_, _, _, _], _ => rfl
  have G_ruled_from : FnOk l.prog w K mg base CX0 7 f29 _ ["offset", "changes", "since", "table"] (spRuled l.prog w) := ok_ruled F_ruled_from T D_last_change
  have D_ruled_from : Df l.prog w K mg base 7 "ruled_from" ["offset", "changes", "since", "table"] [] (spRuled l.prog w) := ⟨⟨_, _, [], G_ruled_from, PySem.W.mg_of X G a29, k29, .nil, b_ruled_from⟩⟩
  have F_follow := fun_mk (st := sZoneFollow) l30 c30 k30
  have b_follow := F_follow.binds (ps := ["self", "table", "since"]) fun _ _ _ _ _ _ us hl => match us, hl with | [_, _, _], _ => rfl
  have G_follow : FnOk l.prog w K mg base CX0 8 f30 _ ["self", "table", "since"] (spFollow l.prog w C) := ok_follow F_follow T2 D_ruled_from D_last_change
  have D_follow : Dm l.prog w K mg base 8 C "_follow" ["self", "table", "since"] (spFollow l.prog w C) := ⟨⟨_, _, G_follow, ⟨a30, i30, k30⟩, b_follow⟩⟩
  have F_zinit : FunD K "__init__" "Zone.__init__" (defArgs sZoneInit) (defBody sZoneInit) (defScope sZoneInit) [.ref eI] [("rule", .non), ("since", .non)] fI _ := ⟨⟨_, _, _, _, _, _, _, _, _, _, rfl, lI, cI, .inr ⟨by simp, _, _, [.ref eI], _, rfl, lTI, rfl, .cons rfl .nil⟩, .inr ⟨_, rfl, fun q hq => by
    rcases List.mem_cons.mp hq with e | hq
    · subst e; exact ⟨_, kRI, rfl⟩
    · cases List.mem_singleton.mp hq; exact ⟨_, kSI, rfl⟩⟩⟩, kI⟩
  obtain ⟨itI, mvI, bKI⟩ := F_zinit.kbinds (ps := ["self", "offset", "changes", "rule", "since"]) 3 ["rule", "since"] [] (fun us _ _ ws => us ++ ws) (by simp) (by simp) (fun q hq => by cases hq) (fun r1 _ _ r2 => Vals.append r1 r2) (fun T D doc pm an cdv ct us its mv ws h1 h2 h3 h4 => match us, its, mv, ws, h1, h2, h3, h4 with | [_, _, _], [_], [], [_, _], _, _, _, _ => ⟨_, rfl, rfl⟩)
  have D_initK : DmK l.prog w K mg base 9 C ["self", "offset", "changes", "rule", "since"] 2 ["rule", "since"] gApp (spZInit l.prog w C) := ⟨⟨_, _, _, ok_zinit F_zinit T T2 D_check_offset D_check_changes D_real_changes D_rule_table D_check_number2 D_follow, ⟨mkC, aI, iI, kpC⟩, bKI⟩⟩
  have F_offset_at := fun_mk (st := sZoneOffsetAt) l31 c31 k31
  have b_offset_at := F_offset_at.binds (ps := ["self", "instant"]) fun _ _ _ _ _ _ us hl => match us, hl with | [_, _], _ => rfl
  have G_offset_at : FnOk l.prog w K mg base CX0 7 f31 _ ["self", "instant"] (spOffAt l.prog w C) := ok_offat F_offset_at T2 D_check_number2 D_last_change
  have D_offset_at : Dm l.prog w K mg base 7 C "offset_at" ["self", "instant"] (spOffAt l.prog w C) := ⟨⟨_, _, G_offset_at, ⟨a31, i31, k31⟩, b_offset_at⟩⟩
  have X_offset_at : DmX l.prog w K mg base 4 C "offset_at" ["self", "instant"] (spOffAtX l.prog w K C yN) := ⟨⟨_, _, ok_offatX F_offset_at X_check_number, ⟨a31, i31, k31⟩, b_offset_at⟩⟩
  have F_law_begun := fun_mk (st := sLawBegun) l32 c32 k32
  have b_law_begun := F_law_begun.binds (ps := ["script"]) fun _ _ _ _ _ _ us hl => match us, hl with | [_], _ => rfl
  have G_law_begun : FnOk l.prog w K mg base CX0 1 f32 _ ["script"] (spBegun K) := ok_begun F_law_begun T
  have D_law_begun : Df l.prog w K mg base 1 "_law_begun" ["script"] [] (spBegun K) := ⟨⟨_, _, [], G_law_begun, PySem.W.mg_of X G a32, k32, .nil, b_law_begun⟩⟩
  have F_law_mixed := fun_mk (st := sLawMixed) l33 c33 k33
  have b_law_mixed := F_law_mixed.binds (ps := ["state"]) fun _ _ _ _ _ _ us hl => match us, hl with | [_], _ => rfl
  have G_law_mixed : FnOk l.prog w K mg base CX0 1 f33 _ ["state"] spMixed := ok_mixed F_law_mixed T
  have D_law_mixed : Df l.prog w K mg base 1 "_law_mixed" ["state"] [] spMixed := ⟨⟨_, _, [], G_law_mixed, PySem.W.mg_of X G a33, k33, .nil, b_law_mixed⟩⟩
  have F_law_take := fun_mk (st := sLawTake) l34 c34 k34
  have b_law_take := F_law_take.binds (ps := ["state", "size"]) fun _ _ _ _ _ _ us hl => match us, hl with | [_, _], _ => rfl
  have G_law_take : FnOk l.prog w K mg base CX0 2 f34 _ ["state", "size"] spTake := ok_take F_law_take T D_law_mixed
  have D_law_take : Df l.prog w K mg base 2 "_law_take" ["state", "size"] [] spTake := ⟨⟨_, _, [], G_law_take, PySem.W.mg_of X G a34, k34, .nil, b_law_take⟩⟩
  have F_law_pick := fun_mk (st := sLawPick) l35 c35 k35
  have b_law_pick := F_law_pick.binds (ps := ["state", "some"]) fun _ _ _ _ _ _ us hl => match us, hl with | [_, _], _ => rfl
  have G_law_pick : FnOk l.prog w K mg base CX0 3 f35 _ ["state", "some"] spPick := ok_pick F_law_pick T D_law_take
  have D_law_pick : Df l.prog w K mg base 3 "_law_pick" ["state", "some"] [] spPick := ⟨⟨_, _, [], G_law_pick, PySem.W.mg_of X G a35, k35, .nil, b_law_pick⟩⟩
  have F_law_new_year := fun_mk (st := sLawNewYear) l36 c36 k36
  have b_law_new_year := F_law_new_year.binds (ps := ["year"]) fun _ _ _ _ _ _ us hl => match us, hl with | [_], _ => rfl
  have G_law_new_year : FnOk l.prog w K mg base CX0 1 f36 _ ["year"] spNy := ok_ny F_law_new_year
  have D_law_new_year : Df l.prog w K mg base 1 "_law_new_year" ["year"] [] spNy := ⟨⟨_, _, [], G_law_new_year, PySem.W.mg_of X G a36, k36, .nil, b_law_new_year⟩⟩
  have F_law_month := fun_mk (st := sLawMonth) l37 c37 k37
  have b_law_month := F_law_month.binds (ps := ["year", "month"]) fun _ _ _ _ _ _ us hl => match us, hl with | [_, _], _ => rfl
  have G_law_month : FnOk l.prog w K mg base CX0 2 f37 _ ["year", "month"] spMonth := ok_month F_law_month T D_law_new_year
  have D_law_month : Df l.prog w K mg base 2 "_law_month" ["year", "month"] [] spMonth := ⟨⟨_, _, [], G_law_month, PySem.W.mg_of X G a37, k37, .nil, b_law_month⟩⟩
  have F_law_named := fun_mk (st := sLawNamed) l38 c38 k38
  have b_law_named := F_law_named.binds (ps := ["yearly", "year"]) fun _ _ _ _ _ _ us hl => match us, hl with | [_, _], _ => rfl
  have G_law_named : FnOk l.prog w K mg base CX0 3 f38 _ ["yearly", "year"] spNamed := ok_named F_law_named T D_law_month D_law_new_year
  have D_law_named : Df l.prog w K mg base 3 "_law_named" ["yearly", "year"] [] spNamed := ⟨⟨_, _, [], G_law_named, PySem.W.mg_of X G a38, k38, .nil, b_law_named⟩⟩
  have F_law_turns := fun_mk (st := sLawTurns) l39 c39 k39
  have b_law_turns := F_law_turns.binds (ps := ["scheme", "year"]) fun _ _ _ _ _ _ us hl => match us, hl with | [_, _], _ => rfl
  have G_law_turns : FnOk l.prog w K mg base CX0 4 f39 _ ["scheme", "year"] spTurns := ok_turns F_law_turns T D_law_named
  have D_law_turns : Df l.prog w K mg base 4 "_law_turns" ["scheme", "year"] [] spTurns := ⟨⟨_, _, [], G_law_turns, PySem.W.mg_of X G a39, k39, .nil, b_law_turns⟩⟩
  have F_law_yearly := fun_mk (st := sLawYearly) l40 c40 k40
  have b_law_yearly := F_law_yearly.binds (ps := ["state", "month"]) fun _ _ _ _ _ _ us hl => match us, hl with | [_, _], _ => rfl
  have G_law_yearly : FnOk l.prog w K mg base CX0 3 f40 _ ["state", "month"] spYl := ok_yl F_law_yearly T D_law_take
  have D_law_yearly : Df l.prog w K mg base 3 "_law_yearly" ["state", "month"] [] spYl := ⟨⟨_, _, [], G_law_yearly, PySem.W.mg_of X G a40, k40, .nil, b_law_yearly⟩⟩
  have F_law_twin := fun_mk (st := sLawTwin) l41 c41 k41
  have b_law_twin := F_law_twin.binds (ps := ["state", "scheme"]) fun _ _ _ _ _ _ us hl => match us, hl with | [_, _], _ => rfl
  have G_law_twin : FnOk l.prog w K mg base CX0 4 f41 _ ["state", "scheme"] spTwin := ok_twin F_law_twin T D_law_pick
  have D_law_twin : Df l.prog w K mg base 4 "_law_twin" ["state", "scheme"] [] spTwin := ⟨⟨_, _, [], G_law_twin, PySem.W.mg_of X G a41, k41, .nil, b_law_twin⟩⟩
  have F_law_rule := fun_mk (st := sLawRule) l42 c42 k42
  have b_law_rule := F_law_rule.binds (ps := ["state"]) fun _ _ _ _ _ _ us hl => match us, hl with | [_], _ => rfl
  have G_law_rule : FnOk l.prog w K mg base CX0 5 f42 _ ["state"] spRlO := ok_lr F_law_rule T D_law_take D_law_pick D_law_yearly D_law_twin
  have D_law_rule : Df l.prog w K mg base 5 "_law_rule" ["state"] [] spRlO := ⟨⟨_, _, [], G_law_rule, PySem.W.mg_of X G a42, k42, .nil, b_law_rule⟩⟩
  have F_law_year := fun_mk (st := sLawYear) l43 c43 k43
  have b_law_year := F_law_year.binds (ps := ["instant"]) fun _ _ _ _ _ _ us hl => match us, hl with | [_], _ => rfl
  have G_law_year : FnOk l.prog w K mg base CX0 2 f43 _ ["instant"] spLYear := ok_lyear F_law_year D_law_new_year
  have D_law_year : Df l.prog w K mg base 2 "_law_year" ["instant"] [] spLYear := ⟨⟨_, _, [], G_law_year, PySem.W.mg_of X G a43, k43, .nil, b_law_year⟩⟩
  have F_law_offset := fun_mk (st := sLawOffset) l44 c44 k44
  have b_law_offset := F_law_offset.binds (ps := ["world", "instant"]) fun _ _ _ _ _ _ us hl => match us, hl with | [_, _], _ => rfl
  have G_law_offset : FnOk l.prog w K mg base CX0 5 f44 _ ["world", "instant"] spLOff := ok_loff F_law_offset D_law_turns D_law_year
  have D_law_offset : Df l.prog w K mg base 5 "_law_offset" ["world", "instant"] [] spLOff := ⟨⟨_, _, [], G_law_offset, PySem.W.mg_of X G a44, k44, .nil, b_law_offset⟩⟩
  have F_law_changes := fun_mk (st := sLawChanges) l45 c45 k45
  have b_law_changes := F_law_changes.binds (ps := ["state", "most"]) fun _ _ _ _ _ _ us hl => match us, hl with | [_, _], _ => rfl
  have G_law_changes : FnOk l.prog w K mg base CX0 4 f45 _ ["state", "most"] spLChs := ok_lchs F_law_changes T D_law_take D_law_pick
  have D_law_changes : Df l.prog w K mg base 4 "_law_changes" ["state", "most"] [] spLChs := ⟨⟨_, _, [], G_law_changes, PySem.W.mg_of X G a45, k45, .nil, b_law_changes⟩⟩
  have F_law_zone := fun_mk (st := sLawZone) l46 c46 k46
  have b_law_zone := F_law_zone.binds (ps := ["state", "most"]) fun _ _ _ _ _ _ us hl => match us, hl with | [_, _], _ => rfl
  have G_law_zone : FnOk l.prog w K mg base CX0 6 f46 _ ["state", "most"] spLZone := ok_lzone F_law_zone T D_law_take D_law_pick D_law_changes D_law_rule
  have D_law_zone : Df l.prog w K mg base 6 "_law_zone" ["state", "most"] [] spLZone := ⟨⟨_, _, [], G_law_zone, PySem.W.mg_of X G a46, k46, .nil, b_law_zone⟩⟩
  have F_law_made := fun_mk (st := sLawMade) l47 c47 k47
  have b_law_made := F_law_made.binds (ps := ["world"]) fun _ _ _ _ _ _ us hl => match us, hl with | [_], _ => rfl
  have G_law_made : FnOk l.prog w K mg base CX0 11 f47 _ ["world"] (spMade l.prog w C) := ok_made F_law_made mZ D_initK
  have D_law_made : Df l.prog w K mg base 11 "_law_made" ["world"] [] (spMade l.prog w C) := ⟨⟨_, _, [], G_law_made, PySem.W.mg_of X G a47, k47, .nil, b_law_made⟩⟩
  have F_law_spots := fun_mk (st := sLawSpots) l48 c48 k48
  have b_law_spots := F_law_spots.binds (ps := ["world", "low", "high"]) fun _ _ _ _ _ _ us hl => match us, hl with | [_, _, _], _ => rfl
  have G_law_spots : FnOk l.prog w K mg base CX0 5 f48 _ ["world", "low", "high"] spSpots := ok_spots F_law_spots T T.dict D_law_turns D_law_year
  have D_law_spots : Df l.prog w K mg base 5 "_law_spots" ["world", "low", "high"] [] spSpots := ⟨⟨_, _, [], G_law_spots, PySem.W.mg_of X G a48, k48, .nil, b_law_spots⟩⟩
  have F_law_is_refused := fun_mk (st := sLawIsRefused) l49 c49 k49
  have b_law_is_refused := F_law_is_refused.binds (ps := ["zone", "thing"]) fun _ _ _ _ _ _ us hl => match us, hl with | [_, _], _ => rfl
  have G_law_is_refused : FnG l.prog w K mg base CX0 5 f49 _ ["zone", "thing"] (spRef K C) := ok_ref F_law_is_refused T L T2 X_offset_at
  have D_law_is_refused : Dg l.prog w K mg base 5 "_law_is_refused" ["zone", "thing"] [] (spRef K C) := ⟨⟨_, _, [], G_law_is_refused, PySem.W.mg_of X G a49, k49, .nil, b_law_is_refused⟩⟩
  have F_law := fun_mk (st := sLaw) l50 c50 k50
  exact (ok_law F_law T T2 D_law_begun D_law_take D_law_pick D_law_zone D_law_made.cut2 D_law_spots D_offset_at D_law_offset D_law_is_refused)
end Cf
open PySem PySem.W PyProof.Rows
set_option maxRecDepth 100000 in
set_option maxHeartbeats 0 in
theorem PySem.Challenge.cw_clockfolds_k27_offsets_at_instants_holds : PySem.Challenge.rw_clockfolds_k27_offsets_at_instants.Holds := by
  w_on; o_law; k_head; (case hw => w_witness2)
  k_fill
  refine Cf.walk_g (l := PySem.Challenge.rw_clockfolds_k27_offsets_at_instants) (n := 63) (k := 12) (sp := Cf.spLaw) (x := "script") rfl (by decide) rfl ⟨rfl, by decide, by decide⟩ (fun w h Y => PySem.W.kIn_of Y) ?F (fun K H a ns hl hS => ⟨a, ns, rfl, hS, hl, fun _ => rfl⟩)
  case F =>
    intro w mg fa h KX G hmg
    refine' Cf.all_mk KX G hmg ?a0 ?l0 ?c0 ?k0 ?a1 ?l1 ?c1 ?k1 ?lT1 ?a2 ?l2 ?c2 ?k2 ?a3 ?l3 ?c3 ?k3 ?a4 ?l4 ?c4 ?k4 ?a5 ?l5 ?c5 ?k5 ?a6 ?l6 ?c6 ?k6 ?a7 ?l7 ?c7 ?k7 ?a8 ?l8 ?c8 ?k8 ?a9 ?l9 ?c9 ?k9 ?a10 ?l10 ?c10 ?k10 ?a11 ?l11 ?c11 ?k11 ?a12 ?l12 ?c12 ?k12 ?a13 ?l13 ?c13 ?k13 ?a14 ?l14 ?c14 ?k14 ?a15 ?l15 ?c15 ?k15 ?a16 ?l16 ?c16 ?k16 ?a17 ?l17 ?c17 ?k17 ?a18 ?l18 ?c18 ?k18 ?a19 ?l19 ?c19 ?k19 ?a20 ?l20 ?c20 ?k20 ?a21 ?l21 ?c21 ?k21 ?a22 ?l22 ?c22 ?k22 ?a23 ?l23 ?c23 ?k23 ?a24 ?l24 ?c24 ?k24 ?a25 ?l25 ?c25 ?k25 ?a26 ?l26 ?c26 ?k26 ?a27 ?l27 ?c27 ?k27 ?a28 ?l28 ?c28 ?k28 ?a29 ?l29 ?c29 ?k29 ?a30 ?i30 ?l30 ?c30 ?k30 ?a31 ?i31 ?l31 ?c31 ?k31 ?a32 ?l32 ?c32 ?k32 ?a33 ?l33 ?c33 ?k33 ?a34 ?l34 ?c34 ?k34 ?a35 ?l35 ?c35 ?k35 ?a36 ?l36 ?c36 ?k36 ?a37 ?l37 ?c37 ?k37 ?a38 ?l38 ?c38 ?k38 ?a39 ?l39 ?c39 ?k39 ?a40 ?l40 ?c40 ?k40 ?a41 ?l41 ?c41 ?k41 ?a42 ?l42 ?c42 ?k42 ?a43 ?l43 ?c43 ?k43 ?a44 ?l44 ?c44 ?k44 ?a45 ?l45 ?c45 ?k45 ?a46 ?l46 ?c46 ?k46 ?a47 ?l47 ?c47 ?k47 ?a48 ?l48 ?c48 ?k48 ?a49 ?l49 ?c49 ?k49 ?a50 ?l50 ?c50 ?k50 ?z_abs ?z_int ?z_bool ?z_isinstance ?z_sum ?z_divmod ?z_min ?z_len ?z_range ?z_repr ?z_max ?z_tuple ?z_str ?z_all ?z_enumerate ?z_zip ?z_sorted ?z_reversed ?z_list ?z_dict ?aM ?lM ?aW ?lW ?kW ?sW ?w_nth ?w_last ?w_from ?w_until ?w_date ?w_day ?aLf ?lLf ?aFu ?lFu ?mCE ?mCO ?hnO ?htO ?thE ?saE ?gaE ?ggE ?clE ?kpE ?thO ?saO ?gaO ?ggO ?clO ?kpO ?inO ?ilO ?io_O ?ik_O ?ityO ?fyO ?fiO ?mCN ?thN ?saN ?gaN ?ggN ?clN ?kpN ?inN ?ilN ?io_N ?ik_N ?ityN ?fvN ?ne1 ?ne2 ?aC ?pgC ?hdC ?poC ?saC ?mkC ?kpC ?noT ?noO ?noC ?noS ?noB ?aI ?iI ?lI ?lTI ?kRI ?kSI ?cI ?kI ?xC ?xD ?xY ?xM
    (case aC => k_is)
    (case a0 => k_is)
    (case l0 => k_is)
    (case c0 => k_is)
    (case k0 => k_is)
    (case a1 => k_is)
    (case l1 => k_is)
    (case c1 => k_is)
    (case k1 => k_is)
    (case lT1 => k_is)
    (case a2 => k_is)
    (case l2 => k_is)
    (case c2 => k_is)
    (case k2 => k_is)
    (case a3 => k_is)
    (case l3 => k_is)
    (case c3 => k_is)
    (case k3 => k_is)
    (case a4 => k_is)
    (case l4 => k_is)
    (case c4 => k_is)
    (case k4 => k_is)
    (case a5 => k_is)
    (case l5 => k_is)
    (case c5 => k_is)
    (case k5 => k_is)
    (case a6 => k_is)
    (case l6 => k_is)
    (case c6 => k_is)
    (case k6 => k_is)
    (case a7 => k_is)
    (case l7 => k_is)
    (case c7 => k_is)
    (case k7 => k_is)
    (case a8 => k_is)
    (case l8 => k_is)
    (case c8 => k_is)
    (case k8 => k_is)
    (case a9 => k_is)
    (case l9 => k_is)
    (case c9 => k_is)
    (case k9 => k_is)
    (case a10 => k_is)
    (case l10 => k_is)
    (case c10 => k_is)
    (case k10 => k_is)
    (case a11 => k_is)
    (case l11 => k_is)
    (case c11 => k_is)
    (case k11 => k_is)
    (case a12 => k_is)
    (case l12 => k_is)
    (case c12 => k_is)
    (case k12 => k_is)
    (case a13 => k_is)
    (case l13 => k_is)
    (case c13 => k_is)
    (case k13 => k_is)
    (case a14 => k_is)
    (case l14 => k_is)
    (case c14 => k_is)
    (case k14 => k_is)
    (case a15 => k_is)
    (case l15 => k_is)
    (case c15 => k_is)
    (case k15 => k_is)
    (case a16 => k_is)
    (case l16 => k_is)
    (case c16 => k_is)
    (case k16 => k_is)
    (case a17 => k_is)
    (case l17 => k_is)
    (case c17 => k_is)
    (case k17 => k_is)
    (case a18 => k_is)
    (case l18 => k_is)
    (case c18 => k_is)
    (case k18 => k_is)
    (case a19 => k_is)
    (case l19 => k_is)
    (case c19 => k_is)
    (case k19 => k_is)
    (case a20 => k_is)
    (case l20 => k_is)
    (case c20 => k_is)
    (case k20 => k_is)
    (case a21 => k_is)
    (case l21 => k_is)
    (case c21 => k_is)
    (case k21 => k_is)
    (case a22 => k_is)
    (case l22 => k_is)
    (case c22 => k_is)
    (case k22 => k_is)
    (case a23 => k_is)
    (case l23 => k_is)
    (case c23 => k_is)
    (case k23 => k_is)
    (case a24 => k_is)
    (case l24 => k_is)
    (case c24 => k_is)
    (case k24 => k_is)
    (case a25 => k_is)
    (case l25 => k_is)
    (case c25 => k_is)
    (case k25 => k_is)
    (case a26 => k_is)
    (case l26 => k_is)
    (case c26 => k_is)
    (case k26 => k_is)
    (case a27 => k_is)
    (case l27 => k_is)
    (case c27 => k_is)
    (case k27 => k_is)
    (case a28 => k_is)
    (case l28 => k_is)
    (case c28 => k_is)
    (case k28 => k_is)
    (case a29 => k_is)
    (case l29 => k_is)
    (case c29 => k_is)
    (case k29 => k_is)
    (case a30 => k_is)
    (case i30 => k_is)
    (case l30 => k_is)
    (case c30 => k_is)
    (case k30 => k_is)
    (case a31 => k_is)
    (case i31 => k_is)
    (case l31 => k_is)
    (case c31 => k_is)
    (case k31 => k_is)
    (case a32 => k_is)
    (case l32 => k_is)
    (case c32 => k_is)
    (case k32 => k_is)
    (case a33 => k_is)
    (case l33 => k_is)
    (case c33 => k_is)
    (case k33 => k_is)
    (case a34 => k_is)
    (case l34 => k_is)
    (case c34 => k_is)
    (case k34 => k_is)
    (case a35 => k_is)
    (case l35 => k_is)
    (case c35 => k_is)
    (case k35 => k_is)
    (case a36 => k_is)
    (case l36 => k_is)
    (case c36 => k_is)
    (case k36 => k_is)
    (case a37 => k_is)
    (case l37 => k_is)
    (case c37 => k_is)
    (case k37 => k_is)
    (case a38 => k_is)
    (case l38 => k_is)
    (case c38 => k_is)
    (case k38 => k_is)
    (case a39 => k_is)
    (case l39 => k_is)
    (case c39 => k_is)
    (case k39 => k_is)
    (case a40 => k_is)
    (case l40 => k_is)
    (case c40 => k_is)
    (case k40 => k_is)
    (case a41 => k_is)
    (case l41 => k_is)
    (case c41 => k_is)
    (case k41 => k_is)
    (case a42 => k_is)
    (case l42 => k_is)
    (case c42 => k_is)
    (case k42 => k_is)
    (case a43 => k_is)
    (case l43 => k_is)
    (case c43 => k_is)
    (case k43 => k_is)
    (case a44 => k_is)
    (case l44 => k_is)
    (case c44 => k_is)
    (case k44 => k_is)
    (case a45 => k_is)
    (case l45 => k_is)
    (case c45 => k_is)
    (case k45 => k_is)
    (case a46 => k_is)
    (case l46 => k_is)
    (case c46 => k_is)
    (case k46 => k_is)
    (case a47 => k_is)
    (case l47 => k_is)
    (case c47 => k_is)
    (case k47 => k_is)
    (case a48 => k_is)
    (case l48 => k_is)
    (case c48 => k_is)
    (case k48 => k_is)
    (case a49 => k_is)
    (case l49 => k_is)
    (case c49 => k_is)
    (case k49 => k_is)
    (case a50 => k_is)
    (case l50 => k_is)
    (case c50 => k_is)
    (case k50 => k_is)
    (case z_abs => k_is)
    (case z_int => k_is)
    (case z_bool => k_is)
    (case z_isinstance => k_is)
    (case z_sum => k_is)
    (case z_divmod => k_is)
    (case z_min => k_is)
    (case z_len => k_is)
    (case z_range => k_is)
    (case z_repr => k_is)
    (case z_max => k_is)
    (case z_tuple => k_is)
    (case z_str => k_is)
    (case z_all => k_is)
    (case z_enumerate => k_is)
    (case z_zip => k_is)
    (case z_sorted => k_is)
    (case z_reversed => k_is)
    (case z_list => k_is)
    (case z_dict => k_is)
    (case aM => k_is)
    (case lM => k_is)
    (case aW => k_is)
    (case lW => k_is)
    (case kW => exact ⟨⟨_, _, rfl, rfl⟩, ⟨_, _, rfl, rfl⟩, ⟨_, _, rfl, rfl⟩, ⟨_, _, rfl, rfl⟩, ⟨_, _, rfl, rfl⟩, ⟨_, _, rfl, rfl⟩, trivial⟩)
    (case sW => rfl)
    (case w_nth => k_is)
    (case w_last => k_is)
    (case w_from => k_is)
    (case w_until => k_is)
    (case w_date => k_is)
    (case w_day => k_is)
    (case aLf => k_is)
    (case lLf => k_is)
    (case aFu => k_is)
    (case lFu => k_is)
    (case mCE => k_is)
    (case mCO => k_is)
    (case hnO => k_is)
    (case htO => k_is)
    (case thE => k_is)
    (case saE => k_is)
    (case gaE => k_is)
    (case ggE => k_is)
    (case clE => k_is)
    (case kpE => k_is)
    (case thO => k_is)
    (case saO => k_is)
    (case gaO => k_is)
    (case ggO => k_is)
    (case clO => k_is)
    (case kpO => k_is)
    (case inO => k_is)
    (case ilO => k_is)
    (case io_O => k_is)
    (case ik_O => k_is)
    (case ityO => k_is)
    (case fyO => k_is)
    (case fiO => k_is)
    (case mCN => k_is)
    (case thN => k_is)
    (case saN => k_is)
    (case gaN => k_is)
    (case ggN => k_is)
    (case clN => k_is)
    (case kpN => k_is)
    (case inN => k_is)
    (case ilN => k_is)
    (case io_N => k_is)
    (case ik_N => k_is)
    (case ityN => k_is)
    (case fvN => k_is)
    (case ne1 => rfl)
    (case ne2 => rfl)
    (case pgC => k_is)
    (case hdC => k_is)
    (case poC => k_is)
    (case saC => k_is)
    (case mkC => k_is)
    (case kpC => k_is)
    (case noT => k_is)
    (case noO => k_is)
    (case noC => k_is)
    (case noS => k_is)
    (case noB => k_is)
    (case aI => k_is)
    (case iI => k_is)
    (case lI => k_is)
    (case lTI => k_is)
    (case kRI => k_is)
    (case kSI => k_is)
    (case cI => k_is)
    (case kI => k_is)
    (case xC => k_is)
    (case xD => k_is)
    (case xY => k_is)
    (case xM => k_is)
