import PyProof.Rows.All
import Wide.All
import OpenK.AllK
import Wide.FinOn
import PyProof.ReprRoads
import KE.KTupSum
import HandS.ForMost
import HandS.IsInst
import HandS.Defaults
import HandS.TupAny
import HandS.Gcd
import HandS.Property
import HandS.Small
import HandS.Flow
import HandS.SortInts
import HandS.Set
import HandS.Strs
import HandS.ClsMeth
import KE.KMathG
import HandS.Star
import PyProof.LongRange
import HandS.Codes
import HandS.DictComp
import KE.KDictKeyed
import HandS.WordsDict
import HandS.Dict
import HandS.TupLe
import HandS.DictEq
import HandS.SetBool
import HandS.SetKeys
import HandS.SetFor
import KE.KDictPairs
import HandS.Walk
import HandS.Style
import PySem.Challenge.RW_clockfolds_k20_yearly_days_told
set_option Elab.async false
set_option linter.all false
set_option maxRecDepth 100000
/-! Own layer over HandS: promises that hold where no repr is under way (guards = some []), repr of data, sum of a tuple. -/
namespace Cf
open PySem PySem.Spec PyProof.Rows L2

/-- as FnOk, but asked only where no repr is under way -/
structure FnG (P : Program) (w : World) (K : PySem.W.Frag) (mg : Str → Option Value) (base : Heap) (CX : CXT) (k : Nat) (f : Addr) (fd : FuncData) (ps : List Str) (sp : Sp) : Prop where
  many : ∀ vs H Q E, sp vs H Q E → vs.length = ps.length
  go : ∀ (A : Around), A.guards = some [] → ∀ (outer : List Env) (s : Shared) (H : Hp) (args : Args) (us : List Value) (vs : List V) (Q : VK) (E : XK),
    Room k A → Env0 P w K mg base A outer s H → BindsTo s fd args (ps.zip us) → Vals vs us → sp vs H Q E →
      codeAny (model P w) A (.call (.ref f) args) (CR CX outer P w H s Q E) s

section
variable {P : Program} {w : World} {K : PySem.W.Frag} {mg : Str → Option Value} {base : Heap} {CX : CXT}

theorem FnG.of {k : Nat} {f : Addr} {fd : FuncData} {ps : List Str} {sp : Sp} (F : FnOk P w K mg base CX k f fd ps sp) : FnG P w K mg base CX k f fd ps sp :=
  { many := F.len, go := fun A _ => F.run A }

/-- a def keeps its promise, its body walked where no repr is under way -/
theorem fn_g {k : Nat} {f : Addr} {name qual : Str} {params : Arguments} {body : List Stmt} {scope : Scope} {dV kV doc pm cdv ct oc : Value} {an od : Option Addr} {osl : Array (Option Value)} {N ps : List Str} {sp : Sp}
    (there : K.lookup f = some ⟨oc, od, .func (PySem.W.fnOf name qual params body scope dV kV doc pm an cdv ct), osl⟩)
    (code : PySem.W.codeIn K cdv qual = true) (sc : FnScope N ps scope) (many : ∀ vs H Q E, sp vs H Q E → vs.length = ps.length)
    (walk : ∀ (A : Around), A.guards = some [] → ∀ (outer : List Env) (s : Shared) (H : Hp) (vs : List V) (Q : VK) (E : XK),
      Room k (A.deeper (envOfC qual scope s.heap.objs.size f cdv)) → sp vs H Q E →
        ∃ t, PSs (cxOf CX P w K mg base N qual scope f cdv A outer s H E) body t ∧ t { nx := fun _ H' => Q .non H', rt := Q } (start N vs) H) :
    FnG P w K mg base CX (k + 1) f (PySem.W.fnOf name qual params body scope dV kV doc pm an cdv ct) ps sp := by
  constructor
  · exact many
  intro A gd outer s H args us vs Q E room env bind vals asked
  have n := many vs H Q E asked
  have inK : K.In s.heap := env.mod.kin.keeps fun b o h => (env.bs b o h).1
  have noLim : s.heap.NoLimit := env.mod.nolimit.keeps fun b o h => (env.bs b o h).1
  have kinds : ∀ y ∈ ps.zip us, scope.names.lookup y.1 = some .local ∨
      (scope.names.lookup y.1 = some .cell ∧ ((cellsFrom (s.heap.objs.size + 1) scope.names []).lookup y.1).isSome = true) := by
    rintro ⟨z, v⟩ hz
    have hz1 := (List.of_mem_zip hz).1
    cases sc.par z hz1 with
    | inl l => exact Or.inl l
    | inr c => exact Or.inr ⟨c, PySem.W.cellsFrom_some _ _ _ (Or.inl c)⟩
  apply codeAny_call_function room.depth (inK _ _ there) rfl sc.co sc.gen rfl (PySem.W.codeRec_of inK code)
  apply bind
  apply wpAny_newFunctionEnv_cells sc.kind kinds
  intro env' he s1 x
  cases he
  refine And.intro (noLim.keeps x.toInCall.keep) (codeAny_func ?_)
  rcases walk A gd outer s H vs Q E (room.deeper _) asked with ⟨t, ht, hq⟩
  have I0 := inv_start (CX := CX) (E := E) (f := f) (qual := qual) (cd := cdv) sc room.hd env n vals x
  apply wpAny_mono (ht.run [] s1 (start N vs) H _ I0 hq)
  · intro fl s' hs
    cases fl with
    | ret u =>
      rcases hs with ⟨v, _, H', J, rv, q⟩
      exact ⟨v, H', J.os, J.bare, J.base, J.hok, rv, q⟩
    | next =>
      rcases hs with ⟨_, H', J, q⟩
      exact ⟨V.non, H', J.os, J.bare, J.base, J.hok, rfl, q⟩
    | brk =>
      rcases hs with ⟨_, _, _, q⟩
      exact q.elim
    | cont =>
      rcases hs with ⟨_, _, _, q⟩
      exact q.elim
  · intro e s' hs
    exact hs

/-- .. of the text's def, none let out -/
theorem funG {x qual : Str} {st : Stmt} {f : Addr} {fd : FuncData} {N ps : List Str} {k : Nat} {sp : Sp} (F : Fun K x qual st f fd) (sc : FnScope N ps (defScope st))
    (many : ∀ vs H Q E, sp vs H Q E → vs.length = ps.length)
    (walk : ∀ (cdv : Value) (A : Around), A.guards = some [] → ∀ (outer : List Env) (s : Shared) (H : Hp) (vs : List V) (Q : VK) (E : XK),
      Room k (A.deeper (envOfC qual (defScope st) s.heap.objs.size f cdv)) → sp vs H Q E →
        ∃ t, PSs (cxOf CX0 P w K mg base N qual (defScope st) f cdv A outer s H E).nox (defBody st) t ∧ t { nx := fun _ H' => Q .non H', rt := Q } (start N vs) H) :
    FnG P w K mg base CX0 (k + 1) f fd ps sp := by
  rcases F.ex with ⟨_, _, _, _, _, _, cdv, _, _, rfl, there, code⟩
  exact fn_g there code sc many fun A gd outer s H vs Q E room asked =>
    let ⟨t, h, q⟩ := walk cdv A gd outer s H vs Q E room asked
    ⟨t, h.nox, q⟩
end

section
variable {X : Cx} {CX : CXT} {k : Nat} {f : Addr} {fd : FuncData} {ps : List Str} {sp : Sp} {dvs : List V} {ds : List Value} {E : XK} {x : Str} {p pos : Pos} {e : Expr} {es : List Expr} {t : TA}
theorem goG {pins : List (Addr × Obj)} {σ : L2.St} {H : Hp} {s : Shared} {Q : VK} {us : List Value} {vs : List V} (F : FnG X.prog X.w X.K X.mg X.base CX k f fd ps sp) (gd : X.A.guards = some []) (room : Room k X.A)
    (hb : Binds X.K fd ps ds) (hd : Vals dvs ds) (out : Passes CX X E) (I : Inv X pins σ H s) (r : Vals vs us) (asked : sp (vs ++ dvs) H Q E) :
    wpAny (model X.prog X.w) X.A (call (.ref f) us) (EP X pins σ Q) X.xe s := by
  have rr : Vals (vs ++ dvs) (us ++ ds) := r.append hd
  have ll : (us ++ ds).length = ps.length := rr.length.symm.trans (F.many _ _ _ _ asked)
  apply wpAny_call
  refine codeAny_mono (F.go X.A gd X.stack s H ⟨us, []⟩ (us ++ ds) (vs ++ dvs) Q E room I.env0 (hb s us I.kIn ll) rr asked) ?_
  intro res s' got
  match res, got with
  | .error e, got => exact out pins σ H s e s' I got
  | .ok (.ret u), got => exact I.after got
  | .ok .next, got => exact got.elim
  | .ok .brk, got => exact got.elim
  | .ok .cont, got => exact got.elim
/-- f(e, ..), f a def of the program that may show containers -/
theorem pe_callG (F : FnG X.prog X.w X.K X.mg X.base CX k f fd ps sp) (gd : X.A.guards = some []) (room : Room k X.A) (hg : Gl X x) (hm : X.mg x = some (.ref f)) (hk : PySem.W.keepIn X.K (.ref f) = true)
    (hb : Binds X.K fd ps ds) (hd : Vals dvs ds) (out : Passes CX X E) (args : PA X (e :: es) t) (hdb : (x == ("__debug__" : Str)) = false := by decide)
    (he : starEach (e :: es) X.env = (false, eval e X.env) :: starEach es X.env := by rfl) (hpl : (backTo pos (starEach es X.env)).any (·.1) = false := by rfl) :
    PE X (.Call (.Name x p) (e :: es) [] pos) (tCall sp dvs E t) := by
  constructor
  intro pins s σ H Q I h
  apply wpAny_Call_Name_kw (ld_glob I hg hm ?_ hdb)
  apply PySem.W.callWith_K (h₀ := X.base) I.ok.mod.kin hk _ he hpl
  apply thn (args.run pos pins s σ H _ I h)
  rintro us s1 ⟨vs, H1, I1, r, q⟩
  exact ⟨I1.kIn, goG F gd room hb hd out I1 r q⟩
end

/-! ### repr -/
/-- data as they lie in the heap: as Dp of the hand layer, and dicts of ints -/
theorem call_reprD {X : Cx} (gd : X.A.guards = some []) (hu : X.A.units + 64 < cLine) : CallR X (.builtin "repr") (fun xs H Q => ∃ (a : Addr) (d : PyData), xs = [.ref a] ∧ Dp X.K H (.ref a) d ∧ d.showable = true ∧ d.hasDict = false ∧ d.depth ≤ 60 ∧ d.shown.length ≤ sizeLine ∧ Q (.str d.shown) H) := by
  intro pins s σ H xs us Q I r h
  obtain ⟨a, d, rfl, hd, sh, nd, dd, sz, q⟩ := h
  obtain ⟨u, rfl, ru⟩ : ∃ u, us = [u] ∧ RelV (.ref a) u := by
    cases r with
    | cons r1 r2 => cases r2; exact ⟨_, rfl, r1⟩
  cases ru
  obtain ⟨as, rd⟩ := Dp.reads I d _ _ hd rfl
  refine repr_of_reads' rd sh (fun z => by rw [nd] at z; cases z) gd (by omega) (fun _ _ e => e) (fun h' u tk k => ?_) sz
  exact ⟨.str _, H, I.kept k, ⟨_, rfl⟩, q⟩
theorem call_repr_bl {X : Cx} : CallR X (.builtin "repr") (fun xs H Q => ∃ b, xs = [.bl b] ∧ Q (.str (if b then "True" else "False")) H) := by
  intro pins s σ H xs us Q I r h
  obtain ⟨b, rfl, q⟩ := h
  obtain ⟨u, rfl, ru⟩ : ∃ u, us = [u] ∧ RelV (.bl b) u := by
    cases r with
    | cons r1 r2 => cases r2; exact ⟨_, rfl, r1⟩
  cases ru
  exact PySem.P.repr_of_bool ⟨.str _, H, I.tok _, ⟨_, rfl⟩, q⟩
theorem call_repr_i {X : Cx} : CallR X (.builtin "repr") (fun xs H Q => ∃ i, xs = [.int i] ∧ i.natAbs.log2 < 1920 ∧ Q (.str (toString i)) H) := by
  intro pins s σ H xs us Q I r h
  obtain ⟨i, rfl, hz, q⟩ := h
  obtain ⟨u, rfl, t, rfl⟩ := vals1 r
  exact PySem.P.repr_of_int hz ⟨.str _, H, I.tok _, ⟨_, rfl⟩, q⟩
/-! ### sum of a tuple of ints -/
def rSumT (K : PySem.W.Frag) : List V → Hp → VK → Prop := fun vs H Q => ∃ (a : Addr) (ns : List Int), vs = [V.ref a] ∧ SqT K H a (ns.map V.int) ∧ Q (.int ns.sum) H
theorem cr_sumT {X : Cx} (hc : X.calm = true) : CallR X (.builtin "sum") (rSumT X.K) := by
  intro pins s σ H vs us Q I r h
  obtain ⟨a, ns, rfl, hs, q⟩ := h
  obtain ⟨its, rv, hl, _⟩ := I.tuple hs
  rw [Vals.ref1 r]
  have hi := rv.ints
  obtain ⟨xs, e⟩ := hi.allInts.items
  have hn : numsOf (intItems xs).toList = ns := by rw [← e]; exact hi.numsOf
  rw [nums_intItems] at hn
  have hl' : s.heap.IsTuple a its.toArray := hl
  rw [e] at hl'
  refine PySem.W.ktm_sumG (I.ok.hd hc) hl' fun h' tk t' hk => ?_
  have e2 : PySem.preSum (numAt xs) xs.size = ns.sum := by
    rw [preSum_eq, List.take_of_length_le (by simp), hn]
  rw [e2]
  exact ⟨.int _, H, I.kept hk, ⟨_, rfl⟩, q⟩
/-! ### a def of the program as its callers see it -/
structure Df (P : Program) (w : World) (K : PySem.W.Frag) (mg : Str → Option Value) (base : Heap) (k : Nat) (x : Str) (ps : List Str) (dvs : List V) (sp : Sp) : Prop where
  ex : ∃ (f : Addr) (fd : FuncData) (ds : List Value), FnOk P w K mg base CX0 k f fd ps sp ∧ mg x = some (.ref f) ∧ PySem.W.keepIn K (.ref f) = true ∧ Vals dvs ds ∧ Binds K fd ps ds
structure Dg (P : Program) (w : World) (K : PySem.W.Frag) (mg : Str → Option Value) (base : Heap) (k : Nat) (x : Str) (ps : List Str) (dvs : List V) (sp : Sp) : Prop where
  ex : ∃ (f : Addr) (fd : FuncData) (ds : List Value), FnG P w K mg base CX0 k f fd ps sp ∧ mg x = some (.ref f) ∧ PySem.W.keepIn K (.ref f) = true ∧ Vals dvs ds ∧ Binds K fd ps ds
/-- called by names alone, ks in the text's order -/
structure Dk (P : Program) (w : World) (K : PySem.W.Frag) (mg : Str → Option Value) (base : Heap) (k : Nat) (x : Str) (ps ks : List Str) (gV : List V → List V) (sp : Sp) : Prop where
  ex : ∃ (f : Addr) (fd : FuncData) (g : List Value → List Value), FnOk P w K mg base CX0 k f fd ps sp ∧ mg x = some (.ref f) ∧ PySem.W.keepIn K (.ref f) = true ∧
    (∀ {vs : List V} {us : List Value}, Vals vs us → Vals (gV vs) (g us)) ∧
    ∀ (s : Shared) (ws : List Value), K.In s.heap → ws.length = ks.length → BindsTo s fd ⟨[], ks.zip ws⟩ (ps.zip (g ws))
def tCallN0 (n : Nat) (sp : Sp) (gV : List V → List V) (tk : TA) : TE := fun σ H Q => tk σ H fun zs H2 => zs.length = n ∧ sp (gV zs) H2 Q E0
section
variable {X : Cx} {k : Nat} {x : Str} {ps ks : List Str} {sp : Sp} {dvs : List V} {p pos : Pos} {e : Expr} {es : List Expr} {t tk : TA} {kws : List Keyword} {gV : List V → List V}
theorem pe_df (D : Df X.prog X.w X.K X.mg X.base k x ps dvs sp) (hr : Room k X.A) (ha : PA X (e :: es) t) (hg : Gl X x := by rfl) (hdb : (x == ("__debug__" : Str)) = false := by decide)
    (he : starEach (e :: es) X.env = (false, eval e X.env) :: starEach es X.env := by rfl) (hpl : (backTo pos (starEach es X.env)).any (·.1) = false := by rfl) :
    PE X (.Call (.Name x p) (e :: es) [] pos) (tCall sp dvs E0 t) := by
  obtain ⟨f, fd, ds, F, m, kp, hv, b⟩ := D.ex
  exact pe_call F hr hg m kp b hv pass0 ha hdb he hpl
theorem pe_dg (D : Dg X.prog X.w X.K X.mg X.base k x ps dvs sp) (gd : X.A.guards = some []) (hr : Room k X.A) (ha : PA X (e :: es) t) (hg : Gl X x := by rfl) (hdb : (x == ("__debug__" : Str)) = false := by decide)
    (he : starEach (e :: es) X.env = (false, eval e X.env) :: starEach es X.env := by rfl) (hpl : (backTo pos (starEach es X.env)).any (·.1) = false := by rfl) :
    PE X (.Call (.Name x p) (e :: es) [] pos) (tCall sp dvs E0 t) := by
  obtain ⟨f, fd, ds, F, m, kp, hv, b⟩ := D.ex
  exact pe_callG F gd hr hg m kp b hv pass0 ha hdb he hpl
theorem pe_dk (D : Dk X.prog X.w X.K X.mg X.base k x ps ks gV sp) (hr : Room k X.A) (hkw : PK X kws tk) (hg : Gl X x := by rfl)
    (hall : (backToKw pos (keywordEach kws X.env)).all (·.1.isSome) = true := by rfl) (hks : (backToKw pos (keywordEach kws X.env)).filterMap (·.1) = ks := by rfl) (hdb : (x == ("__debug__" : Str)) = false := by decide)
    (hpl : ((backTo pos (starEach [] X.env)).any (·.1) || (backToKw pos (keywordEach kws X.env)).any (·.1.isNone)) = false := by rfl) :
    PE X (.Call (.Name x p) [] kws pos) (tCallN0 ks.length sp gV tk) := by
  obtain ⟨f, fd, g, F, m, kp, rel, b⟩ := D.ex
  constructor
  intro pins s σ H Q I h
  apply wpAny_Call_Name_kw (ld_glob I hg m ?_ hdb)
  apply PySem.W.callWith_KW0 (h₀ := X.base) I.ok.mod.kin kp hall ?_ hpl
  apply thn (hkw.run pos pins s σ H _ I h)
  rintro ws s2 ⟨zs, H2, I2, rz, ln, asked⟩
  refine ⟨I2.kIn, ?_⟩
  rw [hks]
  have ll : ws.length = ks.length := rz.length.symm.trans ln
  have rr := rel rz
  apply wpAny_call
  refine codeAny_mono (F.run X.A X.stack s2 H2 ⟨[], ks.zip ws⟩ (g ws) (gV zs) Q E0 hr I2.env0 (b s2 ws I2.kIn ll) rr asked) ?_
  intro res s' got
  match res, got with
  | .error e, got => exact (got : False).elim
  | .ok (.ret u), got => exact I2.after got
  | .ok .next, got => exact got.elim
  | .ok .brk, got => exact got.elim
  | .ok .cont, got => exact got.elim
end
/-! ### small things -/
theorem _root_.L2.Same.sqt {K : PySem.W.Frag} {H H' : Hp} {a : Addr} {xs : List V} (e : Same H H') (h : SqT K H a xs) : SqT K H' a xs := by
  rcases h with (h | ⟨o, h⟩) | h
  · exact .inl (.inl (e _ _ h))
  · exact .inl (.inr ⟨o, e _ _ h⟩)
  · exact .inr h
theorem _root_.L2.Same.new {H : Hp} {p : Addr} {o : HO} (h : H p = none) : Same H (upd H p o) := fun b u e => by rw [upd_ne (ne_of_none e h)]; exact e
theorem _root_.L2.Same.step {H0 H : Hp} {p : Addr} {o : HO} (s : Same H0 H) (h : H p = none) : Same H0 (upd H p o) := s.trans (Same.new h)
theorem _root_.L2.Same.wr {H0 H : Hp} {p : Addr} {o : HO} (s : Same H0 H) (h : H0 p = none) : Same H0 (upd H p o) := fun b u e => by rw [upd_ne (ne_of_none e h)]; exact s b u e
/-- all but the objects at p and q is as it was -/
def But (p q : Addr) (H H' : Hp) : Prop := ∀ b o, H b = some o → b ≠ p → b ≠ q → H' b = some o
theorem But.refl {p q : Addr} {H : Hp} : But p q H H := fun _ _ h _ _ => h
theorem But.trans {p q : Addr} {H H1 H2 : Hp} (a : But p q H H1) (b : But p q H1 H2) : But p q H H2 := fun c o h h1 h2 => b c o (a c o h h1 h2) h1 h2
theorem But.of {p q : Addr} {H H' : Hp} (a : Same H H') : But p q H H' := fun c o h _ _ => a c o h
theorem _root_.L2.Same.but {p q : Addr} {H0 H H' : Hp} (a : Same H0 H) (b : But p q H H') (hp : H0 p = none) (hq : H0 q = none) : Same H0 H' := fun c o h => b c o (a c o h) (ne_of_none h hp) (ne_of_none h hq)
theorem ints_get {ns : List Int} {i : Nat} {y : V} (h : (ns.map V.int)[i]? = some y) : ∃ z, ns[i]? = some z ∧ y = V.int z := by
  rw [List.getElem?_map] at h
  cases e : ns[i]? with
  | none => rw [e] at h; cases h
  | some z => rw [e] at h; exact ⟨z, rfl, (Option.some.inj h).symm⟩
theorem lt_of_get {α : Type} {l : List α} {i : Nat} {y : α} (h : l[i]? = some y) : i < l.length := (List.getElem?_eq_some_iff.mp h).1
theorem iteFF {A B : Prop} {b : Bool} (e : b = false) (h : B) : if b = true then A else B := by subst e; exact iteF h
theorem iteTT {A B : Prop} {b : Bool} (e : b = true) (h : A) : if b = true then A else B := by subst e; exact iteT h
end Cf
/-! The mathematics of the calendar, plain. -/
namespace Cf
def leapB (y : Int) : Bool := decide (y % 4 = 0) && (decide (y % 100 ≠ 0) || decide (y % 400 = 0))
def lyb (y : Int) : Int := (y - 1) / 4 - (y - 1) / 100 + (y - 1) / 400
def ysOf (y : Int) : Int := 365 * (y - 2000) + lyb y - lyb 2000
theorem leapB_iff (y : Int) : leapB y = true ↔ (y % 4 = 0 ∧ (y % 100 ≠ 0 ∨ y % 400 = 0)) := by
  unfold leapB
  simp only [Bool.and_eq_true, Bool.or_eq_true, decide_eq_true_eq]
def leapI (y : Int) : Int := if leapB y = true then 1 else 0
theorem ys_succ (y : Int) : ysOf (y + 1) = ysOf y + 365 + leapI y := by
  unfold ysOf lyb leapI
  have := leapB_iff y
  by_cases h : leapB y = true
  · rw [if_pos h]
    have h2 := this.mp h
    omega
  · rw [if_neg h]
    have h2 : ¬ (y % 4 = 0 ∧ (y % 100 ≠ 0 ∨ y % 400 = 0)) := fun z => h (this.mpr z)
    omega
theorem leapI_01 (y : Int) : leapI y = 0 ∨ leapI y = 1 := by
  unfold leapI
  by_cases h : leapB y = true
  · rw [if_pos h]; exact Or.inr rfl
  · rw [if_neg h]; exact Or.inl rfl
theorem ys_step (y : Int) : ysOf y + 365 ≤ ysOf (y + 1) ∧ ysOf (y + 1) ≤ ysOf y + 366 := by
  have := ys_succ y
  have := leapI_01 y
  omega
theorem ys_mono_nat (y : Int) : ∀ n : Nat, ysOf y + 365 * (n : Int) ≤ ysOf (y + n)
  | 0 => by simp
  | n + 1 => by
    have h1 := ys_mono_nat y n
    have h2 := (ys_step (y + n)).1
    have e : y + ((n + 1 : Nat) : Int) = y + (n : Int) + 1 := by omega
    rw [e]
    omega
theorem ys_lt {y z : Int} (h : y < z) : ysOf y < ysOf z := by
  have h1 := ys_mono_nat y (z - y).toNat
  have e : y + ((z - y).toNat : Int) = z := by omega
  rw [e] at h1
  omega
theorem ys_le {y z : Int} (h : y ≤ z) : ysOf y ≤ ysOf z := by
  by_cases e : y = z
  · rw [e]; exact Int.le_refl _
  · exact Int.le_of_lt (ys_lt (by omega))
theorem ys_le_iff {y z : Int} (h : ysOf y < ysOf (z + 1)) : y ≤ z := by
  by_cases q : y ≤ z
  · exact q
  · have := ys_le (y := z + 1) (z := y) (by omega)
    omega
/-- the law's own first day of a year -/
def lawNY (y : Int) : Int := 365 * (y - 2000) + (y - 2000 + 3) / 4 - (y - 2000 + 99) / 100 + (y - 2000 + 399) / 400
theorem lawNY_eq (y : Int) : lawNY y = ysOf y := by
  unfold lawNY ysOf lyb
  omega
/-- the first try of year_of is never too late -/
theorem first_try {d y : Int} (h1 : ysOf y ≤ d) (h2 : d < ysOf (y + 1)) : 2000 + 400 * (d / 146097) + (d % 146097) / 366 ≤ y := by
  refine ys_le_iff (z := y) ?_
  have : ysOf (2000 + 400 * (d / 146097) + (d % 146097) / 366) ≤ d := by
    unfold ysOf lyb
    omega
  omega
def ml (m : Int) : Int := match m with
  | 1 => 31 | 2 => 28 | 3 => 31 | 4 => 30 | 5 => 31 | 6 => 30 | 7 => 31 | 8 => 31 | 9 => 30 | 10 => 31 | 11 => 30 | 12 => 31 | _ => 0
def mlen (m : Int) (l : Bool) : Int := if m = 2 ∧ l = true then 29 else ml m
def MLs : List Int := [31, 28, 31, 30, 31, 30, 31, 31, 30, 31, 30, 31]
def mst (m : Int) (l : Bool) : Int := (MLs.take (m - 1).toNat).sum + (if l = true ∧ 2 < m then 1 else 0)
theorem m12 {m : Int} (h1 : 1 ≤ m) (h2 : m ≤ 12) : m = 1 ∨ m = 2 ∨ m = 3 ∨ m = 4 ∨ m = 5 ∨ m = 6 ∨ m = 7 ∨ m = 8 ∨ m = 9 ∨ m = 10 ∨ m = 11 ∨ m = 12 := by omega
theorem mst_succ {m : Int} (h1 : 1 ≤ m) (h2 : m ≤ 12) (l : Bool) : mst (m + 1) l = mst m l + mlen m l := by
  rcases m12 h1 h2 with rfl | rfl | rfl | rfl | rfl | rfl | rfl | rfl | rfl | rfl | rfl | rfl <;> cases l <;> decide
theorem mst_1 (l : Bool) : mst 1 l = 0 := by cases l <;> decide
theorem mst_13 (l : Bool) : mst 13 l = 365 + (if l = true then 1 else 0) := by cases l <;> decide
theorem mlen_bd {m : Int} (h1 : 1 ≤ m) (h2 : m ≤ 12) (l : Bool) : 28 ≤ mlen m l ∧ mlen m l ≤ 31 := by
  rcases m12 h1 h2 with rfl | rfl | rfl | rfl | rfl | rfl | rfl | rfl | rfl | rfl | rfl | rfl <;> cases l <;> decide
theorem mst_bd {m : Int} (h1 : 1 ≤ m) (h2 : m ≤ 13) (l : Bool) : 0 ≤ mst m l ∧ mst m l ≤ 366 := by
  have : m = 13 ∨ m ≤ 12 := by omega
  rcases this with rfl | h
  · cases l <;> decide
  · rcases m12 h1 h with rfl | rfl | rfl | rfl | rfl | rfl | rfl | rfl | rfl | rfl | rfl | rfl <;> cases l <;> decide
theorem mst_mono_nat (l : Bool) (m : Int) (h1 : 1 ≤ m) : ∀ n : Nat, m + n ≤ 13 → mst m l + 28 * (n : Int) ≤ mst (m + n) l
  | 0, _ => by simp
  | n + 1, h => by
    have h3 := mst_mono_nat l m h1 n (by omega)
    have h4 := mst_succ (m := m + n) (by omega) (by omega) l
    have h5 := mlen_bd (m := m + n) (by omega) (by omega) l
    have e : m + ((n + 1 : Nat) : Int) = m + (n : Int) + 1 := by omega
    rw [e, h4]
    omega
theorem mst_le {a b : Int} (h1 : 1 ≤ a) (h : a ≤ b) (h2 : b ≤ 13) (l : Bool) : mst a l ≤ mst b l := by
  have h3 := mst_mono_nat l a h1 (b - a).toNat (by omega)
  have e : a + ((b - a).toNat : Int) = b := by omega
  rw [e] at h3
  omega
/-- a date that exists -/
structure IsDate (y m d : Int) : Prop where
  m1 : 1 ≤ m
  m2 : m ≤ 12
  d1 : 1 ≤ d
  d2 : d ≤ mlen m (leapB y)
def dayOf (y m d : Int) : Int := ysOf y + mst m (leapB y) + d - 1
theorem IsDate.year {y m d : Int} (D : IsDate y m d) : ysOf y ≤ dayOf y m d ∧ dayOf y m d < ysOf (y + 1) := by
  have h1 := mst_bd D.m1 (by have := D.m2; omega) (leapB y)
  have h2 := mst_succ D.m1 D.m2 (leapB y)
  have h3 := mst_le (a := m + 1) (b := 13) (by have := D.m1; omega) (by have := D.m2; omega) (by omega) (leapB y)
  have h4 := mst_13 (leapB y)
  have h5 := ys_succ y
  have h6 : leapI y = (if leapB y = true then 1 else 0) := rfl
  have := D.d1
  have := D.d2
  unfold dayOf
  omega
theorem IsDate.month {y m d : Int} (D : IsDate y m d) : mst m (leapB y) ≤ dayOf y m d - ysOf y ∧ dayOf y m d - ysOf y < mst (m + 1) (leapB y) := by
  have h2 := mst_succ D.m1 D.m2 (leapB y)
  have := D.d1
  have := D.d2
  unfold dayOf
  omega
theorem dayOf_first (y m : Int) : dayOf y m 1 = ysOf y + mst m (leapB y) := by unfold dayOf; omega
theorem ys_as_day (y : Int) : ysOf y = dayOf y 1 1 := by rw [dayOf_first, mst_1]; omega
theorem ys_last (y : Int) : ysOf (y + 1) - 1 = dayOf y 12 31 := by
  have h5 := ys_succ y
  have h6 : leapI y = (if leapB y = true then 1 else 0) := rfl
  have h4 := mst_13 (leapB y)
  have h2 := mst_succ (m := 12) (by omega) (by omega) (leapB y)
  have h3 : mlen 12 (leapB y) = 31 := by cases leapB y <;> decide
  unfold dayOf
  have e : (12 : Int) + 1 = 13 := by omega
  rw [e] at h2
  omega
/-- the law's leap year -/
def isLong (y : Int) : Bool := decide (y % 400 = 0) || (decide (y % 4 = 0) && decide (y % 100 ≠ 0))
theorem isLong_eq (y : Int) : isLong y = leapB y := by
  have h1 := leapB_iff y
  have h2 : isLong y = true ↔ (y % 400 = 0 ∨ (y % 4 = 0 ∧ y % 100 ≠ 0)) := by
    unfold isLong
    simp only [Bool.and_eq_true, Bool.or_eq_true, decide_eq_true_eq]
  have h3 : isLong y = true ↔ leapB y = true := by rw [h1, h2]; omega
  cases a : isLong y <;> cases b : leapB y <;> simp_all
def lawSizes (l : Bool) : List Int := [31, if l = true then 29 else 28, 31, 30, 31, 30, 31, 31, 30, 31, 30, 31]
theorem lawSizes_get {m : Int} (h1 : 1 ≤ m) (h2 : m ≤ 12) (l : Bool) : (lawSizes l)[(m - 1).toNat]? = some (mlen m l) := by
  rcases m12 h1 h2 with rfl | rfl | rfl | rfl | rfl | rfl | rfl | rfl | rfl | rfl | rfl | rfl <;> cases l <;> decide
theorem MLs_get {m : Int} (h1 : 1 ≤ m) (h2 : m ≤ 12) : MLs[(m - 1).toNat]? = some (ml m) := by
  rcases m12 h1 h2 with rfl | rfl | rfl | rfl | rfl | rfl | rfl | rfl | rfl | rfl | rfl | rfl <;> decide
/-- the law's first day of a month -/
theorem lawMonth_eq {y m : Int} (h1 : 1 ≤ m) (h2 : m ≤ 12) :
    lawNY y + (([31, 28 + (lawNY (y + 1) - lawNY y - 365), 31, 30, 31, 30, 31, 31, 30, 31, 30, 31] : List Int).take (m - 1).toNat).sum = ysOf y + mst m (leapB y) := by
  rw [lawNY_eq, lawNY_eq]
  have e : ysOf (y + 1) - ysOf y - 365 = leapI y := by have := ys_succ y; omega
  rw [e]
  have h6 : leapI y = (if leapB y = true then 1 else 0) := rfl
  rw [h6]
  rcases m12 h1 h2 with rfl | rfl | rfl | rfl | rfl | rfl | rfl | rfl | rfl | rfl | rfl | rfl <;> cases leapB y <;> simp [mst, MLs] <;> omega
theorem prev_month {m : Int} (h1 : 2 ≤ m) (h2 : m ≤ 12) : (m + 10) % 12 + 1 = m - 1 := by omega
/-- bounds -/
theorem ys_bd {y B : Int} (h1 : -B ≤ y) (h2 : y ≤ B) (hB : 10000 ≤ B) : -(800 * B) ≤ ysOf y ∧ ysOf y ≤ 800 * B := by
  unfold ysOf lyb
  omega
end Cf
/-! Sets of days that repeat from some day on: the mathematics. -/
namespace Cf
abbrev Asc (l : List Int) : Prop := l.Pairwise (· < ·)
def seg (lo hi : Int) : List Int := (List.range (hi - lo).toNat).map fun (i : Nat) => lo + (i : Int)
def els (S : Int → Bool) (lo hi : Int) : List Int := (seg lo hi).filter S
theorem mem_seg {lo hi d : Int} : d ∈ seg lo hi ↔ lo ≤ d ∧ d < hi := by
  unfold seg
  rw [List.mem_map]
  constructor
  · rintro ⟨i, hi, rfl⟩
    rw [List.mem_range] at hi
    omega
  · intro h
    exact ⟨(d - lo).toNat, by rw [List.mem_range]; omega, by omega⟩
theorem asc_seg (lo hi : Int) : Asc (seg lo hi) := by
  unfold seg Asc
  rw [List.pairwise_map]
  exact List.Pairwise.imp (fun h => by omega) List.pairwise_lt_range
theorem mem_els {S : Int → Bool} {lo hi d : Int} : d ∈ els S lo hi ↔ (lo ≤ d ∧ d < hi) ∧ S d = true := by
  unfold els
  rw [List.mem_filter, mem_seg]
theorem asc_els (S : Int → Bool) (lo hi : Int) : Asc (els S lo hi) := List.Pairwise.filter _ (asc_seg lo hi)
theorem asc_ext : ∀ {a b : List Int}, Asc a → Asc b → (∀ d, d ∈ a ↔ d ∈ b) → a = b
  | [], [], _, _, _ => rfl
  | [], y :: b, _, _, h => absurd ((h y).mpr List.mem_cons_self) (by simp)
  | x :: a, [], _, _, h => absurd ((h x).mp List.mem_cons_self) (by simp)
  | x :: a, y :: b, ha, hb, h => by
    rw [Asc, List.pairwise_cons] at ha hb
    have e : x = y := by
      rcases List.mem_cons.mp ((h x).mp List.mem_cons_self) with e | m
      · exact e
      · rcases List.mem_cons.mp ((h y).mpr List.mem_cons_self) with e | m2
        · exact e.symm
        · have := hb.1 x m
          have := ha.1 y m2
          omega
    subst e
    congr 1
    refine asc_ext ha.2 hb.2 fun d => ?_
    constructor
    · intro m
      rcases List.mem_cons.mp ((h d).mp (List.mem_cons_of_mem _ m)) with e | m2
      · subst e; exact absurd (ha.1 d m) (Int.lt_irrefl d)
      · exact m2
    · intro m
      rcases List.mem_cons.mp ((h d).mpr (List.mem_cons_of_mem _ m)) with e | m2
      · subst e; exact absurd (hb.1 d m) (Int.lt_irrefl d)
      · exact m2
theorem asc_append {a b : List Int} (ha : Asc a) (hb : Asc b) (h : ∀ x ∈ a, ∀ y ∈ b, x < y) : Asc (a ++ b) := List.pairwise_append.mpr ⟨ha, hb, h⟩
theorem els_cut (S : Int → Bool) {lo m hi : Int} (h1 : lo ≤ m) (h2 : m ≤ hi) : els S lo hi = els S lo m ++ els S m hi := by
  refine asc_ext (asc_els _ _ _) (asc_append (asc_els _ _ _) (asc_els _ _ _) fun x hx y hy => ?_) fun d => ?_
  · rw [mem_els] at hx hy
    omega
  · rw [List.mem_append, mem_els, mem_els, mem_els]
    constructor
    · intro h
      by_cases c : d < m
      · exact .inl ⟨⟨h.1.1, c⟩, h.2⟩
      · exact .inr ⟨⟨by omega, h.1.2⟩, h.2⟩
    · rintro (h | h)
      · exact ⟨⟨h.1.1, by omega⟩, h.2⟩
      · exact ⟨⟨by omega, h.1.2⟩, h.2⟩
theorem els_congr {S T : Int → Bool} {lo hi : Int} (h : ∀ d, lo ≤ d → d < hi → S d = T d) : els S lo hi = els T lo hi := by
  refine asc_ext (asc_els _ _ _) (asc_els _ _ _) fun d => ?_
  rw [mem_els, mem_els]
  constructor
  · intro g; exact ⟨g.1, by rw [← h d g.1.1 g.1.2]; exact g.2⟩
  · intro g; exact ⟨g.1, by rw [h d g.1.1 g.1.2]; exact g.2⟩
theorem asc_map_add {l : List Int} (k : Int) (h : Asc l) : Asc (l.map (· + k)) := by
  unfold Asc
  rw [List.pairwise_map]
  exact h.imp fun h => by omega
theorem els_shift (S : Int → Bool) (lo hi k : Int) : els S (lo + k) (hi + k) = (els (fun d => S (d + k)) lo hi).map (· + k) := by
  refine asc_ext (asc_els _ _ _) (asc_map_add k (asc_els _ _ _)) fun d => ?_
  rw [mem_els, List.mem_map]
  constructor
  · intro g
    refine ⟨d - k, mem_els.mpr ⟨by omega, ?_⟩, by omega⟩
    show S (d - k + k) = true
    rw [Int.sub_add_cancel]
    exact g.2
  · rintro ⟨e, he, rfl⟩
    rw [mem_els] at he
    exact ⟨by omega, he.2⟩
theorem seg_length (lo hi : Int) : (seg lo hi).length = (hi - lo).toNat := by simp [seg]
theorem els_length_le (S : Int → Bool) (lo hi : Int) : (els S lo hi).length ≤ (hi - lo).toNat := by
  have h := List.length_filter_le S (seg lo hi)
  rw [seg_length] at h
  exact h
theorem els_nil (S : Int → Bool) {lo hi : Int} (h : hi ≤ lo) : els S lo hi = [] := by
  have := els_length_le S lo hi
  exact List.eq_nil_of_length_eq_zero (by omega)
/-! ### ascending lists by places -/
theorem asc_lt {l : List Int} (h : Asc l) {i j : Nat} (hij : i < j) (hj : j < l.length) : l.getD i 0 < l.getD j 0 := by
  have hi : i < l.length := by omega
  rw [List.getD_eq_getElem?_getD, List.getD_eq_getElem?_getD, List.getElem?_eq_getElem hi, List.getElem?_eq_getElem hj]
  exact (List.pairwise_iff_getElem.mp h) i j hi hj hij
theorem asc_le {l : List Int} (h : Asc l) {i j : Nat} (hij : i ≤ j) (hj : j < l.length) : l.getD i 0 ≤ l.getD j 0 := by
  rcases Nat.lt_or_ge i j with c | c
  · exact Int.le_of_lt (asc_lt h c hj)
  · have : i = j := by omega
    subst this
    exact Int.le_refl _
theorem getD_mem {l : List Int} {i : Nat} (h : i < l.length) : l.getD i 0 ∈ l := by
  rw [List.getD_eq_getElem?_getD, List.getElem?_eq_getElem h]
  exact List.getElem_mem h
theorem mem_getD {l : List Int} {d : Int} (h : d ∈ l) : ∃ i, i < l.length ∧ l.getD i 0 = d := by
  obtain ⟨i, hi, e⟩ := List.getElem_of_mem h
  exact ⟨i, hi, by rw [List.getD_eq_getElem?_getD, List.getElem?_eq_getElem hi]; exact e⟩
theorem getD_drop (l : List Int) (m i : Nat) : (l.drop m).getD i 0 = l.getD (m + i) 0 := by
  rw [List.getD_eq_getElem?_getD, List.getD_eq_getElem?_getD, List.getElem?_drop]
theorem getD_take {l : List Int} {m i : Nat} (h : i < m) : (l.take m).getD i 0 = l.getD i 0 := by
  rw [List.getD_eq_getElem?_getD, List.getD_eq_getElem?_getD, List.getElem?_take, if_pos h]
theorem getD_map {l : List Int} {i : Nat} (f : Int → Int) (h : i < l.length) : (l.map f).getD i 0 = f (l.getD i 0) := by
  rw [List.getD_eq_getElem?_getD, List.getD_eq_getElem?_getD, List.getElem?_map, List.getElem?_eq_getElem h]
  rfl
/-! ### frames -/
structure Fr (S : Int → Bool) (s p : Int) : Prop where
  s0 : 0 ≤ s
  p1 : 1 ≤ p
  per : ∀ d, s ≤ d → S (d + p) = S d
theorem Fr.mul {S : Int → Bool} {s p : Int} (F : Fr S s p) : ∀ (k : Nat) (d : Int), s ≤ d → S (d + k * p) = S d
  | 0, d, h => by rw [show d + ((0 : Nat) : Int) * p = d by simp]
  | k + 1, d, h => by
    have e : d + ((k + 1 : Nat) : Int) * p = (d + k * p) + p := by
      rw [show ((k + 1 : Nat) : Int) = (k : Int) + 1 by omega, Int.add_mul]
      omega
    have : 0 ≤ (k : Int) * p := Int.mul_nonneg (by omega) (by have := F.p1; omega)
    rw [e, F.per _ (by omega)]
    exact F.mul k d h
/-- the day of the first period that a day repeats -/
theorem Fr.mod {S : Int → Bool} {s p : Int} (F : Fr S s p) {d : Int} (h : s ≤ d) : S (s + (d - s) % p) = S d := by
  have p1 := F.p1
  have h1 := Int.emod_nonneg (d - s) (show p ≠ 0 by omega)
  have h3 : 0 ≤ (d - s) / p := Int.ediv_nonneg (by omega) (by omega)
  have h2 := Int.mul_ediv_add_emod (d - s) p
  have e : d = (s + (d - s) % p) + (((d - s) / p).toNat : Int) * p := by
    rw [show (((d - s) / p).toNat : Int) = (d - s) / p by omega, Int.mul_comm ((d - s) / p) p]
    omega
  conv => rhs; rw [e]
  exact (F.mul _ _ (by omega)).symm
theorem Fr.later {S : Int → Bool} {s s' p : Int} (F : Fr S s p) (h : s ≤ s') : Fr S s' p := ⟨by have := F.s0; omega, F.p1, fun d hd => F.per d (by omega)⟩
theorem Fr.times {S : Int → Bool} {s p : Int} (F : Fr S s p) {k : Nat} (h : 1 ≤ k) : Fr S s (k * p) := by
  refine ⟨F.s0, ?_, fun d hd => F.mul k d hd⟩
  have := F.p1
  have h2 : (1 : Int) * 1 ≤ (k : Int) * p := Int.mul_le_mul (by omega) this (by omega) (by omega)
  omega
/-- a period from anywhere on is one from s on -/
theorem Fr.also {S : Int → Bool} {s p s' p' : Int} (F : Fr S s p) (G : Fr S s' p') : Fr S s p' := by
  refine ⟨F.s0, G.p1, fun d hd => ?_⟩
  have hp := F.p1
  have hs := G.s0
  have big : s' ≤ d + (s'.toNat : Int) * p := by
    have : (s'.toNat : Int) * 1 ≤ (s'.toNat : Int) * p := Int.mul_le_mul_of_nonneg_left hp (by omega)
    have := F.s0
    omega
  have e1 := F.mul s'.toNat (d + p') (by have := G.p1; omega)
  have e2 := F.mul s'.toNat d hd
  have e3 := G.per _ big
  rw [← e1, ← e2, ← e3]
  congr 1
  omega
theorem Fr.gcd {S : Int → Bool} {s : Int} : ∀ (n : Nat) {p q : Int}, (p + q).toNat ≤ n → Fr S s p → Fr S s q → Fr S s (Int.gcd p q)
  | 0, p, q, h, F, G => by have := F.p1; have := G.p1; omega
  | n + 1, p, q, h, F, G => by
    have hp := F.p1
    have hq := G.p1
    rcases Int.lt_trichotomy p q with c | c | c
    · have K : Fr S s (q - p) := ⟨F.s0, by omega, fun d hd => by
        have e := F.per (d + (q - p)) (by omega)
        rw [← e, show d + (q - p) + p = d + q by omega]
        exact G.per d hd⟩
      have := Fr.gcd n (p := p) (q := q - p) (by omega) F K
      rw [Int.gcd_sub_self_right] at this
      exact this
    · subst c
      rw [Int.gcd_self]
      have : ((p.natAbs : Nat) : Int) = p := by omega
      rw [this]; exact F
    · have K : Fr S s (p - q) := ⟨F.s0, by omega, fun d hd => by
        have e := G.per (d + (p - q)) (by omega)
        rw [← e, show d + (p - q) + q = d + p by omega]
        exact F.per d hd⟩
      have := Fr.gcd n (p := p - q) (q := q) (by omega) K G
      rw [Int.gcd_sub_self_left] at this
      exact this
structure Can (S : Int → Bool) (s p : Int) : Prop where
  fr : Fr S s p
  lp : ∀ s' p', Fr S s' p' → p ≤ p'
  ls : ∀ s', Fr S s' p → s ≤ s'
theorem Can.eq {S : Int → Bool} {s p s' p' : Int} (A : Can S s p) (B : Can S s' p') : s = s' ∧ p = p' := by
  have e : p = p' := Int.le_antisymm (A.lp _ _ B.fr) (B.lp _ _ A.fr)
  subst e
  exact ⟨Int.le_antisymm (A.ls _ B.fr) (B.ls _ A.fr), rfl⟩
/-- two sets with one form are one set -/
theorem Fr.same {S T : Int → Bool} {s p : Int} (F : Fr S s p) (G : Fr T s p) (h1 : els S 0 s = els T 0 s) (h2 : els S s (s + p) = els T s (s + p)) {d : Int} (h : 0 ≤ d) : S d = T d := by
  have key : ∀ {lo hi d : Int}, els S lo hi = els T lo hi → lo ≤ d → d < hi → S d = T d := fun {lo hi d} e a b => by
    have m := @mem_els S lo hi d
    rw [e, mem_els] at m
    cases hs : S d <;> cases ht : T d <;> simp_all
  by_cases c : d < s
  · exact key h1 h c
  · have c' : s ≤ d := by omega
    rw [← F.mod c', ← G.mod c']
    have p1 := F.p1
    exact key h2 (by have := Int.emod_nonneg (d - s) (show p ≠ 0 by omega); omega) (by have := Int.emod_lt_of_pos (d - s) (show 0 < p by omega); omega)
end Cf
namespace Cf
/-! ### primes -/
structure Pr (q : Nat) : Prop where
  two : 2 ≤ q
  only : ∀ d, d ∣ q → d = 1 ∨ d = q
theorem Pr.or {q a b : Nat} (h : Pr q) (d : q ∣ a * b) : q ∣ a ∨ q ∣ b := by
  rcases h.only _ (Nat.gcd_dvd_left q a) with e | e
  · exact .inr (Nat.Coprime.dvd_of_dvd_mul_left e d)
  · exact .inl (by rw [← e]; exact Nat.gcd_dvd_right q a)
theorem pr_ex : ∀ (n m : Nat), m ≤ n → 2 ≤ m → ∃ q, Pr q ∧ q ∣ m
  | 0, m, h, h2 => by omega
  | n + 1, m, h, h2 => by
    by_cases c : ∃ d, d ∣ m ∧ d ≠ 1 ∧ d ≠ m
    · obtain ⟨d, hd, h1, hm⟩ := c
      have := Nat.le_of_dvd (by omega) hd
      have h0 : d ≠ 0 := by rintro rfl; have := Nat.zero_dvd.mp hd; omega
      obtain ⟨q, hq, hqd⟩ := pr_ex n d (by omega) (by omega)
      exact ⟨q, hq, Nat.dvd_trans hqd hd⟩
    · refine ⟨m, ⟨h2, fun d hd => ?_⟩, Nat.dvd_refl m⟩
      by_cases e1 : d = 1
      · exact .inl e1
      · by_cases e2 : d = m
        · exact .inr e2
        · exact absurd ⟨d, hd, e1, e2⟩ c
/-- what primes_of has found: n is rest times what is done -/
structure Pst (n : Nat) (ps : List Nat) (rest f : Nat) : Prop where
  f2 : 2 ≤ f
  r1 : 1 ≤ rest
  done : ∃ m, n = rest * m ∧ ∀ q, Pr q → q ∣ m → q ∈ ps
  low : ∀ q, Pr q → q < f → ¬ q ∣ rest
  mem : ∀ q ∈ ps, 2 ≤ q
/-- divided by the factor, if it is among those found -/
theorem Pst.div {n rest f : Nat} {ps : List Nat} (h : Pst n ps rest f) (hf : f ∈ ps) (hd : rest % f = 0) : Pst n ps (rest / f) f := by
  have f2 := h.f2
  have e : rest = f * (rest / f) := by
    have := Nat.div_add_mod rest f
    omega
  have r1 := h.r1
  have r0 : 1 ≤ rest / f := by
    rcases Nat.eq_zero_or_pos (rest / f) with z | z
    · rw [z] at e; omega
    · exact z
  have dv : rest / f ∣ rest := ⟨f, by rw [Nat.mul_comm]; exact e⟩
  refine ⟨f2, r0, ?_, fun q hq hl d => h.low q hq hl (Nat.dvd_trans d dv), h.mem⟩
  obtain ⟨m, e2, hm⟩ := h.done
  refine ⟨f * m, ?_, fun q hq d => ?_⟩
  · rw [← Nat.mul_assoc, Nat.mul_comm (rest / f) f, ← e]; exact e2
  · rcases hq.or d with d1 | d1
    · rcases Nat.lt_or_ge q f with c | c
      · exact absurd (Nat.dvd_trans d1 ⟨rest / f, e⟩) (h.low q hq c)
      · have := Nat.le_of_dvd (by omega) d1
        have : q = f := by omega
        rw [this]; exact hf
    · exact hm q hq d1
theorem Pst.found {n rest f : Nat} {ps : List Nat} (h : Pst n ps rest f) : Pst n (ps ++ [f]) rest f := by
  obtain ⟨m, e, hm⟩ := h.done
  refine ⟨h.f2, h.r1, ⟨m, e, fun q hq d => List.mem_append_left _ (hm q hq d)⟩, h.low, fun q hq => ?_⟩
  rcases List.mem_append.mp hq with g | g
  · exact h.mem q g
  · rw [List.mem_singleton] at g
    rw [g]; exact h.f2
theorem Pst.next {n rest f : Nat} {ps : List Nat} (h : Pst n ps rest f) (hd : rest % f ≠ 0) : Pst n ps rest (f + 1) := by
  refine ⟨by have := h.f2; omega, h.r1, h.done, fun q hq hl d => ?_, h.mem⟩
  rcases Nat.lt_or_ge q f with c | c
  · exact h.low q hq c d
  · have : q = f := by omega
    subst this
    exact hd (Nat.mod_eq_zero_of_dvd d)
/-- the end: the rest is 1 or the last prime -/
theorem Pst.fin {n rest f : Nat} {ps : List Nat} (h : Pst n ps rest f) (hl : rest < f * f) (q : Nat) (hq : Pr q) (d : q ∣ n) : q ∈ (if 1 < rest then ps ++ [rest] else ps) := by
  obtain ⟨m, e, hm⟩ := h.done
  rw [e] at d
  rcases hq.or d with d1 | d1
  · have q2 := hq.two
    have hle := Nat.le_of_dvd h.r1 d1
    rw [if_pos (by omega)]
    refine List.mem_append_right _ ?_
    rw [List.mem_singleton]
    obtain ⟨t, et⟩ := d1
    rcases Nat.lt_or_ge 1 t with c | c
    · exfalso
      obtain ⟨q', hq', d'⟩ := pr_ex t t (Nat.le_refl _) (by omega)
      have a1 : f ≤ q := by
        rcases Nat.lt_or_ge q f with c1 | c1
        · exact absurd ⟨t, et⟩ (h.low q hq c1)
        · exact c1
      have a2 : f ≤ q' := by
        rcases Nat.lt_or_ge q' f with c1 | c1
        · exact absurd (Nat.dvd_trans d' ⟨q, by rw [et, Nat.mul_comm]⟩) (h.low q' hq' c1)
        · exact c1
      have a3 := Nat.le_of_dvd (by omega) d'
      have a4 : f * f ≤ q * t := Nat.mul_le_mul a1 (Nat.le_trans a2 a3)
      omega
    · have : t = 1 := by
        have : t ≠ 0 := by rintro rfl; have := h.r1; simp at et; omega
        omega
      rw [this, Nat.mul_one] at et
      exact et.symm
  · have := hm q hq d1
    split
    · exact List.mem_append_left _ this
    · exact this
theorem Pst.start {n : Nat} (h : 1 ≤ n) : Pst n [] n 2 := ⟨Nat.le_refl _, h, ⟨1, by omega, fun q hq d => by have := Nat.le_of_dvd (by omega) d; have := hq.two; omega⟩, fun q hq hl => by have := hq.two; omega, fun q hq => by cases hq⟩
/-! ### a part of a period -/
section
variable {S : Int → Bool} {s p t : Int} {q : Nat}
theorem els_times (F : Fr S s t) (lo : Int) (hlo : s ≤ lo) : ∀ q : Nat, (els S lo (lo + q * t)).length = q * (els S lo (lo + t)).length
  | 0 => by rw [els_nil S (by simp)]; simp
  | q + 1 => by
    have p1 := F.p1
    have z : 0 ≤ (q : Int) * t := Int.mul_nonneg (by omega) (by omega)
    have e : lo + ((q + 1 : Nat) : Int) * t = (lo + t) + q * t := by
      rw [show ((q + 1 : Nat) : Int) = (q : Int) + 1 by omega, Int.add_mul]; omega
    have e2 : lo + (q : Int) * t + t = (lo + t) + q * t := by omega
    rw [e, els_cut S (show lo ≤ lo + t by omega) (by omega), List.length_append, ← e2, els_shift, List.length_map,
      els_congr (T := S) (fun d h1 h2 => F.per d (by omega)), els_times F lo hlo q, Nat.succ_mul]
    omega
/-- the days of a cycle repeat already after this part of the period -/
def Rep (c : List Int) (p : Int) (q : Nat) : Prop := c.length % q = 0 ∧ p % (q : Int) = 0 ∧ c.drop (c.length / q) = (c.take (c.length - c.length / q)).map (· + p / (q : Int))
theorem rep_of (q1 : 1 ≤ q) (e : p = q * t) (F : Fr S s t) : Rep (els S s (s + p)) p q := by
  have p1 := F.p1
  have hl := els_times F s (Int.le_refl _) q
  rw [← e] at hl
  have hq : (q : Int) ≠ 0 := by omega
  have ed : p / (q : Int) = t := by rw [e]; exact Int.mul_ediv_cancel_left _ hq
  have dm : (els S s (s + p)).length / q = (els S s (s + t)).length := by rw [hl]; exact Nat.mul_div_cancel_left _ q1
  have tp : t ≤ p := by
    have : (1 : Int) * t ≤ q * t := Int.mul_le_mul_of_nonneg_right (by omega) (by omega)
    omega
  refine ⟨by rw [hl]; exact Nat.mul_mod_right _ _, by rw [e]; exact Int.mul_emod_right _ _, ?_⟩
  rw [dm, ed]
  have c1 := els_cut S (show s ≤ s + t by omega) (show s + t ≤ s + p by omega)
  have c2 := els_cut S (show s ≤ s + (p - t) by omega) (show s + (p - t) ≤ s + p by omega)
  have sh : els S (s + t) (s + p) = (els S s (s + (p - t))).map (· + t) := by
    rw [show s + p = s + (p - t) + t by omega, els_shift, els_congr (T := S) (fun d h1 h2 => F.per d (by omega))]
  have l2 : (els S s (s + p)).length - (els S s (s + t)).length = (els S s (s + (p - t))).length := by
    have := congrArg List.length c1
    rw [List.length_append, sh, List.length_map] at this
    omega
  rw [l2]
  conv => lhs; rw [c1]
  conv => rhs; rw [c2]
  rw [List.drop_left, List.take_left, sh]
theorem rep_to (q1 : 1 ≤ q) (F : Fr S s p) (R : Rep (els S s (s + p)) p q) : ∃ t, p = q * t ∧ Fr S s t ∧ p / (q : Int) = t := by
  obtain ⟨r1, r2, r3⟩ := R
  have p1 := F.p1
  have A := asc_els S s (s + p)
  have M := @mem_els S s (s + p)
  generalize hc : els S s (s + p) = c at r1 r3 A M
  generalize ht : p / (q : Int) = t at r3
  have e : p = q * t := by
    have := Int.mul_ediv_add_emod p q
    rw [ht] at this
    omega
  have t1 : 1 ≤ t := by
    rcases Int.lt_or_le t 1 with z | z
    · have : (q : Int) * t ≤ q * 0 := Int.mul_le_mul_of_nonneg_left (by omega) (by omega)
      omega
    · exact z
  generalize hm : c.length / q = m at r3
  have el : c.length = q * m := by
    have := Nat.div_add_mod c.length q
    rw [hm] at this
    omega
  have qm : m ≤ q * m := by
    have := Nat.mul_le_mul_right m q1
    omega
  -- one step on
  have st : ∀ i, i + m < c.length → c.getD (i + m) 0 = c.getD i 0 + t := fun i hi => by
    have := congrArg (fun l => l.getD i 0) r3
    rw [getD_drop, getD_map _ (by rw [List.length_take]; omega), getD_take (by omega)] at this
    rw [Nat.add_comm] at this
    exact this
  have stj : ∀ (j i : Nat), i + j * m < c.length → c.getD (i + j * m) 0 = c.getD i 0 + j * t := by
    intro j
    induction j with
    | zero => intro i _; simp
    | succ j ih =>
      intro i hi
      have a : i + (j + 1) * m = (i + j * m) + m := by rw [Nat.succ_mul]; omega
      rw [a] at hi ⊢
      rw [st _ hi, ih i (by omega), show ((j + 1 : Nat) : Int) = (j : Int) + 1 by omega, Int.add_mul]
      omega
  have qs : ((q - 1 : Nat) : Int) * t = p - t := by
    rw [show ((q - 1 : Nat) : Int) = (q : Int) - 1 by omega, Int.sub_mul, e]; omega
  have qn : (q - 1) * m = c.length - m := by rw [el, Nat.sub_mul]; omega
  -- the first part
  have fst : ∀ i, i < m → c.getD i 0 < s + t := fun i hi => by
    have b : i + (q - 1) * m < c.length := by rw [qn]; omega
    have := stj (q - 1) i b
    have in_ := (M.mp (getD_mem b)).1.2
    rw [this, qs] at in_
    omega
  have key : ∀ d, s ≤ d → d < s + p - t → S (d + t) = S d := fun d h1 h2 => by
    have a : S d = true → S (d + t) = true := fun h => by
      obtain ⟨k, hk, ek⟩ := mem_getD (M.mpr ⟨⟨h1, by omega⟩, h⟩)
      by_cases c1 : k + m < c.length
      · have := M.mp (getD_mem c1)
        rw [st k c1, ek] at this
        exact this.2
      · exfalso
        have b : (k - (q - 1) * m) + (q - 1) * m < c.length := by rw [qn]; omega
        have g := stj (q - 1) (k - (q - 1) * m) b
        rw [show k - (q - 1) * m + (q - 1) * m = k by rw [qn]; omega, ek, qs] at g
        have g2 := (M.mp (getD_mem (show k - (q - 1) * m < c.length by omega))).1.1
        omega
    have b : S (d + t) = true → S d = true := fun h => by
      obtain ⟨k, hk, ek⟩ := mem_getD (M.mpr ⟨⟨by omega, by omega⟩, h⟩)
      by_cases c1 : k < m
      · have := fst k c1
        omega
      · have g := st (k - m) (by omega)
        rw [show k - m + m = k by omega, ek] at g
        have g2 := M.mp (getD_mem (show k - m < c.length by omega))
        rw [show c.getD (k - m) 0 = d by omega] at g2
        exact g2.2
    cases x : S d <;> cases y : S (d + t) <;> simp_all
  refine ⟨t, e, ⟨F.s0, t1, ?_⟩, rfl⟩
  -- within the first period
  have one : ∀ d, s ≤ d → d < s + p → S (d + t) = S d := fun d h1 h2 => by
    by_cases c1 : d < s + p - t
    · exact key d h1 c1
    · have it : ∀ (j : Nat) (e : Int), s ≤ e → e + j * t < s + p → S (e + j * t) = S e := by
        intro j
        induction j with
        | zero => intro e _ _; simp
        | succ j ih =>
          intro e h3 h4
          have a : ((j + 1 : Nat) : Int) * t = j * t + t := by rw [show ((j + 1 : Nat) : Int) = (j : Int) + 1 by omega, Int.add_mul]; omega
          have z : 0 ≤ (j : Int) * t := Int.mul_nonneg (by omega) (by omega)
          rw [a] at h4 ⊢
          rw [show e + ((j : Int) * t + t) = (e + j * t) + t by omega, key _ (by omega) (by omega)]
          exact ih e h3 (by omega)
      have g := it (q - 1) (d - (p - t)) (by omega) (by rw [qs]; omega)
      rw [qs, show d - (p - t) + (p - t) = d by omega] at g
      rw [g, show d + t = (d - (p - t)) + p by omega]
      exact F.per _ (by omega)
  intro d hd
  have m1 := Int.emod_nonneg (d - s) (show p ≠ 0 by omega)
  have m2 := Int.emod_lt_of_pos (d - s) (show 0 < p by omega)
  have h3 : 0 ≤ (d - s) / p := Int.ediv_nonneg (by omega) (by omega)
  have h2 := Int.mul_ediv_add_emod (d - s) p
  have ee : d = (s + (d - s) % p) + (((d - s) / p).toNat : Int) * p := by
    rw [show (((d - s) / p).toNat : Int) = (d - s) / p by omega, Int.mul_comm ((d - s) / p) p]
    omega
  have g1 := F.mul ((d - s) / p).toNat (s + (d - s) % p) (by omega)
  have g2 := F.mul ((d - s) / p).toNat (s + (d - s) % p + t) (by omega)
  rw [← ee] at g1
  rw [show s + (d - s) % p + t + (((d - s) / p).toNat : Int) * p = d + t by omega] at g2
  rw [g1, g2]
  exact one _ (by omega) (by omega)
/-- no prime part of the period is one: it is the least -/
theorem Fr.least (F : Fr S s p) (h : ∀ q, Pr q → ∀ t, p = q * t → ¬ Fr S s t) (s' p' : Int) (G : Fr S s' p') : p ≤ p' := by
  have p1 := F.p1
  have G2 := F.also G
  have g1 := G.p1
  have K := Fr.gcd _ (Nat.le_refl _) F G2
  have d1 : Int.gcd p p' ∣ p.natAbs := Nat.gcd_dvd_left _ _
  have d2 : Int.gcd p p' ∣ p'.natAbs := Nat.gcd_dvd_right _ _
  obtain ⟨k, ek⟩ := d1
  have le2 := Nat.le_of_dvd (by omega) d2
  rcases Nat.lt_or_ge 1 k with c | c
  · exfalso
    obtain ⟨q, hq, j, ej⟩ := pr_ex k k (Nat.le_refl _) (by omega)
    have j1 : 1 ≤ j := by
      rcases Nat.eq_zero_or_pos j with z | z
      · subst z; simp at ej; omega
      · exact z
    refine h q hq ((j : Int) * (Int.gcd p p' : Int)) ?_ (K.times j1)
    have : p = ((q * (j * Int.gcd p p') : Nat) : Int) := by
      rw [← Nat.mul_assoc, ← ej, Nat.mul_comm, ← ek]; omega
    exact this.trans (by simp [Int.natCast_mul])
  · have : Int.gcd p p' * k ≤ Int.gcd p p' * 1 := Nat.mul_le_mul_left _ c
    omega
end
end Cf
namespace Cf
/-! ### the cycle continued both ways -/
/-- the day with this number, counted from the first day of the cycle -/
def cdy (p : Int) (c : List Int) (i : Int) : Int := c.getD (i % (c.length : Int)).toNat 0 + i / (c.length : Int) * p
section
variable {S : Int → Bool} {s p : Int}
/-- the set as it would be, had it always repeated -/
def ext (S : Int → Bool) (s p d : Int) : Bool := S (s + (d - s) % p)
theorem ext_ge (F : Fr S s p) {d : Int} (h : s ≤ d) : ext S s p d = S d := F.mod h
theorem ext_per (d : Int) : ext S s p (d + p) = ext S s p d := by
  unfold ext
  rw [show d + p - s = (d - s) + p by omega, Int.add_emod_right]
theorem ext_mul (d : Int) : ∀ k : Nat, ext S s p (d + k * p) = ext S s p d
  | 0 => by simp
  | k + 1 => by
    rw [show d + ((k + 1 : Nat) : Int) * p = (d + k * p) + p by rw [show ((k + 1 : Nat) : Int) = (k : Int) + 1 by omega, Int.add_mul]; omega, ext_per]
    exact ext_mul d k
variable (F : Fr S s p) (hc : els S s (s + p) ≠ [])
include F hc
theorem cyc_pos : 0 < (els S s (s + p)).length := List.length_pos_iff.mpr hc
theorem cdy_mem (i : Int) : ∃ e, s ≤ e ∧ e < s + p ∧ S e = true ∧ cdy p (els S s (s + p)) i = e + i / ((els S s (s + p)).length : Int) * p := by
  have n0 := cyc_pos F hc
  have a := Int.emod_nonneg i (show ((els S s (s + p)).length : Int) ≠ 0 by omega)
  have b := Int.emod_lt_of_pos i (show 0 < ((els S s (s + p)).length : Int) by omega)
  have g := mem_els.mp (getD_mem (show (i % ((els S s (s + p)).length : Int)).toNat < (els S s (s + p)).length by omega))
  exact ⟨_, g.1.1, g.1.2, g.2, rfl⟩
theorem cdy_ext (i : Int) : ext S s p (cdy p (els S s (s + p)) i) = true := by
  obtain ⟨e, h1, h2, h3, h4⟩ := cdy_mem F hc i
  have p1 := F.p1
  rw [h4]
  unfold ext
  rw [show e + i / ((els S s (s + p)).length : Int) * p - s = (e - s) + i / ((els S s (s + p)).length : Int) * p by omega, Int.add_mul_emod_self_right, Int.emod_eq_of_lt (by omega) (by omega)]
  rw [show s + (e - s) = e by omega]
  exact h3
theorem cdy_step (i : Int) : cdy p (els S s (s + p)) (i + (els S s (s + p)).length) = cdy p (els S s (s + p)) i + p := by
  have n0 := cyc_pos F hc
  unfold cdy
  rw [Int.add_emod_right, Int.add_ediv_of_dvd_right (Int.dvd_refl _), Int.ediv_self (by omega), Int.add_mul]
  omega
theorem cdy_lt1 (i : Int) : cdy p (els S s (s + p)) i < cdy p (els S s (s + p)) (i + 1) := by
  have n0 := cyc_pos F hc
  have p1 := F.p1
  have A := asc_els S s (s + p)
  have M : ∀ k, k < (els S s (s + p)).length → s ≤ (els S s (s + p)).getD k 0 ∧ (els S s (s + p)).getD k 0 < s + p := fun k hk => (mem_els.mp (getD_mem hk)).1
  unfold cdy
  generalize els S s (s + p) = c at n0 A M
  have hn : (c.length : Int) ≠ 0 := by omega
  have a := Int.emod_nonneg i hn
  have b := Int.emod_lt_of_pos i (show 0 < (c.length : Int) by omega)
  have e := Int.mul_ediv_add_emod i c.length
  by_cases w : i % (c.length : Int) + 1 < c.length
  · have r : (i + 1) % (c.length : Int) = i % (c.length : Int) + 1 ∧ (i + 1) / (c.length : Int) = i / (c.length : Int) := by
      have e2 : i + 1 = (i % (c.length : Int) + 1) + i / (c.length : Int) * (c.length : Int) := by
        rw [Int.mul_comm (i / _)]; omega
      constructor
      · rw [e2, Int.add_mul_emod_self_right, Int.emod_eq_of_lt (by omega) w]
      · rw [e2, Int.add_mul_ediv_right _ _ hn, Int.ediv_eq_zero_of_lt (by omega) w]
        omega
    rw [r.1, r.2]
    have := asc_lt A (i := (i % (c.length : Int)).toNat) (j := (i % (c.length : Int) + 1).toNat) (by omega) (by omega)
    omega
  · have r : (i + 1) % (c.length : Int) = 0 ∧ (i + 1) / (c.length : Int) = i / (c.length : Int) + 1 := by
      have e2 : i + 1 = 0 + (i / (c.length : Int) + 1) * (c.length : Int) := by
        rw [Int.add_mul, Int.mul_comm (i / _)]; omega
      constructor
      · rw [e2, Int.add_mul_emod_self_right]; simp
      · rw [e2, Int.add_mul_ediv_right _ _ hn]; simp
    rw [r.1, r.2, Int.add_mul]
    have h1 := M (i % (c.length : Int)).toNat (by omega)
    have h2 := M (0 : Int).toNat (by omega)
    omega
theorem cdy_ltn (i : Int) : ∀ k : Nat, cdy p (els S s (s + p)) i < cdy p (els S s (s + p)) (i + (k + 1 : Nat))
  | 0 => cdy_lt1 F hc i
  | k + 1 => by
    have h1 := cdy_ltn i k
    have h2 := cdy_lt1 F hc (i + (k + 1 : Nat))
    rw [show i + ((k + 1 + 1 : Nat) : Int) = i + (k + 1 : Nat) + 1 by omega]
    omega
theorem cdy_lt {i j : Int} (h : i < j) : cdy p (els S s (s + p)) i < cdy p (els S s (s + p)) j := by
  have := cdy_ltn F hc i (j - i - 1).toNat
  rw [show i + (((j - i - 1).toNat + 1 : Nat) : Int) = j by omega] at this
  exact this
theorem cdy_le {i j : Int} (h : i ≤ j) : cdy p (els S s (s + p)) i ≤ cdy p (els S s (s + p)) j := by
  by_cases e : i = j
  · rw [e]; exact Int.le_refl _
  · exact Int.le_of_lt (cdy_lt F hc (by omega))
theorem cdy_of_lt {i j : Int} (h : cdy p (els S s (s + p)) i < cdy p (els S s (s + p)) j) : i < j := by
  rcases Int.lt_or_le i j with c | c
  · exact c
  · have := cdy_le F hc c; omega
theorem cdy_inj {i j : Int} (h : cdy p (els S s (s + p)) i = cdy p (els S s (s + p)) j) : i = j := by
  rcases Int.lt_trichotomy i j with c | c | c
  · have := cdy_lt F hc c; omega
  · exact c
  · have := cdy_lt F hc c; omega
theorem cdy_all {d : Int} (h : ext S s p d = true) : ∃ i, cdy p (els S s (s + p)) i = d := by
  have n0 := cyc_pos F hc
  have p1 := F.p1
  have a := Int.emod_nonneg (d - s) (show p ≠ 0 by omega)
  have b := Int.emod_lt_of_pos (d - s) (show 0 < p by omega)
  have e := Int.mul_ediv_add_emod (d - s) p
  obtain ⟨j, hj, ej⟩ := mem_getD (mem_els.mpr ⟨⟨by omega, by omega⟩, h⟩ : s + (d - s) % p ∈ els S s (s + p))
  refine ⟨(j : Int) + (d - s) / p * ((els S s (s + p)).length : Int), ?_⟩
  have hn : ((els S s (s + p)).length : Int) ≠ 0 := by omega
  unfold cdy
  rw [Int.add_mul_emod_self_right, Int.emod_eq_of_lt (by omega) (by omega), Int.add_mul_ediv_right _ _ hn, Int.ediv_eq_zero_of_lt (by omega) (by omega), Int.toNat_natCast, ej, Int.zero_add, Int.mul_comm ((d - s) / p)]
  omega
theorem cdy_nat {i : Nat} (h : i < (els S s (s + p)).length) : cdy p (els S s (s + p)) i = (els S s (s + p)).getD i 0 := by
  unfold cdy
  rw [Int.emod_eq_of_lt (by omega) (by omega), Int.ediv_eq_zero_of_lt (by omega) (by omega), Int.toNat_natCast]
  omega
theorem cdy_zero : s ≤ cdy p (els S s (s + p)) 0 := by
  have n0 := cyc_pos F hc
  have := cdy_nat F hc n0
  rw [show ((0 : Nat) : Int) = 0 from rfl] at this
  rw [this]
  exact (mem_els.mp (getD_mem n0)).1.1
theorem cdy_neg {i : Int} (h : i < 0) : cdy p (els S s (s + p)) i < s := by
  have n0 := cyc_pos F hc
  have hl : cdy p (els S s (s + p)) (((els S s (s + p)).length - 1 : Nat) : Int) < s + p := by
    rw [cdy_nat F hc (by omega)]
    exact (mem_els.mp (getD_mem (by omega))).1.2
  have h1 := cdy_step F hc (-1)
  have h2 := cdy_le F hc (show i ≤ -1 by omega)
  rw [show (-1 : Int) + ((els S s (s + p)).length : Int) = (((els S s (s + p)).length - 1 : Nat) : Int) by omega] at h1
  omega
end
/-! ### the least start -/
section
variable {S : Int → Bool} {s p : Int}
/-- what the walk back has found: so many days of the head are also days of the cycle, continued -/
structure Bak (S : Int → Bool) (s p : Int) (k : Nat) : Prop where
  le : k ≤ (els S 0 s).length
  same : ∀ j, j < k → (els S 0 s).getD ((els S 0 s).length - 1 - j) 0 = cdy p (els S s (s + p)) (-1 - (j : Int))
/-- the last day that is told apart -/
def apart (S : Int → Bool) (s p : Int) (k : Nat) : Int :=
  let u := cdy p (els S s (s + p)) (-1 - (k : Int))
  let r := (els S 0 s).take ((els S 0 s).length - k)
  if r ≠ [] ∧ u < r.getD (r.length - 1) 0 then r.getD (r.length - 1) 0 else u
structure Start (S : Int → Bool) (s p : Int) (k : Nat) (s' : Int) : Prop where
  can : Fr S s' p ∧ ∀ s'', Fr S s'' p → s' ≤ s''
  le : s' ≤ s
  head : (els S 0 s).take ((els S 0 s).length - k) = els S 0 s'
  cyc : (List.range (els S s (s + p)).length).map (fun (j : Nat) => cdy p (els S s (s + p)) ((j : Int) - k)) = els S s' (s' + p)
set_option maxHeartbeats 2000000 in
theorem start_of (F : Fr S s p) (hc : els S s (s + p) ≠ []) {k : Nat} (B : Bak S s p k) (stop : k = (els S 0 s).length ∨ (els S 0 s).getD ((els S 0 s).length - 1 - k) 0 ≠ cdy p (els S s (s + p)) (-1 - (k : Int))) :
    Start S s p k (if 0 < apart S s p k + 1 then apart S s p k + 1 else 0) := by
  have p1 := F.p1
  have s0 := F.s0
  have Ah := asc_els S 0 s
  have Mh := @mem_els S 0 s
  have hle := B.le
  have hsame := B.same
  have n0 := cyc_pos F hc
  have L := @cdy_lt S s p F hc
  have LE := @cdy_le S s p F hc
  have OL := @cdy_of_lt S s p F hc
  have IJ := @cdy_inj S s p F hc
  have EX := @cdy_ext S s p F hc
  have AL := @cdy_all S s p F hc
  have Z := cdy_zero F hc
  have NG := @cdy_neg S s p F hc
  have ST := @cdy_step S s p F hc
  generalize hh : els S 0 s = h at *
  -- the rest of the head
  have rl : (h.take (h.length - k)).length = h.length - k := by rw [List.length_take]; omega
  have rmem : ∀ {d}, d ∈ h.take (h.length - k) → ∃ i, i < h.length - k ∧ h.getD i 0 = d := fun {d} m => by
    obtain ⟨i, hi, e⟩ := mem_getD m
    rw [rl] at hi
    rw [getD_take hi] at e
    exact ⟨i, hi, e⟩
  have rin : ∀ i, i < h.length - k → h.getD i 0 ∈ h.take (h.length - k) := fun i hi => by
    have := getD_mem (l := h.take (h.length - k)) (i := i) (by rw [rl]; exact hi)
    rw [getD_take hi] at this
    exact this
  -- the last day apart
  have ap : apart S s p k = (if h.take (h.length - k) ≠ [] ∧ cdy p (els S s (s + p)) (-1 - (k : Int)) < h.getD (h.length - k - 1) 0 then h.getD (h.length - k - 1) 0 else cdy p (els S s (s + p)) (-1 - (k : Int))) := by
    unfold apart
    rw [hh]
    dsimp only
    rw [rl]
    by_cases c : h.take (h.length - k) = []
    · rw [if_neg (fun z => z.1 c), if_neg (fun z => z.1 c)]
    · have : 0 < h.length - k := by
        rcases Nat.eq_zero_or_pos (h.length - k) with z | z
        · rw [z] at c; exact absurd rfl c
        · exact z
      rw [getD_take (show h.length - k - 1 < h.length - k by omega)]
  generalize hu0 : cdy p (els S s (s + p)) (-1 - (k : Int)) = u0 at ap stop
  have u0s : u0 < s := by rw [← hu0]; exact NG (by omega)
  have u0e : ext S s p u0 = true := by rw [← hu0]; exact EX _
  generalize apart S s p k = u at ap
  have uu0 : u0 ≤ u := by rw [ap]; split <;> omega
  have rest_le : ∀ i, i < h.length - k → h.getD i 0 ≤ u := fun i hi => by
    have a := asc_le Ah (show i ≤ h.length - k - 1 by omega) (by omega)
    have ne : h.take (h.length - k) ≠ [] := List.ne_nil_of_mem (rin i hi)
    rw [ap]
    by_cases c : u0 < h.getD (h.length - k - 1) 0
    · rw [if_pos ⟨ne, c⟩]; exact a
    · rw [if_neg fun z => c z.2]; omega
  have us : u < s := by
    rw [ap]
    split
    · rename_i z
      have lt : h.length - k - 1 < h.length := by
        have : 0 < h.length - k := by
          rcases Nat.eq_zero_or_pos (h.length - k) with w | w
          · rw [w] at z; exact absurd rfl z.1
          · exact w
        omega
      exact (Mh.mp (getD_mem lt)).1.2
    · exact u0s
  -- the days of the head that are also days of the cycle
  have tail_gt : ∀ j, j < k → u < h.getD (h.length - 1 - j) 0 := fun j hj => by
    have g := hsame j hj
    have a : u0 < h.getD (h.length - 1 - j) 0 := by
      rw [g, ← hu0]
      exact L (by omega)
    rw [ap]
    split
    · rename_i z
      have : 0 < h.length - k := by
        rcases Nat.eq_zero_or_pos (h.length - k) with w | w
        · rw [w] at z; exact absurd rfl z.1
        · exact w
      exact asc_lt Ah (by omega) (by omega)
    · exact a
  have split_h : ∀ {d}, d ∈ h → d ∈ h.take (h.length - k) ∨ ∃ j, j < k ∧ d = h.getD (h.length - 1 - j) 0 := fun {d} m => by
    obtain ⟨i, hi, e⟩ := mem_getD m
    by_cases c : i < h.length - k
    · exact .inl (by rw [← e]; exact rin i c)
    · exact .inr ⟨h.length - 1 - i, by omega, by rw [show h.length - 1 - (h.length - 1 - i) = i by omega]; exact e.symm⟩
  generalize hs' : (if 0 < u + 1 then u + 1 else 0) = s'
  have s'0 : 0 ≤ s' := by rw [← hs']; split <;> omega
  have s's : s' ≤ s := by rw [← hs']; split <;> omega
  have s'u : u < s' := by rw [← hs']; split <;> omega
  have s'e : ∀ d, 0 ≤ d → d < s' → d ≤ u := fun d h1 h2 => by
    rw [← hs'] at h2
    split at h2 <;> omega
  -- from there on it is the cycle continued
  have agree : ∀ d, s' ≤ d → S d = ext S s p d := fun d hd => by
    by_cases c : s ≤ d
    · exact (ext_ge F c).symm
    · have a : S d = true → ext S s p d = true := fun q => by
        rcases split_h (Mh.mpr ⟨⟨by omega, by omega⟩, q⟩) with m | ⟨j, hj, e⟩
        · obtain ⟨i, hi, e⟩ := rmem m
          have := rest_le i hi
          omega
        · rw [e, hsame j hj]
          exact EX _
      have b : ext S s p d = true → S d = true := fun q => by
        obtain ⟨i, e⟩ := AL q
        have i0 : i < 0 := by
          rcases Int.lt_or_le i 0 with w | w
          · exact w
          · have := LE w; omega
        have ik : -1 - (k : Int) < i := OL (by rw [hu0, e]; omega)
        have g := hsame (-1 - i).toNat (by omega)
        rw [show -1 - (((-1 - i).toNat : Nat) : Int) = i by omega, e] at g
        have m := getD_mem (l := h) (i := h.length - 1 - (-1 - i).toNat) (by omega)
        rw [g] at m
        exact (Mh.mp m).2
      exact Bool.eq_iff_iff.mpr ⟨a, b⟩
  refine ⟨⟨⟨s'0, p1, fun d hd => ?_⟩, fun s'' G => ?_⟩, s's, ?_, ?_⟩
  · rw [agree _ (by omega), agree _ hd, ext_per]
  · -- the least start
    rcases Int.lt_or_le s'' s' with w | w
    · exfalso
      have g0 := G.s0
      have su : s' = u + 1 ∧ 0 ≤ u := by
        rw [← hs'] at w ⊢
        split at w <;> rename_i z
        · rw [if_pos z]; omega
        · omega
      have e1 : S u = ext S s p u := by
        have k1 : s ≤ u + ((s - u).toNat : Int) * p := by
          have : ((s - u).toNat : Int) * 1 ≤ ((s - u).toNat : Int) * p := Int.mul_le_mul_of_nonneg_left p1 (by omega)
          omega
        rw [← G.mul (s - u).toNat u (by omega), ← ext_ge F k1, ext_mul]
      rw [ap] at e1 su
      by_cases c : h.take (h.length - k) ≠ [] ∧ u0 < h.getD (h.length - k - 1) 0
      · rw [if_pos c] at e1 su
        have pos : 0 < h.length - k := by
          rcases Nat.eq_zero_or_pos (h.length - k) with w | w
          · rw [w] at c; exact absurd rfl c.1
          · exact w
        have m := Mh.mp (getD_mem (l := h) (i := h.length - k - 1) (by omega))
        rw [m.2] at e1
        obtain ⟨i, e⟩ := AL e1.symm
        have ik : -1 - (k : Int) < i := OL (by rw [hu0, e]; exact c.2)
        have i0 : i < 0 := by
          rcases Int.lt_or_le i 0 with w | w
          · exact w
          · have := LE w; omega
        have g := hsame (-1 - i).toNat (by omega)
        rw [show -1 - (((-1 - i).toNat : Nat) : Int) = i by omega, e] at g
        have := asc_lt Ah (show h.length - k - 1 < h.length - 1 - (-1 - i).toNat by omega) (by omega)
        omega
      · rw [if_neg c] at e1 su
        rw [u0e] at e1
        have m : u0 ∈ h := Mh.mpr ⟨⟨su.2, u0s⟩, e1⟩
        rcases split_h m with m | ⟨j, hj, e⟩
        · have ne := List.ne_nil_of_mem m
          obtain ⟨i, hi, e⟩ := rmem m
          have a := asc_le Ah (show i ≤ h.length - k - 1 by omega) (by omega)
          have b : ¬ u0 < h.getD (h.length - k - 1) 0 := fun z => c ⟨ne, z⟩
          rcases stop with st | st
          · omega
          · rw [show h.length - 1 - k = h.length - k - 1 by omega] at st
            omega
        · rw [hsame j hj, ← hu0] at e
          have := IJ e
          omega
    · exact w
  · -- the head
    rw [hh]
    refine asc_ext (Ah.sublist (List.take_sublist _ _)) (asc_els _ _ _) fun d => ?_
    rw [mem_els]
    constructor
    · intro m
      obtain ⟨i, hi, e⟩ := rmem m
      have g := Mh.mp (getD_mem (l := h) (i := i) (by omega))
      have := rest_le i hi
      rw [e] at g this
      exact ⟨⟨g.1.1, by omega⟩, g.2⟩
    · rintro ⟨⟨h1, h2⟩, h3⟩
      have := s'e d h1 h2
      rcases split_h (Mh.mpr ⟨⟨h1, by omega⟩, h3⟩) with m | ⟨j, hj, e⟩
      · exact m
      · have := tail_gt j hj
        omega
  · -- the cycle
    have first : s' ≤ cdy p (els S s (s + p)) (-(k : Int)) := by
      by_cases k0 : k = 0
      · subst k0
        exact Int.le_trans s's Z
      · have g := hsame (k - 1) (by omega)
        rw [show -1 - ((k - 1 : Nat) : Int) = -(k : Int) by omega] at g
        have t := tail_gt (k - 1) (by omega)
        have m := (Mh.mp (getD_mem (l := h) (i := h.length - 1 - (k - 1)) (by omega))).1.1
        rw [g] at t m
        rw [← hs']
        split <;> omega
    refine asc_ext ?_ (asc_els _ _ _) fun d => ?_
    · unfold Asc
      rw [List.pairwise_map]
      exact List.Pairwise.imp (fun q => L (by omega)) List.pairwise_lt_range
    · rw [List.mem_map, mem_els]
      constructor
      · rintro ⟨j, hj, rfl⟩
        rw [List.mem_range] at hj
        have a := LE (show -(k : Int) ≤ (j : Int) - k by omega)
        have b := LE (show (j : Int) - k ≤ (-1 - (k : Int)) + ((els S s (s + p)).length : Int) by omega)
        rw [ST, hu0] at b
        refine ⟨⟨by omega, by omega⟩, ?_⟩
        rw [agree _ (by omega)]
        exact EX _
      · rintro ⟨⟨h1, h2⟩, h3⟩
        rw [agree d h1] at h3
        obtain ⟨i, e⟩ := AL h3
        have a : -1 - (k : Int) < i := OL (by rw [hu0, e]; omega)
        have b : i < -(k : Int) + ((els S s (s + p)).length : Int) := OL (by rw [ST, e]; omega)
        refine ⟨(i + k).toNat, by rw [List.mem_range]; omega, ?_⟩
        rw [show (((i + k).toNat : Nat) : Int) - k = i by omega]
        exact e
end
end Cf
namespace Cf
/-! ### the days by their numbers -/
section
variable {S : Int → Bool} {s p : Int}
def dAt (S : Int → Bool) (s p : Int) (i : Nat) : Int := if i < (els S 0 s).length then (els S 0 s).getD i 0 else cdy p (els S s (s + p)) ((i - (els S 0 s).length : Nat) : Int)
def Val (S : Int → Bool) (s p : Int) (i : Nat) : Prop := i < (els S 0 s).length ∨ els S s (s + p) ≠ []
/-- so many days are before this one -/
structure Rk (S : Int → Bool) (s p day : Int) (c : Nat) : Prop where
  lo : ∀ i, i < c → Val S s p i ∧ dAt S s p i < day
  hi : ∀ i, c ≤ i → Val S s p i → day ≤ dAt S s p i
theorem dAt_mem (F : Fr S s p) {i : Nat} (h : Val S s p i) : S (dAt S s p i) = true ∧ 0 ≤ dAt S s p i := by
  unfold dAt
  by_cases c : i < (els S 0 s).length
  · rw [if_pos c]
    have := mem_els.mp (getD_mem c)
    exact ⟨this.2, this.1.1⟩
  · rw [if_neg c]
    have hc := h.resolve_left c
    have z := cdy_zero F hc
    have l := cdy_le F hc (show 0 ≤ ((i - (els S 0 s).length : Nat) : Int) by omega)
    have e := cdy_ext F hc ((i - (els S 0 s).length : Nat) : Int)
    rw [ext_ge F (by omega)] at e
    exact ⟨e, by have := F.s0; omega⟩
theorem dAt_lt (F : Fr S s p) {i j : Nat} (h : i < j) (v : Val S s p j) : dAt S s p i < dAt S s p j := by
  unfold dAt
  by_cases c : j < (els S 0 s).length
  · rw [if_pos c, if_pos (by omega)]
    exact asc_lt (asc_els S 0 s) h c
  · rw [if_neg c]
    have hc := v.resolve_left c
    have z := cdy_zero F hc
    by_cases d : i < (els S 0 s).length
    · rw [if_pos d]
      have := (mem_els.mp (getD_mem d)).1.2
      have l := cdy_le F hc (show 0 ≤ ((j - (els S 0 s).length : Nat) : Int) by omega)
      omega
    · rw [if_neg d]
      exact cdy_lt F hc (by omega)
theorem dAt_all (F : Fr S s p) {d : Int} (h : S d = true) (h0 : 0 ≤ d) : ∃ i, Val S s p i ∧ dAt S s p i = d := by
  by_cases c : d < s
  · obtain ⟨i, hi, e⟩ := mem_getD (mem_els.mpr ⟨⟨h0, c⟩, h⟩ : d ∈ els S 0 s)
    exact ⟨i, .inl hi, by unfold dAt; rw [if_pos hi]; exact e⟩
  · have hc : els S s (s + p) ≠ [] := by
      have p1 := F.p1
      have m0 := Int.emod_nonneg (d - s) (show p ≠ 0 by omega)
      have m1 := Int.emod_lt_of_pos (d - s) (show 0 < p by omega)
      refine List.ne_nil_of_mem (mem_els.mpr ⟨⟨?_, ?_⟩, (F.mod (by omega)).trans h⟩ : s + (d - s) % p ∈ _) <;> omega
    obtain ⟨i, e⟩ := cdy_all F hc ((ext_ge F (by omega)).trans h)
    have i0 : 0 ≤ i := by
      rcases Int.lt_or_le i 0 with z | z
      · have := cdy_neg F hc z; omega
      · exact z
    refine ⟨(els S 0 s).length + i.toNat, .inr hc, ?_⟩
    unfold dAt
    rw [if_neg (by omega), show (((els S 0 s).length + i.toNat - (els S 0 s).length : Nat) : Int) = i by omega]
    exact e
theorem Rk.uniq (F : Fr S s p) {day : Int} {c c' : Nat} (A : Rk S s p day c) (B : Rk S s p day c') : c = c' := by
  rcases Nat.lt_trichotomy c c' with h | h | h
  · have q := B.lo c h
    have := A.hi c (Nat.le_refl _) q.1
    omega
  · exact h
  · have q := A.lo c' h
    have := B.hi c' (Nat.le_refl _) q.1
    omega
end
end Cf
/-! Own layer: operators of own classes, their truth, an attribute as a target, a class held by a name. -/
namespace Cf
open PySem PySem.Spec PyProof.Rows L2
/-- the class at C has the def at f under this name -/
structure Own (K : PySem.W.Frag) (C : Addr) (nm : Str) (f : Addr) : Prop where
  at_ : PySem.W.findIn K (.ref C) nm = some (some (.ref f))
  fn : PySem.W.isFn K (.ref f) = true
/-- two instances of the class at C, as the def's promise says -/
def rOwn (C : Addr) (sp : Sp) : R2 := fun x y H Q => ∃ a b dx dy fs gs, x = .ref a ∧ y = .ref b ∧ H a = some (.ins C dx fs) ∧ H b = some (.ins C dy gs) ∧ sp [.ref a, .ref b] H Q E0
section
variable {X : Cx} {k : Nat} {C f : Addr} {fd : FuncData} {ps : List Str} {sp : Sp}
theorem back_of {X : Cx} {pins : List (Addr × Obj)} {σ : L2.St} {Q : VK} {v : Value} {s' : Shared} (h : EP X pins σ Q v s') : PySem.W.CmpBack (EP X pins σ Q) v s' := by
  obtain ⟨z, H', I, r, q⟩ := id h
  cases v <;> first | exact h | (cases z <;> first | exact r.elim | (obtain ⟨_, e⟩ := r; cases e) | cases r)
theorem op_own {op : Operator} (hc : PySem.W.selfFirst X.K C = true) (o : Own X.K C (PySem.dunder op.info.2) f) (F : FnOk X.prog X.w X.K X.mg X.base CX0 k f fd ps sp) (hb : Binds X.K fd ps []) (hr : Room k X.A) : OpR X (binaryOp op) (rOwn C sp) := by
  intro pins s σ H x y v u Q I rx ry h
  obtain ⟨a, b, dx, dy, fs, gs, rfl, rfl, ha, hb', q⟩ := h
  cases rx
  cases ry
  obtain ⟨mA, J, _⟩ := ins_get I.hok ha
  obtain ⟨mB, J', _⟩ := ins_get I.hok hb'
  obtain ⟨od, J, _⟩ := J.look
  obtain ⟨od', J', _⟩ := J'.look
  obtain ⟨m, hF⟩ := I.fr
  exact PySem.W.binop_K hF I.ok.mod.kin J J'.type hc o.at_ o.fn (thn (run_fn (us := [.ref a, .ref b]) (vs := [.ref a, .ref b]) F hr hb .nil pass0 I (.cons rfl (.cons rfl .nil)) q) fun v s' z => back_of z)
/-- x == y of two instances by the own __eq__ -/
theorem op_ownEq (hn : PySem.W.notFirst X.K C (.ref C) = true) (o : Own X.K C "__eq__" f) (F : FnOk X.prog X.w X.K X.mg X.base CX0 k f fd ps sp) (hb : Binds X.K fd ps []) (hr : Room k X.A) (hu : X.A.units < cLine) : OpR X (compareOp .Eq) (rOwn C sp) := by
  intro pins s σ H x y v u Q I rx ry h
  obtain ⟨a, b, dx, dy, fs, gs, rfl, rfl, ha, hb', q⟩ := h
  cases rx
  cases ry
  obtain ⟨mA, J, _⟩ := ins_get I.hok ha
  obtain ⟨mB, J', _⟩ := ins_get I.hok hb'
  obtain ⟨od, J, _⟩ := J.look
  obtain ⟨od', J', _⟩ := J'.look
  obtain ⟨m, hF⟩ := I.fr
  show wpAny (model X.prog X.w) X.A (richCompare .Eq (.ref a) (.ref b)) (EP X pins σ Q) X.xe s
  exact PySem.W.cmp_K (op := .Eq) (tb := .ref C) hu hF I.ok.mod.kin J J'.type hn o.at_ o.fn (thn (run_fn (us := [.ref a, .ref b]) (vs := [.ref a, .ref b]) F hr hb .nil pass0 I (.cons rfl (.cons rfl .nil)) q) fun v s' z => back_of z)
/-- an instance's truth by the own __bool__ -/
def rTru (C : Addr) (sp : Sp) : V → Hp → (Bool → Hp → Prop) → Prop := fun x H Q => ∃ a dx fs, x = .ref a ∧ H a = some (.ins C dx fs) ∧ sp [.ref a] H (fun v H' => ∃ b, v = .bl b ∧ Q b H') E0
theorem tru_own (o : Own X.K C "__bool__" f) (F : FnOk X.prog X.w X.K X.mg X.base CX0 k f fd ps sp) (hb : Binds X.K fd ps []) (hr : Room k X.A) : TruR X (rTru C sp) := by
  intro pins s σ H x v Q I rx h
  obtain ⟨a, dx, fs, rfl, ha, q⟩ := h
  cases rx
  obtain ⟨mA, J, _⟩ := ins_get I.hok ha
  obtain ⟨od, J, _⟩ := J.look
  obtain ⟨m, hF⟩ := I.fr
  refine PySem.W.truthy_K hF I.ok.mod.kin J o.at_ o.fn (thn (run_fn (us := [.ref a]) (vs := [.ref a]) F hr hb .nil pass0 I (.cons rfl .nil) q) fun v s' z => ?_)
  obtain ⟨z, H', I', r, b, rfl, q⟩ := z
  cases r
  exact ⟨H', I', q⟩
/-- not e, e an instance -/
def tNotO (r : V → Hp → (Bool → Hp → Prop) → Prop) (ta : TE) : TE := fun σ H Q => ta σ H fun x H1 => r x H1 fun b H2 => Q (.bl (!b)) H2
theorem pe_notO {r : V → Hp → (Bool → Hp → Prop) → Prop} {e : Expr} {ta : TE} {pos : Pos} (ht : TruR X r) (ha : PE X e ta) : PE X (.UnaryOp .Not e pos) (tNotO r ta) := by
  refine ⟨fun pins s σ H Q I h => ?_⟩
  refine UnaryOp_ (thn (ha.run pins s σ H _ I h) fun v s1 ⟨x, H1, I1, r1, q1⟩ => ?_)
  refine not_of (thn (ht pins s1 σ H1 x v _ I1 r1 q1) fun b s2 ⟨H2, I2, q2⟩ => ⟨.bl (!b), H2, I2, rfl, q2⟩)
/-- o.f as one of several targets -/
def gFld (K : PySem.W.Frag) (ta : TE) (f : Str) : TG := fun v σ H Q => ta σ H fun x H1 => ∃ a C dx fs, x = .ref a ∧ H1 a = some (.ins C dx fs) ∧ Cls K C ∧ NoAttr K C f ∧ fs.length < 1000 ∧ Q σ (upd H1 a (.ins C dx (putF f v fs)))
theorem pg_fld {o : Expr} {fn : Str} {pos : Pos} {ta : TE} (ho : PE X o ta)
    (ha : ∀ v, assign (.Attribute o fn pos) X.env v = (do
      let ov ← holding [v] (eval o X.env)
      standAt pos.atName
      holding [v, ov] (setAttr ov fn v)
      release [v, ov] []) := by intro _; rfl) : PG X (.Attribute o fn pos) (gFld X.K ta fn) := by
  refine ⟨fun pins s σ H v u Q I r h => ?_⟩
  rw [ha]
  refine wpAny_bind (wpAny_holding (thn (ho.run pins s σ H _ I h) fun ov s1 ⟨x, H1, I1, r1, a, C, dx, fs, ex, ea, c, n, l, q⟩ => ?_))
  subst ex
  obtain rfl : ov = Value.ref a := r1
  refine wpAny_bind (wpAny_standAt (wpAny_bind (wpAny_holding (setattr_ok I1 ea c n l r fun s3 I3 => ?_))))
  exact wpAny_release ⟨σ, _, I3, q⟩
/-- x(..), x a local name that holds the class at C -/
def tMakeL (i : Nat) (C : Addr) (sp : Sp) (t : TA) : TE := fun σ H Q => σ[i]? = some (some (.ref C)) ∧ tMake C sp [] E0 t σ H Q
theorem pe_makeL {i : Nat} {fI : Addr} {x : Str} {p pos : Pos} {e : Expr} {es : List Expr} {t : TA} (M : Mk X.K C fI) (F : FnOk X.prog X.w X.K X.mg X.base CX0 k fI fd ps sp) (hr : Room (k + 1) X.A) (hN : X.N[i]? = some x) (hv : Vis X.env.scope x) (hb : Binds X.K fd ps []) (ha : PA X (e :: es) t)
    (hdb : (x == ("__debug__" : Str)) = false := by decide) (hcd : (x == ("__classdict__" : Str)) = false := by decide)
    (he : starEach (e :: es) X.env = (false, eval e X.env) :: starEach es X.env := by rfl) (hpl : (backTo pos (starEach es X.env)).any (·.1) = false := by rfl) : PE X (.Call (.Name x p) (e :: es) [] pos) (tMakeL i C sp t) := by
  refine ⟨fun pins s σ H Q I h => ?_⟩
  obtain ⟨hs, ht⟩ := h
  refine wpAny_Call_Name_kw (thn ((pe_var (pos := p) hN hv hdb hcd).run pins s σ H (fun v H1 => v = .ref C ∧ H1 = H) I ⟨.ref C, hs, rfl, rfl⟩) fun u s1 ⟨v, H1, I1, r1, q1⟩ => ?_)
  obtain ⟨rfl, rfl⟩ := q1
  cases r1
  refine PySem.W.callWith_K (h₀ := X.base) I.ok.mod.kin M.kp (thn (ha.run pos pins s1 σ _ _ I1 ht) fun us s2 ⟨vs, H2, I2, r, q⟩ => ⟨I2.kIn, ?_⟩) he hpl
  exact run_make M F hr hb .nil pass0 I2 r q
end
/-! ### math.lcm -/
def rLcm : List V → Hp → VK → Prop := fun vs H Q => ∃ a b : Int, vs = [.int a, .int b] ∧ a.natAbs < 1000000 ∧ b.natAbs < 1000000 ∧ Q (.int ((Nat.lcm a.natAbs b.natAbs : Nat) : Int)) H
theorem cr_lcm {X : Cx} : CallR X (.builtin "math.lcm") rLcm := by
  intro pins s σ H vs us Q I r h
  obtain ⟨a, b, rfl, ha, hb, q⟩ := h
  obtain ⟨t, u, rfl⟩ := Vals.int2 r
  have small : (Nat.lcm a.natAbs b.natAbs).log2 < bitsLine := by
    have h1 : Nat.lcm a.natAbs b.natAbs ≤ a.natAbs * b.natAbs := Nat.div_le_self _ _
    have h2 : a.natAbs * b.natAbs ≤ 1000000 * 1000000 := Nat.mul_le_mul (by omega) (by omega)
    by_cases z : Nat.lcm a.natAbs b.natAbs = 0
    · rw [z]; decide
    · exact Nat.lt_trans ((Nat.log2_lt z).mpr (Nat.lt_of_le_of_lt (Nat.le_trans h1 h2) (by decide +kernel : 1000000 * 1000000 < 2 ^ 64))) (by decide +kernel)
  refine PySem.W.mg_lcm (by omega) (by omega) (by rw [Nat.lcm_one_left]; exact small) ?_
  rw [Nat.lcm_one_left]
  exact ⟨.int _, H, I.tok _, ⟨_, rfl⟩, q⟩
end Cf
/-! Own layer: a set made of a list of ints, of any length below the scan bound; sorted of such. -/
namespace Cf
open PySem PySem.Spec PyProof.Rows L2
section
variable {prog : Program} {w : World} {A : Around} {R : Result → Shared → Prop} {I : Addr} {fp wr : List Addr} {G : Array GenState → Array GenState → Prop} {n : Nat} {P : Nat → Value → Prop} {St : Nat → Shared → Prop}
/-- the loop of an update, the set's table known to rise -/
theorem upd_loop (W : WalksS prog w A.in1 I fp wr G n P St) (Z : Addr) (nZ : Z ∉ fp) (val : Nat → Int) (hval : ∀ i v, P i v → ∃ t, v = .int (val i) t) (room : n + 1 < scanBound) :
    ∀ (k i : Nat) (s : Shared) (S : Int → Bool) (c : Nat), n - i = k → i ≤ n → c ≤ i → St i s → SetR w s.heap Z S c →
      (∀ s' S' c', Moved (Z :: wr) G s s' → c' ≤ n → (∀ z, S' z = true ↔ (S z = true ∨ ∃ j, i ≤ j ∧ j < n ∧ val j = z)) → SetR w s'.heap Z S' c' → R (.ok (.ret .none)) s') →
      codeAny (model prog w) A (.builtin "set.update.loop" ⟨[.ref Z, .ref I], []⟩) R s := by
  have nZw : Z ∉ wr := fun q => nZ (W.sub _ q)
  have sub2 : ∀ b ∈ wr, b ∈ Z :: wr := fun b q => List.mem_cons_of_mem _ q
  intro k; induction k with
  | zero =>
    intro i s S c ek li lc st rs fin
    have e : i = n := by omega
    subst e
    refine codeAny_builtin F.entry_set_update_loop ?_; rw [Around.under_plainId F.plain_set_update_loop _]
    show wpAny _ A.in1 (pyNext (.ref I) >>= _) _ _ s; refine wpAny_bind (W.done s _ _ st fun s' mv => ?_)
    show wpAny _ A.in1 (ret Value.none) _ _ s'; refine wpAny_pure (fin s' S c (mv.mono sub2) (by omega) (fun z => ?_) (rs.at fun o q => mv.heap Z _ nZw q))
    exact ⟨.inl, fun q => q.elim id fun ⟨j, a, b, _⟩ => by omega⟩
  | succ k ih =>
    intro i s S c ek li lc st rs fin
    have lt : i < n := by omega
    refine codeAny_builtin F.entry_set_update_loop ?_; rw [Around.under_plainId F.plain_set_update_loop _]
    show wpAny _ A.in1 (pyNext (.ref I) >>= _) _ _ s; refine wpAny_bind (W.item i s _ _ lt st fun v s' pv' st' mv => ?_)
    obtain ⟨t, rfl⟩ := hval i v pv'
    have rs' : SetR w s'.heap Z S c := rs.at fun o q => mv.heap Z _ nZw q
    show wpAny _ A.in1 (holding [Value.int (val i) t] (setAdd Z (.int (val i) t)) >>= _) _ _ s'; refine wpAny_bind (wpAny_holding ?_)
    unfold setAdd; refine wpAny_holding ?_; refine wpAny_bind ((intKind prog w).pyHash (k := val i) (intKind_is _ _ _ _) ?_)
    refine setR_add_hashed (s := { s' with toks := s'.toks + 1 }) rs' (by omega) fun h' sb r2 => ?_
    refine wpAny_pure ⟨plainId_quiet F.plain_set_update_loop _, ih (i + 1) _ _ _ (by omega) lt (by split <;> omega) (W.frame _ s' _ _ st' (Nat.le_succ _) fun b hb o e => ?_) r2 fun s'' S'' c'' mv2 lc2 mem r3 => ?_⟩
    · rw [sb.2 b (fun q : b = Z => nZ (by rw [← q]; exact hb))]; exact e
    · refine fin s'' S'' c'' (Moved.trans W.gtrans ((mv.mono sub2).then_heap (Nat.le_succ _) fun b o hb e => ?_) mv2) lc2 (fun z => ?_) r3
      · rw [sb.2 b (fun q : b = Z => hb (by rw [q]; exact List.mem_cons_self))]; exact e
      · rw [mem z]
        constructor
        · rintro (q | ⟨j, a, b, e⟩)
          · rcases Bool.or_eq_true_iff.mp q with q | q
            · exact .inl q
            · exact .inr ⟨i, Nat.le_refl _, lt, (of_decide_eq_true q).symm⟩
          · exact .inr ⟨j, by omega, b, e⟩
        · rintro (q | ⟨j, a, b, e⟩)
          · exact .inl (Bool.or_eq_true_iff.mpr (.inl q))
          · by_cases ej : j = i
            · subst ej; exact .inl (Bool.or_eq_true_iff.mpr (.inr (decide_eq_true e.symm)))
            · exact .inr ⟨j, by omega, b, e⟩
end
section
variable {prog : Program} {w : World} {A : Around} {E : Value → Shared → Prop} {s : Shared}
theorem new_set1 (a : Value) {Q₁ : Value → Shared → Prop}
    (h : Q₁ (.ref s.heap.objs.size) { s with heap := s.heap.push { cls := .type "set", dict := none, data := .set #[] 0 (.fresh 0 0 (!w.params.followText "set-order")) } }) :
    codeAny (model prog w) A (.call (.builtin "set.__new__") ⟨[.type "set", a], []⟩) (wants Q₁ E) s := by
  refine codeAny_of_tree ?_; show wpAny _ A.in1 (do checkBuiltinCall "set.__new__" ⟨[.type "set", a], []⟩; again (.builtin "set.__new__" ⟨[.type "set", a], []⟩)) _ _ s
  refine wpAny_bind (wpAny_of_eq (F.newCall_set_1 a) (wpAny_pure ⟨plainId_quiet F.plain_set_new _, codeAny_builtin F.entry_set_new ?_⟩)); rw [Around.under_plainId F.plain_set_new _]
  unfold Builtin.«set.__new__» Builtin.Frozenset.newClass; have sb := sub_set_self; obtain ⟨hp, g, d, tk, os⟩ := s; dsimp only
  wp_walk
  refine wpAny_askSetting (wpAny_pure ?_); dsimp only; simp only [newObj]; refine wpAny_bind (wpAny_alloc (wpAny_pure ?_))
  exact wpAny_pure h
set_option maxHeartbeats 3200000 in
/-- set(l), l a list of ints -/
theorem call_setL {l : Addr} {items : Array Value} {ns : List Int} {Q : Value → Shared → Prop} (hh : A.handled = none) (hl : s.heap.IsList l items) (hi : PyProof.Rows.IntsAre items.toList ns) (room : items.size + 1 < scanBound)
    (fin : ∀ (h' : Heap) (tk : Nat) (S : Int → Bool) (c : Nat), c ≤ items.size → (∀ z, S z = true ↔ z ∈ ns) → SetR w h' s.heap.objs.size S c → (∀ b o, b < s.heap.objs.size → s.heap.get? b = some o → h'.get? b = some o) → Q (.ref s.heap.objs.size) { s with heap := h', toks := tk }) :
    wpAny (model prog w) A (call (.type "set") [.ref l]) Q E s := by
  obtain ⟨cM, tM, eM⟩ := F.called_set.mro; have m1 := F.called_set.made; have m2 := F.called_set.sub
  refine wpAny_call (codeAny_of_tree ?_); show wpAny _ _ (callAny (.type "set") _) _ _ _
  refine wpAny_pure ⟨Code.quiet_builtin _ (by decide +kernel), codeAny_builtin F.entry_type_call ?_⟩; rw [Around.under_plain (weight_type_call_type "set" [.ref l] []) rfl]
  have m3 := F.called_set.notType; have m4 := F.called_set.canCreate; have m5 := F.typeCall_set_1 (.ref l)
  repeat (any_goals (first | assumption | wp_step))
  refine codeAny_mono (new_set1 (.ref l) (E := E) (Q₁ := fun obj s₁ => obj = .ref s.heap.objs.size ∧ s₁ = { s with heap := s.heap.push { cls := .type "set", dict := none, data := .set #[] 0 (.fresh 0 0 (!w.params.followText "set-order")) } }) ⟨rfl, rfl⟩) fun r s₁ hr => ?_
  cases r with
  | error e => exact hr
  | ok fl => cases fl with
    | ret obj =>
      obtain ⟨rfl, rfl⟩ := hr
      have gS : (s.heap.push { cls := .type "set", dict := none, data := .set #[] 0 (.fresh 0 0 (!w.params.followText "set-order")) }).get? s.heap.objs.size = some { cls := .type "set", dict := none, data := .set #[] 0 (.fresh 0 0 (!w.params.followText "set-order")) } := Heap.get?_push_size _ rfl
      have tS : Shared.TypeIs { s with heap := s.heap.push { cls := .type "set", dict := none, data := .set #[] 0 (.fresh 0 0 (!w.params.followText "set-order")) } } (.ref s.heap.objs.size) "set" := ⟨_, gS, rfl⟩
      have i1 := F.called_set.init.lookup; have i2 := F.called_set.init.bind (.ref s.heap.objs.size)
      repeat (any_goals (first | assumption | wp_step))
      refine codeAny_mono (codeAny_call_builtin (R := wants (fun r s₂ => r = .none ∧ ∃ h' tk S c, s₂ = { s with heap := h', toks := tk } ∧ c ≤ items.size ∧ (∀ z, S z = true ↔ z ∈ ns) ∧ SetR w h' s.heap.objs.size S c ∧
          (∀ b o, b < s.heap.objs.size → s.heap.get? b = some o → h'.get? b = some o)) E) F.called_set.init.plain F.entry_set_init (check_set_init_1 tS ?_)) fun r₂ s₂ hr₂ => ?_
      · obtain ⟨ol, gl, cl, nl, dl⟩ := hl; obtain ⟨ocls, odict, odata, oslots⟩ := ol; simp only at cl dl; subst cl; subst dl
        have gl' : (s.heap.push { cls := .type "set", dict := none, data := .set #[] 0 (.fresh 0 0 (!w.params.followText "set-order")) }).get? l = some { cls := .type "list", dict := odict, data := .seq items nl, slots := oslots } := Heap.get?_push_of_some _ gl
        have q1 := F.sub_list_set; have q2 := F.sub_list_frozenset; have q3 : (Value.type "list" == Value.type "dict") = false := by decide
        have il : (s.heap.push { cls := .type "set", dict := none, data := .set #[] 0 (.fresh 0 0 (!w.params.followText "set-order")) }).IsList l items := ⟨_, gl', rfl, nl, rfl⟩
        unfold Builtin.«set.__init__» noKeywords Builtin.Frozenset.updateFrom; generalize ePI : pyIter = PI
        wp_walk
        subst ePI
        refine wpAny_pyIter_list il ?_; refine wpAny_bind (wpAny_runValue ?_)
        have lS : l < s.heap.objs.size := Heap.lt_size gl
        have h3 : A.in1.in1.in1.handled = none := by simp [hh]
        have nI : l ≠ (s.heap.push { cls := .type "set", dict := none, data := .set #[] 0 (.fresh 0 0 (!w.params.followText "set-order")) }).objs.size := by rw [Heap.size_push]; exact Nat.ne_of_lt (Nat.lt_succ_of_lt lS)
        have nF : s.heap.objs.size ∉ [(s.heap.push { cls := .type "set", dict := none, data := .set #[] 0 (.fresh 0 0 (!w.params.followText "set-order")) }).objs.size, l] := by
          rw [Heap.size_push]; simp only [List.mem_cons, List.mem_singleton, List.not_mem_nil, or_false, not_or]; exact ⟨Nat.ne_of_lt (Nat.lt_succ_self _), Nat.ne_of_gt lS⟩
        have hval : ∀ (i : Nat) (v : Value), items[i]? = some v → ∃ t, v = .int ((fun i => ns.getD i 0) i) t := fun i v hv => PyProof.Rows.IntsAre.int_at hi i v (by rw [Array.getElem?_toList]; exact hv)
        have hn : items.size = ns.length := by have := IntsAre.length hi; simpa using this
        refine upd_loop ((Walks.list h3 _ l nI items).toS) s.heap.objs.size nF (fun i => ns.getD i 0) hval room (items.size - 0) 0 _ (fun _ => false) 0 (by omega) (Nat.zero_le _) (Nat.le_refl _) ⟨⟨_, Heap.get?_push_size _ rfl, rfl, rfl⟩, (il.push _)⟩ ?_ ?_
        · exact (setR_fresh w).at fun o q => Heap.get?_push_of_some _ q
        · intro s' S' c' hm hc' mem hS'; obtain ⟨h', g', d', tk', os'⟩ := s'
          have eg : g' = s.gens := hm.gens
          have ed : d' = s.drawn := hm.drawn
          have eo : os' = s.os := hm.os
          subst eg; subst ed; subst eo; show wpAny _ _ _ _ _ _; refine wpAny_pure ?_; show wpAny _ _ (ret Value.none) _ _ _
          refine wpAny_pure ⟨rfl, h', tk', S', c', rfl, hc', fun z => ?_, hS', fun b o hb e => ?_⟩
          · rw [mem z]
            constructor
            · rintro (q | ⟨j, _, b, e⟩)
              · cases q
              · rw [← e, List.getD_eq_getElem?_getD, List.getElem?_eq_getElem (by omega)]
                exact List.getElem_mem _
            · intro q
              obtain ⟨j, hj, e⟩ := List.getElem_of_mem q
              exact .inr ⟨j, Nat.zero_le _, by omega, by rw [List.getD_eq_getElem?_getD, List.getElem?_eq_getElem hj]; exact e⟩
          · have b1 : b ≠ s.heap.objs.size := Nat.ne_of_lt hb
            have b2 : b ≠ (s.heap.push { cls := .type "set", dict := none, data := .set #[] 0 (.fresh 0 0 (!w.params.followText "set-order")) }).objs.size := by rw [Heap.size_push]; exact Nat.ne_of_lt (Nat.lt_succ_of_lt hb)
            refine hm.heap b o ?_ (Heap.get?_push_of_some _ (Heap.get?_push_of_some _ e)); simp only [List.mem_cons, List.mem_singleton, List.not_mem_nil, or_false, not_or]; exact ⟨b1, b2⟩
      · cases r₂ with
        | error e => exact hr₂
        | ok fl₂ => cases fl₂ with
          | ret r =>
            obtain ⟨rfl, h', tk, S, c, rfl, k1, k2, k3, k4⟩ := hr₂
            repeat (any_goals (first | assumption | wp_step))
            exact fin _ _ S c k1 k2 k3 k4
          | _ => exact hr₂.elim
    | _ => exact hr.elim
/-- sorted(found), any number of members -/
theorem sortedR {a : Addr} {S : Int → Bool} {n : Nat} {Q : Value → Shared → Prop} (R : SetR w s.heap a S n) (hh : A.handled = none)
    (fin : ∀ s' p (out : Array Value) (c : Nat) (ns : List Int), (∀ b o, s.heap.get? b = some o → s'.heap.get? b = some o) → s'.gens = s.gens → s'.os = s.os → s.heap.objs.size ≤ p →
      s'.heap.get? p = some (seqObj "list" out c) → IntsAre out.toList ns → ns.Pairwise (· < ·) → (∀ k, k ∈ ns ↔ S k = true) → ns.length = n → Q (.ref p) s') :
    wpAny (model prog w) A (call (.builtin "sorted") [.ref a]) Q E s := by
  obtain ⟨o, es, ep, t, ho, hex, hd, g, nd, hm, hb, hf, hn, hr, hl⟩ := R
  have nb : n < scanBound := by rw [← hn]; exact hb
  refine Calls.call_function_entry kind_sorted plain_sorted entry_sorted (args_sorted1 _) ?_; unfold Builtin.«sorted»; refine wpAny_bind (m := checkCount "sorted" 1 1 _) (wpAny_pure ?_)
  refine wpAny_bind (collect_set (A := A.in1) hh ⟨o, ho, hex.1, hd⟩ hf hb hr hl fun s1 vs k1 hz g1 o1 pm => ?_)
  have vl : vs.length = n := by rw [pm.length_eq, List.length_map, Array.length_toList]; exact hn
  have vz : vs.length ≤ sizeLine := by rw [vl, sizeLine_eq]; unfold scanBound at nb; omega
  have hI : IntsAre vs (vs.map Builtin.Re.reRawOf) := ints_of vs fun v hv => by
    obtain ⟨e, he, q⟩ := List.mem_map.mp (pm.mem_iff.mp hv); obtain ⟨k, tk, h1, _⟩ := g e he
    exact ⟨k, tk, by rw [← q]; exact h1⟩
  have pk : (vs.map Builtin.Re.reRawOf).Perm (es.toList.map keyOf) := by
    have q := pm.map Builtin.Re.reRawOf; rw [List.map_map] at q; exact q
  refine wpAny_bind (wpAny_newList ?_ vz)
  have oL : (s1.heap.push (seqObj "list" vs.toArray 0)).get? s1.heap.objs.size = some (seqObj "list" vs.toArray 0) := Heap.get?_push_size _ rfl
  refine wpAny_bind (wpAny_holding (wpAny_call_entry slot_list_sort ⟨_, oL, rfl⟩ entry_list_sort (SrtO.list_sort_ord SrtO.swo_int oL vz (fun h2 => SrtO.ints_sortable hI h2) fun out b1 b2 => ⟨_, rfl, ?_⟩) (args_list_sort _)))
  obtain ⟨j1, j2, j3⟩ := SrtO.ints_out hI b1 b2
  obtain ⟨c, hc⟩ := sortedHeap_at (vs := vs) (out := out.toArray) oL
  have pn := j2.trans pk
  refine wpAny_pure ⟨_, rfl, fin _ s1.heap.objs.size out.toArray c (out.map SrtO.iv) (fun b u e => ?_) g1 o1 hz hc (by simpa using j1) (lt_of_le_nodup _ j3 (pn.nodup_iff.mpr nd)) (fun k => by rw [pn.mem_iff, ← hm k]) ?_⟩
  · have q := k1 b u e; have lt := Heap.lt_size q
    show (sortedHeap (s1.heap.push (seqObj "list" vs.toArray 0)) s1.heap.objs.size vs out.toArray).get? b = some u
    rw [sortedHeap_old (Nat.ne_of_lt lt) (by rw [size_push']; exact Nat.lt_succ_of_lt lt)]; exact Heap.get?_push_of_some _ q
  · rw [pn.length_eq, List.length_map, Array.length_toList]; exact hn
end
/-- set(ns) -/
def rSetL (K : PySem.W.Frag) (w : World) : List V → Hp → VK → Prop := fun vs H Q => ∃ (l : Addr) (ns : List Int), vs = [.ref l] ∧ SqL K H l (ns.map V.int) ∧ ns.length + 1 < 4096 ∧ ∀ (c : Nat) (p : Addr), c ≤ ns.length → H p = none → Q (.ref p) (upd H p (SetO w p (fun z => decide (z ∈ ns)) c))
theorem cr_setL {X : Cx} (hc : X.calm = true) : CallR X (.type "set") (rSetL X.K X.w) := by
  intro pins s σ H vs us Q I r h
  obtain ⟨l, ns, rfl, hs, room, q⟩ := h
  obtain ⟨its, rv, hl, hz⟩ := I.list hs
  rw [Vals.ref1 r]
  have hi := rv.ints
  have ln : its.toArray.size = ns.length := by rw [List.size_toArray, ← rv.length, List.length_map]
  refine call_setL (I.ok.hd hc) hl.isList (by simpa using hi) (by rw [ln]; exact room) fun h' tk S c lc mem hS keep => ?_
  have R2 : SetR X.w h' s.heap.objs.size (fun z => decide (z ∈ ns)) c := hS.congr fun z => by
    by_cases e : z ∈ ns
    · rw [(mem z).mpr e, decide_eq_true e]
    · rw [decide_eq_false e]; cases q : S z with
      | false => rfl
      | true => exact absurd ((mem z).mp q) e
  exact ⟨.ref _, _, I.laid (t' := tk) (fun b u e => keep b u (Heap.lt_size e) e) (Nat.le_refl _) (setO_new R2), rfl, q c _ (by omega) (I.hok.fresh (Nat.le_refl _))⟩
/-- sorted(found) -/
def rSortedS (w : World) : List V → Hp → VK → Prop := fun vs H Q => ∃ (a : Addr) (S : Int → Bool) (n : Nat), vs = [V.ref a] ∧ H a = some (SetO w a S n) ∧ n < 4096 ∧
  ∀ (ns : List Int) (p : Addr), ns.Pairwise (· < ·) → (∀ k : Int, k ∈ ns ↔ S k = true) → H p = none → Q (.ref p) (upd H p (.lst (ns.map V.int)))
theorem cr_sortedS2 {X : Cx} (hc : X.calm = true) : CallR X (.builtin "sorted") (rSortedS X.w) := by
  intro pins s σ H vs us Q I r h
  obtain ⟨a, S, n, rfl, ha, room, q⟩ := h
  have R := setO_get I ha
  rw [Vals.ref1 r]
  refine sortedR R (I.ok.hd hc) fun s' p out c ns k g o hp hg hi hs hm hl => ?_
  have hlen : (ns.map V.int).length ≤ sizeLine := by rw [List.length_map, hl, sizeLine_eq]; omega
  have hn : H p = none := I.hok.fresh hp
  have J : Inv X pins σ (upd H p (.lst (ns.map V.int))) { s with heap := s'.heap, gens := s'.gens, drawn := s'.drawn, toks := s'.toks } := I.call (ch := []) (Un.laid k hp hn) (I.hok.laid k hp ⟨hlen, out.toList, c, vals_of_ints hi, hg⟩) (by rw [g]; exact I.bare) (fun _ z => nomatch z)
  have e : s' = { s with heap := s'.heap, gens := s'.gens, drawn := s'.drawn, toks := s'.toks } := by cases s'; cases s; cases o; rfl
  rw [e]
  exact ⟨.ref p, _, J, rfl, q ns p hs hm hn⟩
end Cf
/-! Own layer: a range with a step, held by a name and walked later. -/
namespace Cf
open PySem PySem.Spec PyProof.Rows L2
/-- the range object i, j, c at p -/
def RgO (p : Addr) (i j c : Int) : HO := .ext fun h => ∃ t u v, IsRange h p i j c t u v
/-- range(i, j, c) with ends of any size -/
def RgW (i j c : Int) (n : Nat) : Prop := c ≠ 0 ∧ c.natAbs < 1073741824 ∧ Builtin.Range.rangeSize i j c = n
theorem RgC.wide {i j c : Int} {n : Nat} (h : RgC i j c n) : RgW i j c n := ⟨h.1, h.2.1, h.2.2.2⟩
theorem turn_longC {P : Program} {w : World} {K : PySem.W.Frag} {tg : Expr} (it : Addr) (lo c : Int) (n : Nat) : Turn P w K tg (Itc lo c n) [it] it (fun i h => IsLongIter h it (lo + (i : Nat) * c) ((n : Int) - (i : Nat)) c) where
  mem := by simp
  obj := fun i h st b hb => by
    have e : b = it := by simpa using hb
    subst e
    exact ⟨_, st, fun v z => nomatch z⟩
  keep := fun i h h' st k => k it (by simp) _ st
  item := by
    intro X hP hw hK hc i pins s σ H E I hf st hg
    subst hP hw hK
    obtain ⟨f0, f1, f2, f3, f4, f5⟩ := hf it (by simp)
    have W := Walks.longrange (prog := X.prog) (w := X.w) (I.ok.hd hc) it lo c n
    refine W.item i s _ _ hg st fun v h' tk hv st' kk => ?_
    obtain ⟨t, rfl⟩ := hv
    have I1 : Inv X pins σ H { s with heap := h', toks := tk } := I.turned (fun b o hb e => kk b o (by simpa using hb) e) f0 f1 f3 f4 f5
    exact ⟨_, rfl, go_of (s := { s with heap := h', toks := tk }) (n := "longrange_iterator") st' rfl rfl (by decide) ⟨.int (lo + (i : Nat) * c), H, I1, ⟨t, rfl⟩, ⟨rfl, rfl⟩, st', fun b hb => (hf b hb).1⟩⟩
  done := by
    intro X hP hw hK hc i pins s σ H E I hf st hg
    subst hP hw hK
    obtain ⟨f0, f1, f2, f3, f4, f5⟩ := hf it (by simp)
    exact wpAny_pyNext_long_end (I.ok.hd hc) st (by have : n ≤ i := hg; omega) fun h' eb => ⟨rfl, I.turned (t' := s.toks) (fun b o hb e => eb b o hb e) f0 f1 f3 f4 f5⟩
  self := fun A i s Q E st h => wpAny_pyIter_longiter st h
section
variable {X : Cx}
/-- a range object walked, whatever its ends -/
theorem it_range {pins : List (Addr × Obj)} {σ : L2.St} {H : Hp} {s : Shared} {R : It → Hp → Prop} {tg : Expr} {E : Value → Shared → Prop} {p : Addr} {i j k : Int} {n : Nat} {t t' t'' : Tok} (I1 : Inv X pins σ H s) (hr : IsRange s.heap p i j k t t' t'') (c3 : Builtin.Range.rangeSize i j k = n) (q : R (Itc i k n) H) :
    wpAny (model X.prog X.w) X.A (pyIter (.ref p)) (PIE X pins σ tg R) E s := by
  have e1 : i + ((0 : Nat) : Int) * k = i := by simp
  have e2 : (n : Int) - ((0 : Nat) : Int) = Builtin.Range.rangeSize i j k := by rw [c3]; simp
  cases c2 : Builtin.Range.small i j k with
  | true =>
    refine wpAny_pyIter_range hr c2 ?_
    refine pi_one (tk := s.toks) I1 _ (turn_rangeC _ i k n) ?_ q
    show IsRangeIter _ _ (i + ((0 : Nat) : Int) * k) ((n : Int) - ((0 : Nat) : Int)) k
    rw [e1, e2]
    exact Heap.get?_push_size _ rfl
  | false =>
    refine wpAny_pyIter_longrange hr c2 ?_
    refine pi_one (tk := s.toks) I1 _ (turn_longC _ i k n) ?_ q
    show IsLongIter _ _ (i + ((0 : Nat) : Int) * k) ((n : Int) - ((0 : Nat) : Int)) k
    rw [e1, e2]
    exact Heap.get?_push_size _ rfl
theorem cr_range3 : CallR X (.type "range") (fun vs H Q => ∃ i j c n, vs = [.int i, .int j, .int c] ∧ RgW i j c n ∧ ∀ p, H p = none → Q (.ref p) (upd H p (RgO p i j c))) := by
  intro pins s σ H vs us Q I r h
  obtain ⟨i, j, c, n, rfl, ⟨c0, c1, c3⟩, q⟩ := h
  cases r with
  | cons r rr =>
    cases rr with
    | cons r' rr =>
      cases rr with
      | cons r'' rr =>
        cases rr
        obtain ⟨t, rfl⟩ := r
        obtain ⟨t', rfl⟩ := r'
        obtain ⟨t'', rfl⟩ := r''
        refine call_range_3 c0 ?_ (.inl (PyProof.noPylong_small c1))
        refine ⟨.ref s.heap.objs.size, upd H s.heap.objs.size (RgO s.heap.objs.size i j c), I.laid (t' := s.toks) (fun b o e => Heap.get?_push_of_some _ e) (Nat.le_refl _) ?_, rfl, q _ (I.hok.fresh (Nat.le_refl _))⟩
        exact ⟨⟨t, t', t'', Heap.get?_push_size _ rfl⟩, ⟨_, Heap.get?_push_size _ rfl⟩, fun h1 h2 ⟨a, b, d, e⟩ k => ⟨a, b, d, k _ e⟩⟩
def iRgV (te : TE) : TI := fun σ H R => te σ H fun x H1 => ∃ p i j c n, x = .ref p ∧ H1 p = some (RgO p i j c) ∧ RgW i j c n ∧ R (Itc i c n) H1
theorem pi_rgV {tg e : Expr} {te : TE} (he : PE X e te) : PI X tg e (iRgV te) := by
  refine ⟨fun pins s σ H R I h => ?_⟩
  refine thn (he.run pins s σ H _ I h) fun v s1 ⟨x, H1, I1, r1, q1⟩ => ?_
  obtain ⟨p, i, j, k, n, rfl, hp, ⟨c0, c1, c3⟩, q⟩ := q1
  cases r1
  obtain ⟨⟨t, t', t'', hr⟩, _⟩ := I1.hok p _ hp
  exact it_range I1 hr c3 q
/-- range(a, b), whatever the ends -/
def iRng2W (ta : TA) : TI := fun σ H R => ta σ H fun vs H1 => ∃ (i j : Int) (n : Nat), vs = [.int i, .int j] ∧ Builtin.Range.rangeSize i j 1 = n ∧ R (Itc i 1 n) H1
theorem pi_range2W {tg a b : Expr} {ta : TA} {p pos : Pos} (hg : Gl X "range") (hm : X.mg "range" = none) (ha : PA X [a, b] ta) (hs : starEach [a, b] X.env = [(false, eval a X.env), (false, eval b X.env)] := by rfl) (hs2 : starEach [b] X.env = [(false, eval b X.env)] := by rfl) :
    PI X tg (.Call (.Name "range" p) [a, b] [] pos) (iRng2W ta) := by
  refine ⟨fun pins s σ H R I h => ?_⟩
  refine Call_ (ld_blt I hg hm boot_range (PyProof.Rows.callWith_type1 (thn (ha.run pos pins s σ H _ I h) fun us s1 ⟨vs, H1, I1, r1, q1⟩ => ?_) (by rw [hs, hs2]) (by rw [hs2]; rfl)))
  obtain ⟨i, j, n, e, c3, q⟩ := q1
  subst e
  cases r1 with
  | cons r rr =>
    cases rr with
    | cons r' rr =>
      cases rr
      obtain ⟨t, rfl⟩ := r
      obtain ⟨t', rfl⟩ := r'
      refine call_range_2 ?_
      refine it_range (I1.kept fun b o e => Heap.get?_push_of_some _ e) (IsRange.new ..) c3 q
end
end Cf
/-! Days: lists of ints in the heap, places, whiles. -/
namespace Cf
open PySem PySem.Spec PyProof.Rows L2
/-- a list of ints at a -/
abbrev LI (K : PySem.W.Frag) (H : Hp) (a : Addr) (l : List Int) : Prop := SqL K H a (l.map V.int)
theorem while_d {c : TT} {tb : TS} {D : Ends} {σ : L2.St} {H : Hp} (Pv : L2.St → Hp → Prop) (μ : L2.St → Hp → Nat) (h0 : Pv σ H)
    (hs : ∀ σ H, Pv σ H → c σ H fun b H1 => if b = true then ∃ N : L2.St → Hp → Prop, (∀ σ' H', N σ' H' → ∃ m', m' < μ σ H ∧ (m' = μ σ' H' ∧ Pv σ' H')) ∧ tb { D with nx := N, ct := N, bk := D.nx } σ H1 else D.nx σ H1) : tWhile c tb D σ H :=
  ⟨fun m σ H => m = μ σ H ∧ Pv σ H, ⟨_, rfl, h0⟩, by rintro m σ H ⟨rfl, p⟩; exact hs σ H p⟩
/-- how many of the days are before a bound -/
def cnt (l : List Int) (b : Int) : Nat := (l.filter fun d => decide (d < b)).length
theorem cnt_le (l : List Int) (b : Int) : cnt l b ≤ l.length := List.length_filter_le _ _
theorem cnt_iff : ∀ {l : List Int} {b : Int} {i : Nat}, Asc l → i < l.length → (l.getD i 0 < b ↔ i < cnt l b)
  | [], b, i, _, h => absurd h (Nat.not_lt_zero _)
  | x :: l, b, i, A, h => by
    rw [Asc, List.pairwise_cons] at A
    by_cases c : x < b
    · have e : cnt (x :: l) b = cnt l b + 1 := by unfold cnt; rw [List.filter_cons, if_pos (decide_eq_true c)]; rfl
      rw [e]
      cases i with
      | zero => exact ⟨fun _ => Nat.succ_pos _, fun _ => c⟩
      | succ i =>
        rw [List.length_cons] at h
        have := cnt_iff (b := b) A.2 (show i < l.length by omega)
        rw [List.getD_cons_succ, this]
        omega
    · have e : cnt (x :: l) b = 0 := by
        unfold cnt
        rw [List.length_eq_zero_iff, List.filter_eq_nil_iff]
        intro y hy
        rcases List.mem_cons.mp hy with rfl | hy
        · simpa using c
        · have := A.1 y hy
          simp; omega
      rw [e]
      constructor
      · intro q
        cases i with
        | zero => exact absurd q c
        | succ i =>
          rw [List.length_cons] at h
          rw [List.getD_cons_succ] at q
          have := A.1 _ (getD_mem (show i < l.length by omega))
          omega
      · intro q; exact absurd q (Nat.not_lt_zero _)
theorem take_cnt {l : List Int} (A : Asc l) (b : Int) : l.take (cnt l b) = l.filter fun d => decide (d < b) := by
  refine asc_ext (A.sublist (List.take_sublist _ _)) (List.Pairwise.filter _ A) fun d => ?_
  rw [List.mem_filter]
  constructor
  · intro m
    obtain ⟨i, hi, e⟩ := mem_getD m
    rw [List.length_take] at hi
    rw [getD_take (by omega)] at e
    refine ⟨List.mem_of_mem_take m, decide_eq_true ?_⟩
    rw [← e, cnt_iff A (by omega)]; omega
  · rintro ⟨m, q⟩
    obtain ⟨i, hi, e⟩ := mem_getD m
    have lt := (cnt_iff A hi).mp (by rw [e]; exact of_decide_eq_true q)
    have := getD_mem (l := l.take (cnt l b)) (i := i) (by rw [List.length_take]; omega)
    rw [getD_take lt, e] at this
    exact this
theorem drop_cnt {l : List Int} (A : Asc l) (b : Int) : l.drop (cnt l b) = l.filter fun d => decide (b ≤ d) := by
  refine asc_ext (A.sublist (List.drop_sublist _ _)) (List.Pairwise.filter _ A) fun d => ?_
  rw [List.mem_filter]
  constructor
  · intro m
    obtain ⟨i, hi, e⟩ := mem_getD m
    rw [List.length_drop] at hi
    rw [getD_drop] at e
    refine ⟨List.mem_of_mem_drop m, decide_eq_true ?_⟩
    have := cnt_iff (b := b) A (show cnt l b + i < l.length by omega)
    omega
  · rintro ⟨m, q⟩
    obtain ⟨i, hi, e⟩ := mem_getD m
    have ge : cnt l b ≤ i := by
      rcases Nat.lt_or_ge i (cnt l b) with c | c
      · have := (cnt_iff A hi).mpr c
        have := of_decide_eq_true q
        omega
      · exact c
    have := getD_mem (l := l.drop (cnt l b)) (i := i - cnt l b) (by rw [List.length_drop]; omega)
    rw [getD_drop, show cnt l b + (i - cnt l b) = i by omega, e] at this
    exact this
theorem els_filter_lt (S : Int → Bool) {lo hi b : Int} (h : b ≤ hi) : (els S lo hi).filter (fun d => decide (d < b)) = els S lo b := by
  refine asc_ext (List.Pairwise.filter _ (asc_els _ _ _)) (asc_els _ _ _) fun d => ?_
  rw [List.mem_filter, mem_els, mem_els, decide_eq_true_iff]
  constructor
  · rintro ⟨⟨a, b⟩, c⟩; exact ⟨⟨a.1, c⟩, b⟩
  · rintro ⟨a, b⟩; exact ⟨⟨⟨a.1, by omega⟩, b⟩, a.2⟩
theorem els_filter_ge (S : Int → Bool) {lo hi b : Int} (h : lo ≤ b) : (els S lo hi).filter (fun d => decide (b ≤ d)) = els S b hi := by
  refine asc_ext (List.Pairwise.filter _ (asc_els _ _ _)) (asc_els _ _ _) fun d => ?_
  rw [List.mem_filter, mem_els, mem_els, decide_eq_true_iff]
  constructor
  · rintro ⟨⟨a, b⟩, c⟩; exact ⟨⟨c, a.2⟩, b⟩
  · rintro ⟨a, b⟩; exact ⟨⟨⟨by omega, a.2⟩, b⟩, a.1⟩
/-! ### items by index -/
theorem atI_int {l : List Int} {i : Int} (h0 : 0 ≤ i) (h1 : i < l.length) : atI (l.map V.int) i = some (V.int (l.getD i.toNat 0)) := by
  have e : (l.map V.int)[i.toNat]? = some (V.int (l.getD i.toNat 0)) := by
    rw [List.getElem?_map, List.getD_eq_getElem?_getD, List.getElem?_eq_getElem (by omega)]; rfl
  have := atI_nat e
  rwa [Int.toNat_of_nonneg h0] at this
theorem atI_neg {l : List Int} {i : Int} (h0 : i < 0) (h1 : -(l.length : Int) ≤ i) : atI (l.map V.int) i = some (V.int (l.getD (l.length - (-i).toNat) 0)) := by
  unfold atI
  have e : ixN (l.map V.int).length i = some (l.length - (-i).toNat) := by
    unfold ixN
    rw [List.length_map, if_neg (by omega), if_pos (by omega)]
    congr 1
    omega
  rw [e]
  show (l.map V.int)[l.length - (-i).toNat]? = _
  rw [List.getElem?_map, List.getD_eq_getElem?_getD, List.getElem?_eq_getElem (by omega)]
  rfl
theorem cut_to {l : List Int} {k : Int} (h0 : 0 ≤ k) : cutV (l.map V.int) none (some k) = (l.take k.toNat).map V.int := by
  unfold cutV
  have e : HT.sIx (l.map V.int).length (l.map V.int).length (some k) = min k.toNat l.length := by
    have := HT.sIx_nat (l.map V.int).length (l.map V.int).length k.toNat
    rw [Int.toNat_of_nonneg h0] at this
    rw [this, List.length_map]
  rw [HT.sIx_none, e, List.drop_zero, Nat.sub_zero, ← List.map_take]
  congr 1
  rcases Nat.le_total k.toNat l.length with c | c
  · rw [Nat.min_eq_left c]
  · rw [Nat.min_eq_right c, List.take_length, List.take_of_length_le c]
theorem cut_from {l : List Int} {k : Int} (h0 : 0 ≤ k) : cutV (l.map V.int) (some k) none = (l.drop k.toNat).map V.int := by
  unfold cutV
  have e : HT.sIx (l.map V.int).length 0 (some k) = min k.toNat l.length := by
    have := HT.sIx_nat (l.map V.int).length 0 k.toNat
    rw [Int.toNat_of_nonneg h0] at this
    rw [this, List.length_map]
  rw [HT.sIx_none, e, List.length_map, ← List.map_drop, List.take_of_length_le (by rw [List.length_map, List.length_drop]; omega)]
  congr 1
  rcases Nat.le_total k.toNat l.length with c | c
  · rw [Nat.min_eq_left c]
  · rw [Nat.min_eq_right c, List.drop_length, List.drop_of_length_le c]
theorem cut_mid {l : List Int} {j k : Int} (h0 : 0 ≤ j) (h1 : j ≤ k) (h2 : k ≤ l.length) : cutV (l.map V.int) (some j) (some k) = ((l.take k.toNat).drop j.toNat).map V.int := by
  unfold cutV
  have e1 : HT.sIx (l.map V.int).length 0 (some j) = j.toNat := by
    have := HT.sIx_nat (l.map V.int).length 0 j.toNat
    rw [Int.toNat_of_nonneg h0] at this
    rw [this, List.length_map]; omega
  have e2 : HT.sIx (l.map V.int).length (l.map V.int).length (some k) = k.toNat := by
    have := HT.sIx_nat (l.map V.int).length (l.map V.int).length k.toNat
    rw [Int.toNat_of_nonneg (by omega)] at this
    rw [this, List.length_map]; omega
  rw [e1, e2, ← List.map_drop, ← List.map_take, List.drop_take]
/-! ### lists of ints compared -/
def pdL (l : List Int) : PyData := .list (l.map PyData.int)
theorem dpAll_ints {K : PySem.W.Frag} {H : Hp} : ∀ l : List Int, DpAll K H (l.map V.int) (l.map PyData.int)
  | [] => .nil
  | x :: l => .cons (.int x) (dpAll_ints l)
theorem dpL {K : PySem.W.Frag} {H : Hp} {a : Addr} {l : List Int} (h : LI K H a l) : Dp K H (.ref a) (pdL l) := .lst h (dpAll_ints l)
theorem eqvAll_ints : ∀ a b : List Int, PyData.eqvAll (a.map PyData.int) (b.map PyData.int) = decide (a = b)
  | [], [] => rfl
  | [], _ :: _ => rfl
  | _ :: _, [] => rfl
  | x :: a, y :: b => by
    show (PyData.eqv (.int x) (.int y) && PyData.eqvAll (a.map PyData.int) (b.map PyData.int)) = _
    rw [eqvAll_ints a b]
    have e : PyData.eqv (.int x) (.int y) = decide (x = y) := by simp [PyData.eqv]; rfl
    rw [e, Bool.eq_iff_iff]
    simp
theorem eqvL (a b : List Int) : PyData.eqv (pdL a) (pdL b) = decide (a = b) := by
  unfold pdL
  rw [PyData.eqv]
  exact eqvAll_ints a b
theorem canAll_ints : ∀ l : List Int, PyData.canLayAll0 (l.map PyData.int) = true
  | [] => rfl
  | x :: l => by
    show (PyData.canLay0 (.int x) && PyData.canLayAll0 (l.map PyData.int)) = true
    rw [canAll_ints l]
    rfl
theorem depthAll_ints : ∀ l : List Int, PyData.depthAll (l.map PyData.int) ≤ 1
  | [] => by decide
  | x :: l => by
    have h := depthAll_ints l
    show max (PyData.depth (.int x)) (PyData.depthAll (l.map PyData.int)) ≤ 1
    have : PyData.depth (.int x) ≤ 1 := by simp [PyData.depth]
    omega
theorem shapedL (l : List Int) : SeqAt.shaped (pdL l) = true := by
  unfold SeqAt.shaped pdL
  rw [Bool.and_eq_true]
  refine ⟨?_, decide_eq_true ?_⟩
  · rw [PyData.canLay0]; exact canAll_ints l
  · rw [PyData.depth]; have := depthAll_ints l; omega
/-! ### one more item of a list that grows -/
theorem acc_step {H1 H4 : Hp} {D : Addr} {l l' : List V} {y : V} (s : Same H1 H4) (hD : H1 D = none) (h : H4 D = some (.lst l)) (hz : l.length < sizeLine) (e : l ++ [y] = l') :
    ∃ acc, H4 D = some (.lst acc) ∧ acc.length < sizeLine ∧ (Same H1 (upd H4 D (.lst (acc ++ [y]))) ∧ upd H4 D (.lst (acc ++ [y])) D = some (.lst l')) :=
  ⟨l, h, hz, s.wr hD, by rw [upd_same, e]⟩
theorem take_map_succ {l : List Int} {i : Nat} {z : Int} {f : Int → V} (h : l[i]? = some z) : (l.take i).map f ++ [f z] = (l.take (i + 1)).map f := by
  rw [List.take_succ, h]
  simp
theorem LI.new {K : PySem.W.Frag} {H : Hp} {p : Addr} {l : List Int} (h : H p = some (.lst (l.map V.int))) : LI K H p l := SqL.of h
theorem bool_dec {p : Prop} [Decidable p] {b : Bool} (h : b = true ↔ p) : b = decide p := by
  cases b <;> simp_all
theorem mod_z (a b : Nat) : decide (V.int ((a : Int) % (b : Int)) = V.int 0) = decide (a % b = 0) := by
  rw [dec_int, Bool.eq_iff_iff, beq_iff_eq, decide_eq_true_iff]
  omega
/-- the empty cycle: a finite set -/
theorem start_nil {S : Int → Bool} {s : Int} (F : Fr S s 1) (hc : els S s (s + 1) = []) {s' : Int} (hs : (els S 0 s = [] ∧ s' = 0) ∨ (els S 0 s ≠ [] ∧ s' = (els S 0 s).getD ((els S 0 s).length - 1) 0 + 1)) :
    (Fr S s' 1 ∧ ∀ s'', Fr S s'' 1 → s' ≤ s'') ∧ s' ≤ s ∧ els S 0 s = els S 0 s' ∧ els S s' (s' + 1) = [] := by
  have s0 := F.s0
  have off : ∀ d, s ≤ d → S d = false := fun d hd => by
    rw [← F.mod hd, Int.emod_one, Int.add_zero]
    cases e : S s with
    | false => rfl
    | true =>
      have : s ∈ els S s (s + 1) := mem_els.mpr ⟨⟨by omega, by omega⟩, e⟩
      rw [hc] at this; cases this
  have A := asc_els S 0 s
  have key : 0 ≤ s' ∧ s' ≤ s ∧ (∀ d, s' ≤ d → S d = false) ∧ (0 < s' → S (s' - 1) = true) := by
    rcases hs with ⟨e, rfl⟩ | ⟨e, es⟩
    · refine ⟨by omega, s0, fun d hd => ?_, fun h => absurd h (by omega)⟩
      by_cases c : s ≤ d
      · exact off d c
      · cases x : S d with
        | false => rfl
        | true =>
          have : d ∈ els S 0 s := mem_els.mpr ⟨⟨hd, by omega⟩, x⟩
          rw [e] at this; cases this
    · have pos : 0 < (els S 0 s).length := List.length_pos_iff.mpr e
      have m := mem_els.mp (getD_mem (l := els S 0 s) (i := (els S 0 s).length - 1) (by omega))
      refine ⟨by omega, by omega, fun d hd => ?_, fun _ => by rw [es, Int.add_sub_cancel]; exact m.2⟩
      by_cases c : s ≤ d
      · exact off d c
      · cases x : S d with
        | false => rfl
        | true =>
          obtain ⟨i, hi, ei⟩ := mem_getD (mem_els.mpr ⟨⟨by omega, by omega⟩, x⟩ : d ∈ els S 0 s)
          have := asc_le A (show i ≤ (els S 0 s).length - 1 by omega) (by omega)
          omega
  obtain ⟨k0, k1, k2, k3⟩ := key
  refine ⟨⟨⟨k0, by omega, fun d hd => by rw [k2 _ (by omega), k2 _ hd]⟩, fun s'' G => ?_⟩, k1, ?_, ?_⟩
  · have g0 := G.s0
    rcases Int.lt_or_le s'' s' with c | c
    · exfalso
      have h1 := k3 (by omega)
      have h2 := G.per (s' - 1) (by omega)
      rw [Int.sub_add_cancel, k2 s' (Int.le_refl _), h1] at h2
      cases h2
    · exact c
  · rw [els_cut S k0 k1]
    have : els S s' s = [] := by
      refine List.eq_nil_iff_forall_not_mem.mpr fun d hd => ?_
      have m := mem_els.mp hd
      rw [k2 d m.1.1] at m
      exact Bool.noConfusion m.2
    rw [this, List.append_nil]
  · refine List.eq_nil_iff_forall_not_mem.mpr fun d hd => ?_
    have m := mem_els.mp hd
    rw [k2 d m.1.1] at m
    exact Bool.noConfusion m.2
theorem szl {n : Nat} (h : n ≤ 8000000) : n < sizeLine := by rw [sizeLine_eq]; omega
theorem szle {n : Nat} (h : n ≤ 8000000) : n ≤ sizeLine := Nat.le_of_lt (szl h)
theorem cnt_mono (l : List Int) {a b : Int} (h : a ≤ b) : cnt l a ≤ cnt l b := by
  unfold cnt
  induction l with
  | nil => exact Nat.le_refl _
  | cons x l ih =>
    rw [List.filter_cons, List.filter_cons]
    by_cases c : x < a
    · rw [if_pos (decide_eq_true c), if_pos (decide_eq_true (show x < b by omega)), List.length_cons, List.length_cons]; omega
    · rw [if_neg (by simpa using c)]
      split
      · rw [List.length_cons]; omega
      · exact ih
theorem filter_cnt (l : List Int) {a b : Int} (h : a ≤ b) : cnt (l.filter fun d => decide (d < b)) a = cnt l a := by
  unfold cnt
  rw [List.filter_filter]
  congr 1
  refine List.filter_congr fun d _ => ?_
  rw [← Bool.decide_and]
  refine decide_eq_decide.mpr ?_
  omega
theorem drop_sub {l : List Int} (A : Asc l) {a b : Int} (h : a ≤ b) : (l.filter fun d => decide (d < b)).drop (cnt l a) = (l.filter fun d => decide (d < b)).filter fun d => decide (a ≤ d) := by
  rw [← filter_cnt l h]
  exact drop_cnt (List.Pairwise.filter _ A) a
theorem rk_head {S : Int → Bool} {s p day : Int} (F : Fr S s p) (h : day ≤ s) : Rk S s p day (cnt (els S 0 s) day) := by
  have A := asc_els S 0 s
  have cl := cnt_le (els S 0 s) day
  refine ⟨fun i hi => ⟨.inl (by omega), ?_⟩, fun i hi v => ?_⟩
  · unfold dAt
    rw [if_pos (by omega)]
    exact (cnt_iff A (by omega)).mpr hi
  · unfold dAt
    by_cases c : i < (els S 0 s).length
    · rw [if_pos c]
      have := cnt_iff (b := day) A c
      omega
    · rw [if_neg c]
      have hc := v.resolve_left c
      have z := cdy_zero F hc
      have l := cdy_le F hc (show 0 ≤ ((i - (els S 0 s).length : Nat) : Int) by omega)
      omega
theorem rk_tail {S : Int → Bool} {s p day : Int} (F : Fr S s p) (h : s < day) :
    Rk S s p day ((els S 0 s).length + (((day - s) / p).toNat * (els S s (s + p)).length + cnt (els S s (s + p)) (s + (day - s) % p))) := by
  have p1 := F.p1
  have A := asc_els S s (s + p)
  have M := fun k (hk : k < (els S s (s + p)).length) => (mem_els.mp (getD_mem hk)).1
  have m0 := Int.emod_nonneg (day - s) (show p ≠ 0 by omega)
  have m1 := Int.emod_lt_of_pos (day - s) (show 0 < p by omega)
  have dm := Int.mul_ediv_add_emod (day - s) p
  have t0 : 0 ≤ (day - s) / p := Int.ediv_nonneg (by omega) (by omega)
  generalize hT : ((day - s) / p).toNat = T
  have eT : (day - s) / p = (T : Int) := by omega
  rw [eT] at dm
  generalize hr : (day - s) % p = r at *
  have cl := cnt_le (els S s (s + p)) (s + r)
  -- a day of the cycle by its turn and place
  have at_ : ∀ (hc : els S s (s + p) ≠ []) (j : Nat), cdy p (els S s (s + p)) (j : Int) = (els S s (s + p)).getD (j % (els S s (s + p)).length) 0 + ((j / (els S s (s + p)).length : Nat) : Int) * p := fun hc j => by
    unfold cdy
    rw [← Int.natCast_emod, Int.toNat_natCast, ← Int.natCast_ediv]
  have key : ∀ (hc : els S s (s + p) ≠ []) (j : Nat), cdy p (els S s (s + p)) (j : Int) < day ↔ j < T * (els S s (s + p)).length + cnt (els S s (s + p)) (s + r) := fun hc j => by
    have n0 := cyc_pos F hc
    have jm := Nat.mod_lt j n0
    have jd := Nat.div_add_mod j (els S s (s + p)).length
    have mm := M _ jm
    rw [at_ hc j]
    have cI := cnt_iff (b := s + r) A jm
    rcases Nat.lt_trichotomy (j / (els S s (s + p)).length) T with q | q | q
    · have a1 : ((j / (els S s (s + p)).length : Nat) : Int) * p + p ≤ p * T := by
        have : (((j / (els S s (s + p)).length : Nat) : Int) + 1) * p ≤ (T : Int) * p := Int.mul_le_mul_of_nonneg_right (by omega) (by omega)
        rw [Int.add_mul, Int.one_mul] at this
        rw [Int.mul_comm p]
        exact this
      have a2 : (j / (els S s (s + p)).length + 1) * (els S s (s + p)).length ≤ T * (els S s (s + p)).length := Nat.mul_le_mul_right _ q
      rw [Nat.add_mul, Nat.mul_comm (j / _)] at a2
      omega
    · rw [q] at jd ⊢
      rw [Int.mul_comm (T : Int) p]
      rw [Nat.mul_comm T]
      omega
    · have a1 : p * T + p ≤ ((j / (els S s (s + p)).length : Nat) : Int) * p := by
        have : ((T : Int) + 1) * p ≤ ((j / (els S s (s + p)).length : Nat) : Int) * p := Int.mul_le_mul_of_nonneg_right (by omega) (by omega)
        rw [Int.add_mul, Int.one_mul] at this
        rw [Int.mul_comm p]
        exact this
      have a2 : (T + 1) * (els S s (s + p)).length ≤ (j / (els S s (s + p)).length) * (els S s (s + p)).length := Nat.mul_le_mul_right _ q
      rw [Nat.add_mul, Nat.mul_comm (j / _)] at a2
      omega
  refine ⟨fun i hi => ?_, fun i hi v => ?_⟩
  · by_cases c : i < (els S 0 s).length
    · refine ⟨.inl c, ?_⟩
      unfold dAt
      rw [if_pos c]
      have := (mem_els.mp (getD_mem c)).1.2
      omega
    · have hc : els S s (s + p) ≠ [] := fun e => by rw [e] at hi; simp [cnt] at hi; omega
      refine ⟨.inr hc, ?_⟩
      unfold dAt
      rw [if_neg c]
      exact (key hc _).mpr (by omega)
  · have c : ¬ i < (els S 0 s).length := by omega
    have hc := v.resolve_left c
    unfold dAt
    rw [if_neg c]
    have := key hc (i - (els S 0 s).length)
    omega
end Cf
/-! Own layer: dicts whose keys are tuples of numbers and truths. -/
namespace Cf
open PySem PySem.Spec PyProof.Rows L2
/-- an entry: the tuple at hand, the numbers that it holds (a truth as 0 or 1), the value -/
abbrev Ent := Addr × List Int × V
def nkey (k : List Int) : NestedKey := .tup (k.map .num)
theorem nums_inj : ∀ {a b : List Int}, a.map NestedKey.num = b.map NestedKey.num → a = b
  | [], [], _ => rfl
  | [], _ :: _, h => nomatch h
  | _ :: _, [], h => nomatch h
  | x :: a, y :: b, h => by
    rw [List.map_cons, List.map_cons] at h
    injection h with h1 h2
    injection h1 with h1
    rw [h1, nums_inj h2]
theorem nkey_inj {a b : List Int} (h : nkey a = nkey b) : a = b := by
  unfold nkey at h
  injection h with h
  exact nums_inj h
inductive NumV : V → Int → Prop
  | int (i : Int) : NumV (.int i) i
  | bl (b : Bool) : NumV (.bl b) (if b = true then 1 else 0)
/-- a tuple of numbers and truths -/
def KeyAt (H : Hp) (q : Addr) (k : List Int) : Prop := k.length ≤ 8 ∧ ∃ vs : List V, H q = some (.tup vs) ∧ Paired NumV vs k
theorem KeyAt.same {H H' : Hp} {q : Addr} {k : List Int} (h : KeyAt H q k) (e : Same H H') : KeyAt H' q k := ⟨h.1, h.2.choose, e _ _ h.2.choose_spec.1, h.2.choose_spec.2⟩
def EntRel (x : Ent) (y : NestedKey × Addr × Value) : Prop := y.1 = nkey x.2.1 ∧ y.2.1 = x.1 ∧ RelV x.2.2 y.2.2
def KObj (P : Program) (w : World) (h : Heap) (a : Addr) (xs : List Ent) : Prop :=
  ∃ (o : Obj) (es : Array DictEntry) (ep : Nat) (ys : List (NestedKey × Addr × Value)), h.get? a = some o ∧ o.ExactDict ∧ o.data = .dict es ep ∧ es.toList = ys.map (entryOfKey (nestedKind P w)) ∧ Paired EntRel xs ys
def KDo (P : Program) (w : World) (a : Addr) (xs : List Ent) : HO := .ext fun h => (a == sysModules) = false ∧ (xs.map fun x => x.2.1).Nodup ∧ xs.length ≤ sizeLine ∧ KObj P w h a xs
def KeysAt (H : Hp) (xs : List Ent) : Prop := ∀ x ∈ xs, KeyAt H x.1 x.2.1
theorem KeysAt.same {H H' : Hp} {xs : List Ent} (h : KeysAt H xs) (e : Same H H') : KeysAt H' xs := fun x hx => (h x hx).same e
section
variable {P : Program} {w : World} {H : Hp} {h : Heap} {a : Addr} {xs : List Ent}
theorem kdo_new (n : (a == sysModules) = false) (nd : (xs.map fun x => x.2.1).Nodup) (sz : xs.length ≤ sizeLine) (k : KObj P w h a xs) : ObjOk P w H h a (KDo P w a xs) := by
  refine ⟨⟨n, nd, sz, k⟩, ?_, ?_⟩
  · obtain ⟨o, _, _, _, e, _⟩ := k
    exact ⟨o, e⟩
  · rintro h1 h2 ⟨n, nd, sz, o, es, ep, ys, e, r⟩ k
    exact ⟨n, nd, sz, o, es, ep, ys, k _ e, r⟩
end
theorem num_nested {h : Heap} {v : V} {i : Int} {u : Value} (n : NumV v i) (r : RelV v u) : NestedIs h (.num i) u := by
  cases n with
  | int i =>
    obtain ⟨t, rfl⟩ := (show ∃ t, u = Value.int i t from r)
    exact .int i t
  | bl b =>
    cases (show u = Value.bool b from r)
    exact .bool rfl
theorem nested_all {h : Heap} : ∀ {vs : List V} {k : List Int} {us : List Value}, Paired NumV vs k → Vals vs us → NestedAll h (k.map .num) us
  | _, _, _, .nil, .nil => .nil
  | _, _, _, .cons n ns, .cons r rs => .cons (num_nested n r) (nested_all ns rs)
theorem depthAll_nums : ∀ k : List Int, NestedKey.depthAll (k.map .num) = 0
  | [] => NestedKey.depthAll.eq_1
  | i :: k => by rw [List.map_cons, NestedKey.depthAll.eq_2, depthAll_nums k]; rfl
theorem depth_nums (k : List Int) : NestedKey.depth (nkey k) ≤ 8 := by
  unfold nkey
  rw [NestedKey.depth.eq_4, depthAll_nums]
  decide
theorem paired_mem {α β : Type} {R : α → β → Prop} : ∀ {xs : List α} {ys : List β}, Paired R xs ys → ∀ y ∈ ys, ∃ x ∈ xs, R x y
  | _, _, .nil, y, h => nomatch h
  | _, _, .cons r rs, y, h => by
    rcases List.mem_cons.mp h with h | h
    · subst h; exact ⟨_, List.mem_cons_self, r⟩
    · obtain ⟨x, hx, q⟩ := paired_mem rs y h
      exact ⟨x, List.mem_cons_of_mem _ hx, q⟩
theorem ent_keys : ∀ {xs : List Ent} {ys : List (NestedKey × Addr × Value)}, Paired EntRel xs ys → ys.map (·.1) = xs.map fun x => nkey x.2.1
  | _, _, .nil => rfl
  | _, _, .cons r rs => by rw [List.map_cons, List.map_cons, ent_keys rs, r.1]
theorem nodup_keys {xs : List Ent} (h : (xs.map fun x => x.2.1).Nodup) : (xs.map fun x => nkey x.2.1).Nodup := by
  induction xs with
  | nil => exact List.nodup_nil
  | cons x xs ih =>
    rw [List.map_cons, List.nodup_cons] at h ⊢
    refine ⟨fun m => h.1 ?_, ih h.2⟩
    obtain ⟨y, hy, e⟩ := List.mem_map.mp m
    exact List.mem_map.mpr ⟨y, hy, nkey_inj e⟩
theorem paired_snoc {α β : Type} {R : α → β → Prop} : ∀ {xs : List α} {ys : List β} {x : α} {y : β}, Paired R xs ys → R x y → Paired R (xs ++ [x]) (ys ++ [y])
  | _, _, _, _, .nil, r => .cons r .nil
  | _, _, _, _, .cons a b, r => .cons a (paired_snoc b r)
/-- the value at a key -/
def valK (xs : List Ent) (k : List Int) : Option V := (xs.find? fun x => decide (x.2.1 = k)).map fun x => x.2.2
theorem ent_find : ∀ {xs : List Ent} {ys : List (NestedKey × Addr × Value)} {k : List Int}, Paired EntRel xs ys → (valK xs k = none ∧ atKey ys (nkey k) = none) ∨ ∃ z p, valK xs k = some z ∧ atKey ys (nkey k) = some p ∧ RelV z p.2
  | _, _, k, .nil => .inl ⟨rfl, rfl⟩
  | x :: xs, y :: ys, k, .cons r rs => by
    have ih := ent_find (k := k) rs
    unfold valK atKey at ih ⊢
    by_cases c : x.2.1 = k
    · have c2 : y.1 = nkey k := by rw [r.1, c]
      rw [List.find?_cons_of_pos (by simpa using c), List.find?_cons_of_pos (by simpa using c2)]
      exact .inr ⟨_, _, rfl, rfl, r.2.2⟩
    · have c2 : ¬ y.1 = nkey k := fun e => c (nkey_inj (by rw [← r.1, e]))
      rw [List.find?_cons_of_neg (by simpa using c), List.find?_cons_of_neg (by simpa using c2)]
      exact ih
theorem valK_none {xs : List Ent} {k : List Int} (h : k ∉ xs.map fun x => x.2.1) : valK xs k = none := by
  unfold valK
  rw [List.find?_eq_none.mpr]
  · rfl
  · intro x hx e
    exact h (List.mem_map.mpr ⟨x, hx, by simpa using e⟩)
section
variable {X : Cx} {pins : List (Addr × Obj)} {σ : L2.St} {H : Hp} {s : Shared}
theorem KeyAt.is (I : Inv X pins σ H s) {q : Addr} {k : List Int} (h : KeyAt H q k) : (nestedKind X.prog X.w).is s.heap (nkey k) q := by
  obtain ⟨_, vs, hq, n⟩ := h
  obtain ⟨its, rv, ⟨o, e1, e2, m, e3⟩, _⟩ := I.tuple (SqT.of hq)
  exact ⟨.tup e1 e2 e3 (nested_all n rv), depth_nums k⟩
theorem kdo_get (I : Inv X pins σ H s) {a : Addr} {xs : List Ent} (ha : H a = some (KDo X.prog X.w a xs)) (hk : KeysAt H xs) :
    (a == sysModules) = false ∧ (xs.map fun x => x.2.1).Nodup ∧ xs.length ≤ sizeLine ∧ ∃ ys, Paired EntRel xs ys ∧ Heap.DictOfH (nestedKind X.prog X.w) s.heap a ys := by
  obtain ⟨n, nd, sz, o, es, ep, ys, e1, e2, e3, e4, e5⟩ := (I.hok a _ ha).1
  refine ⟨n, nd, sz, ys, e5, o, es, ep, e1, e2, e3, e4, ?_, ?_⟩
  · intro y hy
    obtain ⟨x, hx, r1, r2, _⟩ := paired_mem e5 y hy
    rw [r1, r2]
    exact (hk x hx).is I
  · rw [ent_keys e5]
    exact nodup_keys nd

theorem k_dictSet {E : Value → Shared → Prop} {D q : Addr} {xs : List Ent} {k : List Int} {z : V} {r : Value} {Q : Unit → Shared → Prop} (hu : X.A.units + 8 < cLine) (I : Inv X pins σ H s) (hD : H D = some (KDo X.prog X.w D xs)) (hk : KeysAt H xs) (hz : xs.length < sizeLine) (ky : KeyAt H q k) (new : k ∉ xs.map fun x => x.2.1) (rv : RelV z r)
    (h : ∀ s', Inv X pins σ (upd H D (KDo X.prog X.w D (xs ++ [(q, k, z)]))) s' → Q () s') : wpAny (model X.prog X.w) X.A (dictSet D (.ref q) r) Q E s := by
  obtain ⟨n, nd, sz, ys, e5, dd⟩ := kdo_get I hD hk
  have none : atKey ys (nkey k) = none := by
    rcases ent_find (k := k) e5 with ⟨_, q⟩ | ⟨z, p, q, _⟩
    · exact q
    · rw [valK_none new] at q; cases q
  have st : storedH ys (nkey k) q r = ys ++ [(nkey k, q, r)] := by
    unfold storedH
    rw [none]
    rfl
  refine wpAny_dictSet_heap (knd := nestedKind X.prog X.w) hu (ky.is I) dd (fun h' dd' hs => h _ ?_) (by rw [← e5.length]; exact sz)
  rw [st] at dd'
  obtain ⟨o, es, ep, e1, e2, e3, e4, _⟩ := dd'
  refine d_write I (by rw [hD]; exact trivial) hs ⟨o, e1⟩ (kdo_new n ?_ ?_ ⟨o, es, ep, _, e1, e2, e3, e4, paired_snoc e5 ⟨rfl, rfl, rv⟩⟩)
  · rw [List.map_append, List.nodup_append]
    refine ⟨nd, by simp, ?_⟩
    intro a ha b hb
    simp only [List.map_cons, List.map_nil, List.mem_singleton] at hb
    subst hb
    intro e
    subst e
    exact new ha
  · rw [List.length_append, List.length_singleton]; omega
end
/-! ### d[k] -/
def rIxK (P : Program) (w : World) : R2 := fun x y H Q => ∃ (a : Addr) (xs : List Ent) (q : Addr) (k : List Int) (z : V), x = .ref a ∧ y = .ref q ∧ H a = some (KDo P w a xs) ∧ KeysAt H xs ∧ KeyAt H q k ∧ valK xs k = some z ∧ Q z H
theorem k_getItem {X : Cx} {pins : List (Addr × Obj)} {σ : L2.St} {H : Hp} {s : Shared} {a q : Addr} {xs : List Ent} {k : List Int} {z : V} {Q : Value → Shared → Prop} {E : Value → Shared → Prop} (hu : X.A.units + 10 < cLine) (I : Inv X pins σ H s) (ha : H a = some (KDo X.prog X.w a xs)) (hk : KeysAt H xs) (ky : KeyAt H q k) (hv : valK xs k = some z)
    (h : ∀ u s', Inv X pins σ H s' → RelV z u → Q u s') : wpAny (model X.prog X.w) X.A (getItem (.ref a) (.ref q)) Q E s := by
  obtain ⟨n, nd, sz, ys, e5, dd⟩ := kdo_get I ha hk
  rcases ent_find (k := k) e5 with ⟨w, _⟩ | ⟨z', p, w, w2, rz⟩
  · rw [w] at hv; cases hv
  · rw [w] at hv
    cases hv
    refine wpAny_getItem_heap (knd := nestedKind X.prog X.w) (show X.A.in1.units + 8 < cLine by show X.A.units + 1 + 8 < cLine; omega) (ky.is I) dd w2 (h _ _ ?_ rz)
    exact I.tok _
end Cf
/-! Own layer: {k: v for ..} with such keys, and d[k]. -/
namespace Cf
open PySem PySem.Spec PyProof.Rows L2
def tDcK (P : Program) (w : World) (wi : TI) (g : TG) (tt : TT) (tk tv : TE) (vs : List Nat) : TE := fun σ H Q =>
  wi σ H fun J H1 => ∀ D, H1 D = none → ∃ W : Nat → Nat → Hp → Prop, (∃ m, W 0 m (upd H1 D (KDo P w D []))) ∧ ∀ i m H, W i m H →
    (J.stop i H ∧ Q (.ref D) H) ∨ (J.go i H ∧ ∃ Nx : Hp → Prop, (∀ H', Nx H' → ∃ m', m' < m ∧ W (i + 1) m' H') ∧ ∀ x H', J.yld i H x H' →
      g x (wipe σ vs) H' fun σ2 H2 => wipe σ2 vs = wipe σ vs ∧ tt σ2 H2 fun b H3 => if b = true then tk σ2 H3 fun y H4 => tv σ2 H4 fun z H5 =>
        ∃ (xs : List Ent) (q : Addr) (k : List Int), y = .ref q ∧ H5 D = some (KDo P w D xs) ∧ KeysAt H5 xs ∧ xs.length < sizeLine ∧ KeyAt H5 q k ∧ (k ∉ xs.map fun x => x.2.1) ∧ Nx (upd H5 D (KDo P w D (xs ++ [(q, k, z)]))) else Nx H3)
theorem kdo_nil {P : Program} {w : World} {H : Hp} (h : Heap) (n : sysModules < h.objs.size) : ObjOk P w H (h.push { cls := .type "dict", dict := none, data := .dict #[] 0 }) h.objs.size (KDo P w h.objs.size []) := by
  obtain ⟨o, es, ep, e1, e2, e3, e4, _⟩ := Heap.DictOfH.new (knd := nestedKind P w) h
  exact kdo_new (beq_eq_false_iff_ne.mpr (Nat.ne_of_gt n)) List.nodup_nil (Nat.zero_le _) ⟨o, es, ep, [], e1, e2, e3, e4, .nil⟩
set_option maxHeartbeats 1000000 in
theorem pe_dcK {X : Cx} {kx vx tg iter : Expr} {ifs : List Expr} {scope : Scope} {own : List (Str × Nat)} {pos : Pos} {wi : TI} {g : TG} {tt : TT} {tk tv : TE} (hu : X.A.units + 8 < cLine) (hc : X.calm = true) (hN : X.N.Nodup) (hi : PI X tg iter wi) (ok : BlkOk X.N X.env.scope scope own)
    (hg : ∀ (s : Shared) (H : Hp) (C : Addr) (cl : List (Str × Addr)) (fp : List Addr), PG (X.blk s H scope (compEnvC scope cl C X.env) fp) tg g)
    (ht : ∀ (s : Shared) (H : Hp) (C : Addr) (cl : List (Str × Addr)) (fp : List Addr), PTs (X.blk s H scope (compEnvC scope cl C X.env) fp) ifs tt)
    (hk : ∀ (s : Shared) (H : Hp) (C : Addr) (cl : List (Str × Addr)) (fp : List Addr), PE (X.blk s H scope (compEnvC scope cl C X.env) fp) kx tk)
    (he : ∀ (s : Shared) (H : Hp) (C : Addr) (cl : List (Str × Addr)) (fp : List Addr), PE (X.blk s H scope (compEnvC scope cl C X.env) fp) vx tv)
    (hs : ∀ x, foldedSetIterable iter X.env x = pure x := by intro _; rfl) :
    PE X (.DictComp kx vx [⟨tg, iter, ifs, 0⟩] scope pos) (tDcK X.prog X.w wi g tt tk tv (own.map (·.2))) := by
  constructor
  intro pins s σ H Q I h
  rw [arm_eval_DictComp]
  refine wpAny_comprehension_free rfl hs (closure_ok fun y hy e => (ok.free y hy e).elim (fun k => I.ok.has y.1 (.inl k)) fun k => I.ok.has y.1 (.inr k)) ok.kind (fun y hy e => by rw [ok.uniq y hy, e]) (thn (hi.run pins s σ H _ I h) fun xv s1 hx => thn hx fun itv s2 h2 => ?_)
  obtain ⟨it, fp, tn, J, H2, rfl, I2, T, st2, f2, q⟩ := h2
  refine wpAny_newObj_type (newEnv_comp ?_) (by show #[].size ≤ sizeLine + 1; simp)
  have hDn := HOk.fresh I2.hok (Nat.le_refl s2.heap.objs.size)
  obtain ⟨W, ⟨m0, w0⟩, turn⟩ := q s2.heap.objs.size hDn
  have I3 : Inv X pins σ (upd H2 s2.heap.objs.size (KDo X.prog X.w s2.heap.objs.size [])) { s2 with heap := s2.heap.push { cls := .type "dict", dict := none, data := .dict #[] 0 } } :=
    I2.laid (fun b o e => Heap.get?_push_of_some _ e) (Nat.le_refl _) (kdo_nil s2.heap (Inv.big I2))
  generalize eS : ({ s2 with heap := s2.heap.push { cls := .type "dict", dict := none, data := .dict #[] 0 } } : Shared) = S3 at I3 ⊢
  have h3 : S3.heap = s2.heap.push { cls := .type "dict", dict := none, data := .dict #[] 0 } := by rw [← eS]
  have f3 : ∀ b ∈ fp, FpOk X pins (upd H2 s2.heap.objs.size (KDo X.prog X.w s2.heap.objs.size [])) b ∧ b < S3.heap.objs.size := fun b hb => by
    obtain ⟨o, e, _⟩ := T.obj 0 s2.heap st2 b hb
    have hlt := Heap.lt_size e
    refine ⟨⟨by rw [upd_ne (Nat.ne_of_lt hlt)]; exact (f2 b hb).1, (f2 b hb).2⟩, ?_⟩
    rw [h3, Heap.size_push]
    exact Nat.lt_succ_of_lt hlt
  have st3 := T.keep 0 s2.heap S3.heap st2 fun b _ o e => by rw [h3]; exact Heap.get?_push_of_some _ e
  have I4 := block_start I3 ok hN f3
  have pg := hg S3 (upd H2 s2.heap.objs.size (KDo X.prog X.w s2.heap.objs.size [])) S3.heap.objs.size (cellsFrom (S3.heap.objs.size + 1) scope.names (cloFrom X.env.cells scope.names [])) fp
  have pt := ht S3 (upd H2 s2.heap.objs.size (KDo X.prog X.w s2.heap.objs.size [])) S3.heap.objs.size (cellsFrom (S3.heap.objs.size + 1) scope.names (cloFrom X.env.cells scope.names [])) fp
  have pk := hk S3 (upd H2 s2.heap.objs.size (KDo X.prog X.w s2.heap.objs.size [])) S3.heap.objs.size (cellsFrom (S3.heap.objs.size + 1) scope.names (cloFrom X.env.cells scope.names [])) fp
  have pe := he S3 (upd H2 s2.heap.objs.size (KDo X.prog X.w s2.heap.objs.size [])) S3.heap.objs.size (cellsFrom (S3.heap.objs.size + 1) scope.names (cloFrom X.env.cells scope.names [])) fp
  generalize eH : upd H2 s2.heap.objs.size (KDo X.prog X.w s2.heap.objs.size []) = H3 at *
  have hH3 : H3 s2.heap.objs.size = some (KDo X.prog X.w s2.heap.objs.size []) := by rw [← eH, upd_same]
  generalize s2.heap.objs.size = D at *
  obtain ⟨CE, eCE⟩ : ∃ CE, CE = compEnvC scope (cellsFrom (S3.heap.objs.size + 1) scope.names (cloFrom X.env.cells scope.names [])) S3.heap.objs.size X.env := ⟨_, rfl⟩
  have cL : CE.locals = S3.heap.objs.size := by rw [eCE]; rfl
  show codeAny (model X.prog X.w) X.A (Code.compStart (.DictComp kx vx [⟨tg, iter, ifs, 0⟩] scope pos) 0 (.ref it) (.ref D) (compEnvC scope (cellsFrom (S3.heap.objs.size + 1) scope.names (cloFrom X.env.cells scope.names [])) S3.heap.objs.size X.env))
    (compPost (model X.prog X.w) X.A X.xe none (EP X pins σ Q) (.ref D) S3.heap.objs.size) _
  rw [← eCE] at I4 pg pt pk pe ⊢
  obtain ⟨S4, eS4⟩ : ∃ S4 : Shared, S4 = { heap := pushCells (S3.heap.push { cls := .type "dict", dict := none, data := .dict #[] 0 }) scope.names, gens := S3.gens, drawn := S3.drawn, toks := S3.toks, os := S3.os } := ⟨_, rfl⟩
  have nfp : ∀ b ∈ fp, H3 b = none := fun b hb => (f3 b hb).1.1
  have st4 := T.keep 0 S3.heap S4.heap st3 fun b _ o e => by rw [eS4]; exact pushCells_keeps scope.names _ b o (Heap.get?_push_of_some _ e)
  rw [← eS4] at I4 ⊢
  have stat : ∀ {σ' : L2.St} {H' : Hp} {s' : Shared}, Inv (X.blk S3 H3 scope CE fp) [] σ' H' s' → (∀ b ∈ fp, H' b = none) → ∀ b ∈ fp, FpOk (X.blk S3 H3 scope CE fp) [] H' b := fun I' hn b hb =>
    ⟨hn b hb, (I'.ok.exf b hb).1, I'.ok.exfs b hb, .inl hb, fun x c e => (I'.ok.exf b hb).2 x c e, fun p hp => absurd (show p ∈ [] from by simpa using hp) List.not_mem_nil⟩
  have loop := compLoop_anyD (prog := X.prog) (w := X.w) (A := X.A) (R := compPost (model X.prog X.w) X.A X.xe none (EP X pins σ Q) (.ref D) S3.heap.objs.size) (kx := kx) (vx := vx) (target := tg) (iter := iter) (ifs := ifs) (scope := scope) (pos := pos) (it := .ref it) (D := D) (env := CE)
    (fun n s' => ∃ i H', Inv (X.blk S3 H3 scope CE fp) [] (wipe σ (own.map (·.2))) H' s' ∧ tn i s'.heap ∧ (∀ b ∈ fp, H' b = none) ∧ W i n H') ?_ m0 (s := S4) ⟨0, H3, I4, st4, nfp, w0⟩
  · exact codeAny_compStart_dict loop (T.self X.A 0 S4 _ _ st4 loop)
  rintro n s5 ⟨i, H5, I5, st5, n5, w5⟩
  rcases turn i n H5 w5 with ⟨stop, qq⟩ | ⟨go, Nx, hNx, step⟩
  · have td := T.done (X.blk S3 H3 scope CE fp) rfl rfl rfl hc i [] s5 (wipe σ (own.map (·.2))) H5 (fun _ _ => False) I5 (stat I5 n5) st5 stop
    refine thnF td ?_
    rintro r s6 ⟨rfl, I6⟩
    have I7 := Inv.call' I3 I6.os I6.base I6.hok I6.bare fun b hb => ⟨(f3 b hb).1.2.2.2.1, (f3 b hb).1.2.1, (f3 b hb).1.2.2.2.2.1, (f3 b hb).1.2.2.2.2.2⟩
    have nC : H5 S3.heap.objs.size = none := by
      have z := I6.free
      rw [← cL]
      exact z
    obtain ⟨m, hn, _⟩ := I6.loc
    have hn2 : s6.heap.Ns S3.heap.objs.size m := by rw [← cL]; exact hn
    have f := Inv.fpOk I3 (Nat.le_refl S3.heap.objs.size) nC
    exact ⟨m, hn2, fun h'' sb => ⟨.ref D, H5, Inv.turned I7 (fun b o hb e => (sb.2 b hb).trans e) f.1 f.2.1 f.2.2.2.1 f.2.2.2.2.1 f.2.2.2.2.2, rfl, qq⟩⟩
  · have ti := T.item (X.blk S3 H3 scope CE fp) rfl rfl rfl hc i [] s5 (wipe σ (own.map (·.2))) H5 (fun _ _ => False) I5 (stat I5 n5) st5 go
    refine thnF ti ?_
    rintro r s6 ⟨u, rfl, h6⟩
    refine thnF h6 ?_
    rintro _ s7 ⟨x, H7, I7, r7, y7, st7, n7⟩
    have I7' := Inv.pinned I7 (stat I7 n7) (T.obj (i + 1) s7.heap st7)
    refine thnF (pg.run ([] ++ pinsAt fp s7.heap) s7 _ H7 x u _ I7' r7 (step x H7 y7)) ?_
    rintro _ s8 ⟨σ8, H8, I8, hw8, q8⟩
    refine thnF (pt.run ([] ++ pinsAt fp s7.heap) s8 σ8 H8 _ I8 q8) ?_
    rintro b s9 ⟨H9, I9, q9⟩
    have fin : ∀ {s' : Shared} {H' : Hp}, Inv (X.blk S3 H3 scope CE fp) ([] ++ pinsAt fp s7.heap) σ8 H' s' → Nx H' → ∃ m', m' < n ∧ ∃ i H', Inv (X.blk S3 H3 scope CE fp) [] (wipe σ (own.map (·.2))) H' s' ∧ tn i s'.heap ∧ (∀ b ∈ fp, H' b = none) ∧ W i m' H' := by
      intro s' H' I' nx
      obtain ⟨m', hm, w'⟩ := hNx H' nx
      have pin' : ∀ b ∈ fp, ∀ o, s7.heap.get? b = some o → s'.heap.get? b = some o ∧ H' b = none := fun b hb o e =>
        let z := I'.pin (b, o) (List.mem_append_right (X.blk S3 H3 scope CE fp).pn (List.mem_append_right [] (mem_pinsAt hb e)))
        ⟨z.1, z.2.1⟩
      have hl : (wipe σ (own.map (·.2))).length = σ8.length := by rw [← hw8, wipe_length]
      refine ⟨m', hm, i + 1, H', Inv.weak (Inv.unpinned I') hl fun j v e => (wipe_some (by rw [← hw8] at e; exact e)).1, T.keep (i + 1) s7.heap s'.heap st7 fun b hb o e => (pin' b hb o e).1, fun b hb => ?_, w'⟩
      obtain ⟨o, e, _⟩ := T.obj (i + 1) s7.heap st7 b hb
      exact (pin' b hb o e).2
    cases b with
    | false =>
      rw [if_neg (by decide)] at q9
      rw [if_neg (by decide)]
      exact fin I9 q9
    | true =>
      rw [if_pos rfl] at q9
      rw [if_pos rfl]
      refine thnF (pk.run ([] ++ pinsAt fp s7.heap) s9 σ8 H9 _ I9 q9) ?_
      rintro z s10 ⟨yk, H10, I10, r10, q10⟩
      refine thnF (pe.run ([] ++ pinsAt fp s7.heap) s10 σ8 H10 _ I10 q10) ?_
      rintro z2 s11 ⟨yv, H11, I11, r11, xs, qa, k, rfl, hD11, hks, hz11, ky, new, nx⟩
      cases r10
      exact k_dictSet (X := X.blk S3 H3 scope CE fp) hu I11 hD11 hks hz11 ky new r11 fun s12 I12 => fin I12 nx
/-- d[k] -/
theorem pe_dgetK {X : Cx} {o i : Expr} {pos : Pos} {td ty : TE} (hu : X.A.units + 10 < cLine) (ho : PE X o td) (hi : PE X i ty) (hs : NoSl i) : PE X (.Subscript o i pos) (tOp (rIxK X.prog X.w) td ty) := by
  constructor
  intro pins s σ H Q I h
  refine subD_of F.slot_dict_getitem.lookup hs (thn (ho.run pins s σ H _ I h) ?_)
  rintro u s1 ⟨x, H1, I1, rx, q1⟩
  refine thn (hi.run pins s1 σ H1 _ I1 q1) ?_
  rintro iv s2 ⟨y, H2, I2, ry, a, xs, q, k, z, rfl, rfl, ha, hk, ky, hv, qq⟩
  cases rx
  cases ry
  obtain ⟨_, _, _, ys, _, dd⟩ := kdo_get I2 ha hk
  exact ⟨dd.typeIs, k_getItem hu I2 ha hk ky hv fun w' s3 I3 rw' => ⟨z, H2, I3, rw', qq⟩⟩
/-- k in d -/
def rInK (P : Program) (w : World) : R2 := fun y x H Q => ∃ (a : Addr) (xs : List Ent) (q : Addr) (k : List Int), x = .ref a ∧ y = .ref q ∧ H a = some (KDo P w a xs) ∧ KeysAt H xs ∧ KeyAt H q k ∧ Q (.bl (valK xs k).isSome) H
theorem op_inK {X : Cx} (hu : X.A.units + 10 < cLine) : OpR X (compareOp .In) (rInK X.prog X.w) := by
  intro pins s σ H y x v u Q I ry rx h
  obtain ⟨a, xs, q, k, rfl, rfl, ha, hk, ky, qq⟩ := h
  cases rx
  cases ry
  obtain ⟨n, _, _, ys, e5, dd⟩ := kdo_get I ha hk
  refine in_keyed (knd := nestedKind X.prog X.w) (kvs := pairsH ys) (show X.A.in1.units + 8 < cLine by show X.A.units + 1 + 8 < cLine; omega) (ky.is I) n ⟨ys, dd, rfl⟩ ⟨.bl _, H, I.tok _, rfl, ?_⟩
  have e : (valueAt (pairsH ys) (nkey k)).isSome = (valK xs k).isSome := by
    have e2 : valueAt (pairsH ys) (nkey k) = (atKey ys (nkey k)).map fun p => p.2 := by
      unfold valueAt pairsH atKey
      rw [List.find?_map, Option.map_map, Option.map_map]
      rfl
    rw [e2]
    rcases ent_find (k := k) e5 with ⟨a1, a2⟩ | ⟨z, p, a1, a2, _⟩
    · rw [a1, a2]; rfl
    · rw [a1, a2]; rfl
  rw [e]
  exact qq
end Cf
/-! Own layer: kinds of years, yearly days. -/
namespace Cf
inductive Yd where
  | nth (m k w : Int) | last (m w : Int) | frm (m n w : Int) | unt (m n w : Int) | date (m n : Int) | day (n : Int)
deriving DecidableEq
def LeDec (m n : Int) : Prop := m < 12 ∨ (m = 12 ∧ n ≤ 25)
def GeJan (m n : Int) : Prop := 1 < m ∨ (m = 1 ∧ 7 ≤ n)
def MD (m n : Int) : Prop := 1 ≤ m ∧ m ≤ 12 ∧ 1 ≤ n ∧ n ≤ mlen m false
def WD (w : Int) : Prop := 0 ≤ w ∧ w ≤ 6
def Yd.Ok : Yd → Prop
  | .nth m k w => 1 ≤ m ∧ m ≤ 12 ∧ 1 ≤ k ∧ k ≤ 4 ∧ WD w
  | .last m w => 1 ≤ m ∧ m ≤ 12 ∧ WD w
  | .frm m n w => MD m n ∧ LeDec m n ∧ WD w
  | .unt m n w => MD m n ∧ GeJan m n ∧ WD w
  | .date m n => MD m n
  | .day n => 0 ≤ n ∧ n ≤ 364
def onAfter (n w f : Int) : Int := n + (w - f - n) % 7
def onBefore (n w f : Int) : Int := n - (f + n - w) % 7
def numIn : Yd → Int → Bool → Int
  | .nth m k w, f, l => onAfter (mst m l + 7 * (k - 1)) w f
  | .last m w, f, l => onBefore (mst m l + mlen m l - 1) w f
  | .frm m n w, f, l => onAfter (mst m l + n - 1) w f
  | .unt m n w, f, l => onBefore (mst m l + n - 1) w f
  | .date m n, _, l => mst m l + n - 1
  | .day n, _, _ => n
def k1 (y : Int) : Int := (ysOf y + 5) % 7
def dayIn (q : Yd) (y : Int) : Int := ysOf y + numIn q (k1 y) (leapB y)
theorem k1_bd (y : Int) : 0 ≤ k1 y ∧ k1 y < 7 := by unfold k1; omega
theorem ys_400 (y : Int) : ysOf (y + 400) = ysOf y + 146097 := by unfold ysOf lyb; omega
theorem leap_400 (y : Int) : leapB (y + 400) = leapB y := by
  have h1 : (y + 400) % 4 = y % 4 := by omega
  have h2 : (y + 400) % 100 = y % 100 := by omega
  have h3 : (y + 400) % 400 = y % 400 := by omega
  unfold leapB; rw [h1, h2, h3]
theorem k1_400 (y : Int) : k1 (y + 400) = k1 y := by unfold k1; rw [ys_400]; omega
theorem per_nat {α : Type} {f : Int → α} (h : ∀ y, f (y + 400) = f y) (y : Int) : ∀ n : Nat, f (y + 400 * (n : Int)) = f y
  | 0 => by simp
  | n + 1 => by
    have e : y + 400 * ((n + 1 : Nat) : Int) = (y + 400 * (n : Int)) + 400 := by omega
    rw [e, h, per_nat h y n]
theorem per_int {α : Type} {f : Int → α} (h : ∀ y, f (y + 400) = f y) (y z : Int) (e : (z - y) % 400 = 0) : f z = f y := by
  rcases Int.le_total y z with c | c
  · have := per_nat h y ((z - y) / 400).toNat
    rw [← this]; congr 1; omega
  · have := per_nat h z ((y - z) / 400).toNat
    rw [← this]; congr 1; omega
theorem all_kinds_nat : ∀ f : Fin 7, ∀ l : Bool, ∃ y : Fin 400, k1 (2000 + (y.val : Int)) = (f.val : Int) ∧ leapB (2000 + (y.val : Int)) = l := by decide +kernel
/-- every kind of year comes in 400 years from any year on -/
theorem kind_comes (y0 f : Int) (l : Bool) (h0 : 0 ≤ f) (h7 : f < 7) : ∃ y, y0 ≤ y ∧ y < y0 + 400 ∧ k1 y = f ∧ leapB y = l := by
  obtain ⟨y, e1, e2⟩ := all_kinds_nat ⟨f.toNat, by omega⟩ l
  refine ⟨y0 + (2000 + (y.val : Int) - y0) % 400, by omega, by omega, ?_, ?_⟩
  · rw [per_int k1_400 (2000 + (y.val : Int)) _ (by omega), e1]; simp; omega
  · rw [per_int leap_400 (2000 + (y.val : Int)) _ (by omega), e2]
/-- two yearly days differ in a year -/
def Apart (p q : Yd) (y : Int) : Prop := numIn p (k1 y) (leapB y) ≠ numIn q (k1 y) (leapB y)
instance (p q : Yd) (y : Int) : Decidable (Apart p q y) := inferInstanceAs (Decidable (_ ≠ _))
theorem apart_day (p q : Yd) (y : Int) : Apart p q y ↔ dayIn p y ≠ dayIn q y := by unfold Apart dayIn; omega
theorem apart_comm (p q : Yd) (y : Int) : Apart p q y ↔ Apart q p y := by unfold Apart; exact ne_comm
theorem apart_self (p : Yd) (y : Int) : ¬ Apart p p y := by unfold Apart; simp
theorem apart_400 (p q : Yd) (y : Int) : Apart p q (y + 400) = Apart p q y := by unfold Apart; rw [k1_400, leap_400]
/-- the least year at or above y with a difference, told by what is found in 400 years -/
structure Fst (p q : Yd) (y : Int) (r : Option Int) : Prop where
  yes : ∀ z, r = some z → y ≤ z ∧ z < y + 400 ∧ Apart p q z ∧ ∀ x, y ≤ x → x < z → ¬ Apart p q x
  no : r = none → ∀ x, y ≤ x → x < y + 400 → ¬ Apart p q x
theorem Fst.uniq {p q : Yd} {y : Int} {r s : Option Int} (a : Fst p q y r) (b : Fst p q y s) : r = s := by
  cases hr : r with
  | none =>
    cases hs : s with
    | none => rfl
    | some z => obtain ⟨h1, h2, h3, _⟩ := b.yes z hs; exact absurd h3 (a.no hr z h1 h2)
  | some x =>
    cases hs : s with
    | none => obtain ⟨h1, h2, h3, _⟩ := a.yes x hr; exact absurd h3 (b.no hs x h1 h2)
    | some z =>
      obtain ⟨a1, a2, a3, a4⟩ := a.yes x hr
      obtain ⟨b1, b2, b3, b4⟩ := b.yes z hs
      rcases Int.lt_trichotomy x z with c | c | c
      · exact absurd a3 (b4 x a1 c)
      · rw [c]
      · exact absurd b3 (a4 z b1 c)
theorem Fst.comm {p q : Yd} {y : Int} {r : Option Int} (a : Fst p q y r) : Fst q p y r :=
  ⟨fun z e => by obtain ⟨h1, h2, h3, h4⟩ := a.yes z e; exact ⟨h1, h2, (apart_comm _ _ _).mp h3, fun x x1 x2 k => h4 x x1 x2 ((apart_comm _ _ _).mp k)⟩,
   fun e x x1 x2 k => a.no e x x1 x2 ((apart_comm _ _ _).mp k)⟩
theorem Fst.self (p : Yd) (y : Int) : Fst p p y none := ⟨fun _ e => (nomatch e), fun _ x _ _ => apart_self p x⟩
theorem Fst.at {p q : Yd} {y z : Int} (a : Fst p q y (some z)) : Fst p q z (some z) := by
  obtain ⟨h1, h2, h3, h4⟩ := a.yes z rfl
  exact ⟨fun x e => by cases e; exact ⟨Int.le_refl _, by omega, h3, fun x x1 x2 => absurd x2 (by omega)⟩, fun e => (nomatch e)⟩
/-- the kinds of years, ascending -/
def kinds : List (Int × Bool) := [(0, false), (0, true), (1, false), (1, true), (2, false), (2, true), (3, false), (3, true), (4, false), (4, true), (5, false), (5, true), (6, false), (6, true)]
theorem mem_kinds {f : Int} (l : Bool) (h0 : 0 ≤ f) (h7 : f < 7) : (f, l) ∈ kinds := by
  have : f = 0 ∨ f = 1 ∨ f = 2 ∨ f = 3 ∨ f = 4 ∨ f = 5 ∨ f = 6 := by omega
  rcases this with h | h | h | h | h | h | h <;> subst h <;> cases l <;> decide
theorem kinds_mem {f : Int} {l : Bool} (h : (f, l) ∈ kinds) : 0 ≤ f ∧ f < 7 := by
  simp [kinds] at h; omega
/-- no difference for ever: the tables are alike -/
theorem tables_alike {p q : Yd} {y : Int} {r : Option Int} (a : Fst p q y r) : r = none ↔ ∀ k ∈ kinds, numIn p k.1 k.2 = numIn q k.1 k.2 := by
  constructor
  · intro e k hk
    obtain ⟨f, l⟩ := k
    obtain ⟨h0, h7⟩ := kinds_mem hk
    obtain ⟨x, x1, x2, ef, el⟩ := kind_comes y f l h0 h7
    have := a.no e x x1 x2
    unfold Apart at this
    rw [ef, el] at this
    exact Decidable.not_not.mp this
  · intro h
    cases e : r with
    | none => rfl
    | some z =>
      obtain ⟨_, _, h3, _⟩ := a.yes z e
      exact absurd (h (k1 z, leapB z) (mem_kinds _ (k1_bd z).1 (k1_bd z).2)) h3
/-! The law's way through the days. -/
def mdays (b : Int) (n : Nat) (w : Int) : List Int := ((List.range n).map fun i : Nat => b + i).filter fun d => decide ((d + 5) % 7 = w)
theorem mdays_succ (b : Int) (n : Nat) (w : Int) : mdays b (n + 1) w = mdays b n w ++ (if (b + n + 5) % 7 = w then [b + n] else []) := by
  unfold mdays
  rw [List.range_succ, List.map_append, List.filter_append]
  congr 1
  by_cases h : (b + n + 5) % 7 = w <;> simp [h]
/-- the first day at or above b with a weekday -/
def fstW (b w : Int) : Int := b + (w - (b + 5)) % 7
theorem mdays_eq (b w : Int) (hw : WD w) : ∀ n : Nat, mdays b n w = (List.range ((n + 6 - (fstW b w - b).toNat) / 7)).map fun i : Nat => fstW b w + 7 * i
  | 0 => by
    have h : (0 + 6 - (fstW b w - b).toNat) / 7 = 0 := by unfold fstW; omega
    rw [h]; rfl
  | n + 1 => by
    rw [mdays_succ, mdays_eq b w hw n]
    obtain ⟨w0, w6⟩ := hw
    have hf : 0 ≤ fstW b w - b ∧ fstW b w - b < 7 := by unfold fstW; omega
    have hm : (fstW b w + 5) % 7 = w := by unfold fstW; omega
    by_cases h : (b + n + 5) % 7 = w
    · rw [if_pos h]
      have e : (n + 1 + 6 - (fstW b w - b).toNat) / 7 = (n + 6 - (fstW b w - b).toNat) / 7 + 1 := by omega
      rw [e, List.range_succ, List.map_append]
      congr 1
      simp; omega
    · rw [if_neg h, List.append_nil]
      have e : (n + 1 + 6 - (fstW b w - b).toNat) / 7 = (n + 6 - (fstW b w - b).toNat) / 7 := by omega
      rw [e]
theorem mdays_get {b w : Int} (hw : WD w) {n : Nat} (hn : 28 ≤ n) {k : Nat} (hk : k < 4) : (mdays b n w)[k]? = some (fstW b w + 7 * k) := by
  rw [mdays_eq b w hw n, List.getElem?_map, List.getElem?_range (by unfold fstW; omega)]; rfl
theorem mdays_len {b w : Int} (hw : WD w) {n : Nat} (hn : 28 ≤ n) : 4 ≤ (mdays b n w).length := by
  rw [mdays_eq b w hw n]; simp; unfold fstW; omega
theorem mdays_last {b w : Int} (hw : WD w) {n : Nat} (hn : 28 ≤ n) : (mdays b n w)[(mdays b n w).length - 1]? = some (b + n - 1 - (b + n + 4 - w) % 7) := by
  have hl : (mdays b n w).length = (n + 6 - (fstW b w - b).toNat) / 7 := by rw [mdays_eq b w hw n]; simp
  rw [hl, mdays_eq b w hw n, List.getElem?_map, List.getElem?_range (by unfold fstW; omega)]
  obtain ⟨w0, w6⟩ := hw
  simp; unfold fstW; omega
theorem dayIn_nth (m k w y : Int) : dayIn (.nth m k w) y = ysOf y + (mst m (leapB y) + 7 * (k - 1) + (w - (ysOf y + 5) % 7 - (mst m (leapB y) + 7 * (k - 1))) % 7) := rfl
theorem dayIn_last (m w y : Int) : dayIn (.last m w) y = ysOf y + (mst m (leapB y) + mlen m (leapB y) - 1 - ((ysOf y + 5) % 7 + (mst m (leapB y) + mlen m (leapB y) - 1) - w) % 7) := rfl
theorem dayIn_frm (m n w y : Int) : dayIn (.frm m n w) y = ysOf y + (mst m (leapB y) + n - 1 + (w - (ysOf y + 5) % 7 - (mst m (leapB y) + n - 1)) % 7) := rfl
theorem dayIn_unt (m n w y : Int) : dayIn (.unt m n w) y = ysOf y + (mst m (leapB y) + n - 1 - ((ysOf y + 5) % 7 + (mst m (leapB y) + n - 1) - w) % 7) := rfl
theorem dayIn_date (m n y : Int) : dayIn (.date m n) y = ysOf y + (mst m (leapB y) + n - 1) := rfl
theorem dayIn_day (n y : Int) : dayIn (.day n) y = ysOf y + n := rfl
theorem nth_day {m k w y : Int} (h : (Yd.nth m k w).Ok) : fstW (ysOf y + mst m (leapB y)) w + 7 * (k - 1) = dayIn (.nth m k w) y := by
  rw [dayIn_nth]; unfold fstW; omega
theorem last_day {m w y : Int} : ysOf y + mst m (leapB y) + mlen m (leapB y) - 1 - (ysOf y + mst m (leapB y) + mlen m (leapB y) + 4 - w) % 7 = dayIn (.last m w) y := by
  rw [dayIn_last]; omega
theorem date_day {m n y : Int} : ysOf y + mst m (leapB y) + n - 1 = dayIn (.date m n) y := by rw [dayIn_date]; omega
/-- going forth to a weekday -/
theorem from_step {d w y m n : Int} (hw : WD w) (h1 : ysOf y + mst m (leapB y) + n - 1 ≤ d) (h2 : d ≤ dayIn (.frm m n w) y) (h3 : (d + 5) % 7 = w) : d = dayIn (.frm m n w) y := by
  obtain ⟨w0, w6⟩ := hw
  rw [dayIn_frm] at *; omega
theorem from_more {d w y m n : Int} (hw : WD w) (h1 : ysOf y + mst m (leapB y) + n - 1 ≤ d) (h2 : d ≤ dayIn (.frm m n w) y) (h3 : (d + 5) % 7 ≠ w) : d + 1 ≤ dayIn (.frm m n w) y := by
  obtain ⟨w0, w6⟩ := hw
  rw [dayIn_frm] at *; omega
theorem from_first {w y m n : Int} : ysOf y + mst m (leapB y) + n - 1 ≤ dayIn (.frm m n w) y ∧ dayIn (.frm m n w) y ≤ ysOf y + mst m (leapB y) + n - 1 + 6 := by
  rw [dayIn_frm]; omega
theorem until_step {d w y m n : Int} (hw : WD w) (h1 : d ≤ ysOf y + mst m (leapB y) + n - 1) (h2 : dayIn (.unt m n w) y ≤ d) (h3 : (d + 5) % 7 = w) : d = dayIn (.unt m n w) y := by
  obtain ⟨w0, w6⟩ := hw
  rw [dayIn_unt] at *; omega
theorem until_more {d w y m n : Int} (hw : WD w) (h1 : d ≤ ysOf y + mst m (leapB y) + n - 1) (h2 : dayIn (.unt m n w) y ≤ d) (h3 : (d + 5) % 7 ≠ w) : dayIn (.unt m n w) y ≤ d - 1 := by
  obtain ⟨w0, w6⟩ := hw
  rw [dayIn_unt] at *; omega
theorem until_first {w y m n : Int} : dayIn (.unt m n w) y ≤ ysOf y + mst m (leapB y) + n - 1 ∧ ysOf y + mst m (leapB y) + n - 1 - 6 ≤ dayIn (.unt m n w) y := by
  rw [dayIn_unt]; omega
end Cf
/-! Own layer: a target with a star: `word, *numbers = value`. -/
namespace Cf
open PySem PySem.Spec PyProof.Rows L2
theorem walks_shift {prog : Program} {w : World} {A : Around} {I : Addr} {fp wr : List Addr} {n : Nat} {Pv : Nat → Value → Prop} {St : Nat → Heap → Prop} (W : Walks prog w A I fp wr n Pv St) (k m : Nat) (hk : k + m = n) :
    Walks prog w A I fp wr m (fun i => Pv (k + i)) (fun i => St (k + i)) where
  sub := W.sub
  frame i h h' := W.frame (k + i) h h'
  item i s Q E hi hs hq := W.item (k + i) s Q E (by omega) hs hq
  done s Q E hs hq := W.done s Q E (by rw [← hk]; exact hs) hq
  self i s Q E hs hq := W.self (k + i) s Q E hs hq
theorem acc_drop {acc items : Array Value} {k m : Nat} (hk : k + m = items.size) (h : ItemsOf (fun i v => items[k + i]? = some v) acc m) : acc.toList = items.toList.drop k := by
  obtain ⟨hz, h⟩ := h
  apply List.ext_getElem?
  intro j
  rw [List.getElem?_drop, Array.getElem?_toList, Array.getElem?_toList]
  by_cases c : j < m
  · have e : acc[j]? = some acc[j] := Array.getElem?_eq_getElem (by omega)
    rw [e, h j _ e]
  · rw [Array.getElem?_eq_none (by omega), Array.getElem?_eq_none (by omega)]
theorem unpack_star {prog : Program} {w : World} {A : Around} {E : Value → Shared → Prop} {s : Shared} {t : Addr} {items : Array Value} {targets : List (Bool × (Value → Sem Unit))} {k : Nat} {Q : Unit → Shared → Prop}
    (hh : A.handled = none) (ht : PyProof.Rows.IsTup s.heap t items) (hn : targets.length = k + 1) (hs : targets.findIdx? (fun x => x.1) = some k) (hk : k ≤ items.size) (hz : items.size ≤ sizeLine)
    (h : ∀ (h' : Heap) (tk : Nat), (∀ (b : Addr) (u : Obj), s.heap.get? b = some u → h'.get? b = some u) →
      wpAny (model prog w) A (assignInOrder (targets.map fun x => x.2) (items.toList.take k ++ [.ref h'.objs.size])) Q E
        { heap := h'.push { cls := .type "list", dict := none, data := .seq (items.toList.drop k).toArray 0 }, gens := s.gens, drawn := s.drawn, toks := tk, os := s.os }) :
    wpAny (model prog w) A (unpack (.ref t) targets) Q E s := by
  have hlt : t ≠ s.heap.objs.size := by obtain ⟨o, ho, _⟩ := ht; exact Nat.ne_of_lt (Heap.lt_size ho)
  unfold unpack
  rw [hn, hs]
  refine wpAny_bind (wpAny_holding ?_)
  unfold unpackItems
  refine wpAny_bind ?_
  unfold notIterableAtAll
  refine wpAny_bind (wpAny_specialOf ht.typeIs slot_tuple_iter.lookup (wpAny_pure ?_))
  refine wpAny_bind (wpAny_holding (iter_tuple ht ?_))
  refine wpAny_bind (wpAny_holding (draw_tuple hlt k 0 _ _ ⟨{ cls := .type "tuple_iterator", data := .fields #[.ref t, .int 0 0] }, Heap.get?_push_size s.1 rfl, rfl, rfl⟩ (ht.push _) (by omega) fun h1 i1 b1 => ?_))
  have tk : (List.take k (List.drop 0 items.toList)).length = k := by rw [List.drop_zero, List.length_take]; simp; omega
  dsimp only
  rw [if_neg (by omega)]
  refine wpAny_bind (wpAny_holding (wpAny_collect_iter (.inr (.inr (.inr rfl))) (walks_shift (Walks.tuple (A := A.in1) hh s.heap.objs.size t hlt items) k (items.size - k) (by omega)).toS (fun i s' st => ?_) ?_ ?_ (List.mem_cons_self ..) (fun s2 acc mv ac => ?_) ?_))
  · obtain ⟨⟨o, e1, e2, _⟩, _⟩ := st
    exact ⟨o, e1, e2⟩
  · have e : k + 0 = 0 + k := by omega
    have ht1 : IsTup h1 t items := by
      obtain ⟨o, e1, e2, e3⟩ := ht.push { cls := .type "tuple_iterator", data := .fields #[.ref t, .int 0 0] }
      exact ⟨o, by rw [b1.2 t hlt]; exact e1, e2, e3⟩
    exact ⟨by rw [e]; exact i1, ht1⟩
  · intro b hb
    show b < h1.objs.size
    rw [b1.1]
    show b < (s.heap.push _).objs.size
    rw [Heap.size_push]
    obtain ⟨o, ho, _⟩ := ht
    have := Heap.lt_size ho
    rcases List.mem_cons.mp hb with e | e
    · exact e ▸ Nat.lt_succ_self _
    · exact (List.mem_singleton.mp e) ▸ Nat.lt_succ_of_lt this
  · have lz : acc.toList.length = items.size - k := by rw [Array.length_toList]; exact ac.1
    have ad := acc_drop (by omega) ac
    rw [if_neg (by omega)]
    have e0 : acc.toList.length - (k + 1 - 1 - k) = acc.toList.length := by omega
    rw [e0, List.take_length, List.drop_length, ad]
    refine wpAny_bind (wpAny_newList ?_ ?_)
    · refine wpAny_pure ?_
      have g := h s2.heap s2.toks (fun b u e => mv.heap b u (fun m => ?_) (by show h1.get? b = some u; rw [b1.2 b (Nat.ne_of_lt (Heap.lt_size e))]; exact Heap.get?_push_of_some _ e))
      · rw [List.append_nil, List.drop_zero]
        have e1 : s2.gens = s.gens := mv.gens
        have e2 : s2.drawn = s.drawn := mv.drawn
        have e3 : s2.os = s.os := mv.os
        rw [e1, e2, e3]
        exact g
      · exact absurd (List.mem_singleton.mp m) (Nat.ne_of_lt (Heap.lt_size e))
    · rw [List.length_drop]; simp; omega
  · omega
/-- `a, *b = xs`: at least n items; the rest becomes a new list -/
def gStar (K : W.Frag) (n : Nat) (t : TGs) : TG := fun v σ H Q => ∃ a xs, v = .ref a ∧ SqT K H a xs ∧ n ≤ xs.length ∧ ∀ L, H L = none → t (xs.take n ++ [.ref L]) σ (upd H L (.lst (xs.drop n))) Q
theorem pgs_star {X : Cx} {e : Expr} {pos : Pos} {es : List Expr} {u : TGs} (h : PGs X (e :: es) u) (hs : (assignEach (e.Starred pos :: es) X.env).map (fun x => x.2) = (assignEach (e :: es) X.env).map (fun x => x.2) := by rfl) : PGs X (e.Starred pos :: es) u :=
  ⟨fun pins s σ H vs us Q I r k => by rw [hs]; exact h.run pins s σ H vs us Q I r k⟩
theorem pg_star {X : Cx} {pos : Pos} {es : List Expr} {k : Nat} {t : TGs} {n : Nat} (hc : X.calm = true) (h : PGs X es t) (hn : (assignEach es X.env).length = n + 1 := by rfl) (hs : (assignEach es X.env).findIdx? (fun x => x.1) = some n := by rfl) :
    PG X (.Tuple es k pos) (gStar X.K n t) := by
  constructor
  intro pins s σ H v u Q I r hw
  obtain ⟨a, xs, rfl, hq, hl, hw⟩ := hw
  cases r
  obtain ⟨its, rv, ht, hz⟩ := I.tuple hq
  have el : its.length = xs.length := rv.length.symm
  rw [assign_Tuple]
  refine wpAny_bind (wpAny_standAt ?_)
  refine unpack_star (I.ok.hd hc) ht hn hs (by simp; omega) (by simp; omega) fun h' tk kp => ?_
  have I1 := I.kept (t' := tk) kp
  have hLn := HOk.fresh I1.hok (Nat.le_refl h'.objs.size)
  have I2 : Inv X pins σ (upd H h'.objs.size (.lst (xs.drop n))) { heap := h'.push { cls := .type "list", dict := none, data := .seq (its.drop n).toArray 0 }, gens := s.gens, drawn := s.drawn, toks := tk, os := s.os } := by
    refine I1.laid (fun b o e => Heap.get?_push_of_some _ e) (Nat.le_refl _) ?_
    unfold ObjOk
    exact ⟨by rw [List.length_drop]; omega, _, _, rv.drop n, Heap.get?_push_size h' rfl⟩
  exact h.run pins _ σ _ _ _ Q I2 ((rv.take n).append (.cons (show RelV (.ref h'.objs.size) (.ref h'.objs.size) from rfl) .nil)) (hw _ hLn)
end Cf
/-! Own layer: .get of a dict of the module with texts as keys; > of tuples of numbers. -/
namespace Cf
open PySem PySem.Spec PyProof.Rows L2
def tKGet (K : W.Frag) (d : Addr) (td ty : TE) : TE := fun σ H Q => td σ H fun x H1 => x = .ref d ∧ ty σ H1 fun y H2 => ∃ z r v0, y = .str z ∧ W.nsIn K d z = some r ∧ RelV v0 (r.getD .none) ∧ Q v0 H2
theorem pe_kget {X : Cx} {o e : Expr} {apos cpos : Pos} {d : Addr} {es : Array DictEntry} {n : Nat} {td ty : TE} (D : KDict X.K X.w d es n) (ho : PE X o td) (he : PE X e ty) (m : M1 X o (Str.ofString "get") apos e cpos) :
    PE X ((o.Attribute (Str.ofString "get") apos).Call [e] [] cpos) (tKGet X.K d td ty) := by
  constructor
  intro pins s σ H Q I h
  refine wpAny_Call_method m.base m.few m.line F.plainAttrs_dict F.slot_dict_get F.type_dict_get (thn (ho.run pins s σ H _ I h) fun u s1 hx => ?_)
  obtain ⟨x, H1, I1, rx, rfl, q1⟩ := hx
  cases rx
  refine ⟨kd_type D I1, fun a ea => ?_, ?_⟩
  · cases ea
    exact ⟨_, I1.kIn _ _ D.at_, rfl⟩
  · rw [m.trees]
    refine Calls.callWith_builtin rfl (Calls.evalArgs_plain (Calls.spliced_cons (thn (he.run pins s1 σ H1 _ I1 q1) fun iv s2 hy => Calls.spliced_nil ?_)))
    obtain ⟨y, H2, I2, ry, z, r, v0, rfl, en, rv, q2⟩ := hy
    obtain ⟨t, rfl⟩ := ry
    refine call_meetsIn F.slot_dict_get (kd_type D I2) F.entry_dict_get (F.args_dict_get_2 (.ref d) _) (meets_dict_get (strKind X.prog X.w) d (strKind_is X.prog X.w z t) D.low) ?_
    refine ⟨_, W.mapOf_K I2.kIn D.at_ D.lit, ?_⟩
    rw [W.find_K D.at_ en]
    exact ⟨v0, H2, I2.tok (s2.toks + 1), rv, q2⟩
/-- x > y, tuples of numbers -/
def gtL (ns ms : List Int) : Bool := Ob.lexAt (fun j => decide (ns.getD j 0 = ms.getD j 0)) (fun j => decide (ms.getD j 0 < ns.getD j 0)) (decide (ns.length > ms.length)) 0 (min ns.length ms.length)
theorem gtL_two (a b c d : Int) : gtL [a, b] [c, d] = (decide (c < a) || (decide (a = c) && decide (d < b))) := by
  simp [gtL, Ob.lexAt]
  by_cases h1 : a = c
  · subst h1
    by_cases h2 : d < b
    · have : ¬ b = d := by omega
      simp [h2, this]
    · simp [h2]
  · simp [h1]
def rGtT (K : W.Frag) : R2 := fun x y H Q => ∃ a b ns ms, x = .ref a ∧ y = .ref b ∧ SqT K H a (ns.map V.int) ∧ SqT K H b (ms.map V.int) ∧ Q (.bl (gtL ns ms)) H
theorem op_gtT {X : Cx} (hu : X.A.units < cLine) : OpR X (compareOp CmpOp.Gt) (rGtT X.K) := by
  intro pins s σ H x y v u Q I rx ry h
  obtain ⟨a, b, ns, ms, rfl, rfl, ha, hb, q⟩ := h
  cases rx
  cases ry
  obtain ⟨its, r1, p1, z1⟩ := I.tuple ha
  obtain ⟨its2, r2, p2, z2⟩ := I.tuple hb
  have i1 := Vals.ints r1
  have i2 := Vals.ints r2
  have e1 : its.toArray.size = ns.length := by rw [List.size_toArray]; exact i1.length
  have e2 : its2.toArray.size = ms.length := by rw [List.size_toArray]; exact i2.length
  have at1 : ∀ j (h : j < its.toArray.size), ∃ t, its.toArray[j] = .int (ns.getD j 0) t := fun j h => IntsAre.int_at i1 j _ (by simp)
  have at2 : ∀ j (h : j < its2.toArray.size), ∃ t, its2.toArray[j] = .int (ms.getD j 0) t := fun j h => IntsAre.int_at i2 j _ (by simp)
  have R := Ob.RcOp.tuples_gt (e := fun j => decide (ns.getD j 0 = ms.getD j 0)) (r := fun j => decide (ms.getD j 0 < ns.getD j 0)) p1 p2 hu (fun j h1 h2 => by
      obtain ⟨t, et⟩ := at1 j h1
      obtain ⟨t', et'⟩ := at2 j h2
      rw [et, et']
      have z : ∀ x y : Int, (x == y) = decide (x = y) := fun x y => by rw [Bool.eq_iff_iff, beq_iff_eq, decide_eq_true_iff]
      rw [← z]
      exact SeqAt.EqAt.int_int _ t _ t') (fun j h1 h2 _ => by
      obtain ⟨t, et⟩ := at1 j h1
      obtain ⟨t', et'⟩ := at2 j h2
      rw [et, et']
      exact Ob.RcOp.gt_int _ _ t t')
  rw [e1, e2] at R
  exact R X.prog X.w X.xe (EP X pins σ Q) ⟨.bl _, H, I, rfl, q⟩
end Cf
/-! Own layer: == of dicts with tuples of numbers and truths as keys, and numbers as values. -/
namespace Cf
open PySem PySem.Spec PyProof.Rows L2
theorem same_pairs_h {prog : Program} {w : World} {K : Type} [DecidableEq K] {knd : HeapKind prog w K} {A : Around} {E : Value → Shared → Prop} {s : Shared} {nm : String} {a b : Addr} {ka kb : List (K × Addr × Value)} {e : Nat → Bool} {Q : Bool → Shared → Prop}
    (ha : (a == sysModules) = false) (hb : (b == sysModules) = false) (da : Heap.DictOfH knd s.heap a ka) (db : Heap.DictOfH knd s.heap b kb) (room : knd.room A) (hl : ka.length = kb.length)
    (hk : ∀ (i : Nat) (k : K) (q : Addr) (v : Value), ka[i]? = some (k, q, v) → (∃ (j : Nat) (p : Addr × Value), kb[j]? = some (k, p)) ∧ ∀ (j : Nat) (p : Addr) (u : Value), kb[j]? = some (k, p, u) → SeqAt.EqAt A s v u (e i))
    (h : Q (decide (∀ i < ka.length, e i = true)) s) : wpAny (model prog w) A (Builtin.Dict.samePairs nm a b) Q E s := by
  obtain ⟨oa, es, ep, a1, a2, a3, a4, a5, a6⟩ := da
  obtain ⟨ob, es', ep', b1, b2, b3, b4, b5, b6⟩ := db
  have na : es.size = ka.length := by rw [← Array.length_toList, a4, List.length_map]
  have nb : es'.size = kb.length := by rw [← Array.length_toList, b4, List.length_map]
  unfold Builtin.Dict.samePairs
  unfold Builtin.Dict.showsAll
  rw [if_neg (by rw [ha]; exact Bool.false_ne_true), if_neg (by rw [hb]; exact Bool.false_ne_true)]
  refine wpAny_bind (wpAny_pure (wpAny_bind (wpAny_pure (wpAny_bind (wpAny_dictEntries a1 a3 (wpAny_bind (wpAny_dictEntries b1 b3 ?_)))))))
  rw [if_neg (by rw [na, nb, hl]; simp)]
  refine wpAny_bind (wpAny_dictEpoch a1 a3 (wpAny_bind ?_))
  rw [Std.Legacy.Range.forIn_eq_forIn_range']
  refine wpAny_forIn_list _ (fun rest b s1 => s1 = s ∧ b = (none, ()) ∧ ∃ i, i + rest.length = es.size ∧ rest = List.range' i rest.length ∧ ∀ j < i, e j = true) _ (fun x rest b s1 inv => ?_) (fun b s1 inv => ?_) _ _ ?_
  · obtain ⟨rfl, rfl, i, e1, e2, e3⟩ := inv
    rw [List.length_cons, List.range'_succ] at e2
    injection e2 with e2 e4
    subst e2
    have hx : x < ka.length := by rw [List.length_cons] at e1; omega
    obtain ⟨⟨k, q, v⟩, hx2⟩ : ∃ y, ka[x]? = some y := ⟨_, List.getElem?_eq_getElem hx⟩
    have ex : es[x]? = some (entryOfKey knd (k, q, v)) := by rw [← Array.getElem?_toList, a4, List.getElem?_map, hx2]; rfl
    refine wpAny_bind (wpAny_dictEntries a1 a3 ?_)
    rw [ex]
    obtain ⟨⟨j0, p0, f0⟩, h2⟩ := hk x k q v hx2
    refine wpAny_bind (wpAny_holding (wpAny_bind (wpAny_dictFind_heap room (a5 _ (List.mem_of_getElem? hx2)) b1 b3 b4 b5 b6 (fun no => absurd f0 (no j0 p0)) fun j p hj => ?_)))
    obtain ⟨p, u⟩ := p
    have ej : es'[j]? = some (entryOfKey knd (k, p, u)) := by rw [← Array.getElem?_toList, b4, List.getElem?_map, hj]; rfl
    refine wpAny_bind (wpAny_dictEntries b1 b3 ?_)
    rw [ej]
    refine wpAny_holding (h2 j p u hj _ _ _ _ ?_)
    cases c : e x with
    | false =>
      have : decide (∀ i < ka.length, e i = true) = false := decide_eq_false fun g => by rw [g x hx] at c; cases c
      rw [this] at h
      exact wpAny_pure (wpAny_pure h)
    | true =>
      rw [if_neg (by simp)]
      refine wpAny_bind (wpAny_dictEpoch a1 a3 ?_)
      rw [if_neg (by simp)]
      refine wpAny_pure ⟨rfl, rfl, x + 1, by rw [List.length_cons] at e1; omega, e4, fun j hj => ?_⟩
      rcases Nat.lt_succ_iff_lt_or_eq.mp hj with g | g
      · exact e3 j g
      · rw [g]; exact c
  · obtain ⟨rfl, rfl, i, e1, e2, e3⟩ := inv
    refine wpAny_pure ?_
    have : decide (∀ i < ka.length, e i = true) = true := decide_eq_true fun j hj => e3 j (by rw [List.length_nil] at e1; omega)
    rw [this] at h
    exact h
  · refine ⟨rfl, rfl, 0, ?_, ?_, fun j hj => absurd hj (Nat.not_lt_zero _)⟩
    · rw [List.length_range']; simp [Std.Legacy.Range.size]
    · rw [List.length_range']
theorem keq_h {prog : Program} {w : World} {K : Type} [DecidableEq K] {knd : HeapKind prog w K} {A : Around} {E : Value → Shared → Prop} {s : Shared} {a b : Addr} {ka kb : List (K × Addr × Value)} {e : Nat → Bool} {Q : Value → Shared → Prop}
    (ha : (a == sysModules) = false) (hb : (b == sysModules) = false) (da : Heap.DictOfH knd s.heap a ka) (db : Heap.DictOfH knd s.heap b kb) (hu : A.units < cLine) (room : knd.room A.in1) (hl : ka.length = kb.length)
    (hk : ∀ (i : Nat) (k : K) (q : Addr) (v : Value), ka[i]? = some (k, q, v) → (∃ (j : Nat) (p : Addr × Value), kb[j]? = some (k, p)) ∧ ∀ (j : Nat) (p : Addr) (u : Value), kb[j]? = some (k, p, u) → SeqAt.EqAt A.in1 s v u (e i))
    (h : Q (.bool (decide (∀ i < ka.length, e i = true))) s) : wpAny (model prog w) A (compareOp CmpOp.Eq (.ref a) (.ref b)) Q E s := by
  show wpAny (model prog w) A (richCompare CmpOp.Eq (.ref a) (.ref b)) Q E s
  refine wpAny_richCompare_same_room (op := CmpOp.Eq) (T := "dict") (id := "dict.__eq__") da.typeIs db.typeIs F.slot_dict_eq ?_ hu
  refine wpAny_call_entry (T := "dict") F.slot_dict_eq da.typeIs F.entry_dict_eq ?_ (F.args_dict_eq_2 (.ref a) (.ref b))
  refine wpAny_bind ?_
  refine wpAny_bind ?_
  refine wpAny_notOrdered_dict da.typeIs ?_
  refine wpAny_pure ?_
  refine wpAny_bind ?_
  refine wpAny_isInstance db.typeIs F.sub_dict_dict ?_
  rw [if_neg (by decide)]
  refine wpAny_bind (wpAny_pure ?_)
  refine wpAny_bind (wpAny_pure ?_)
  refine wpAny_bind (same_pairs_h ha hb da db room hl hk ?_)
  refine wpAny_pure ⟨_, rfl, (fun z => nomatch z), ?_⟩
  rw [beq_true]
  exact h
theorem paired_get {α β : Type} {R : α → β → Prop} : ∀ {xs : List α} {ys : List β}, Paired R xs ys → ∀ (i : Nat) (y : β), ys[i]? = some y → ∃ x, xs[i]? = some x ∧ R x y
  | _, _, .nil, i, y, h => by simp at h
  | _, _, .cons r rs, 0, y, h => by
    simp at h; subst h; exact ⟨_, rfl, r⟩
  | _, _, .cons r rs, i + 1, y, h => by
    rw [List.getElem?_cons_succ] at h
    obtain ⟨x, e, q⟩ := paired_get rs i y h
    exact ⟨x, by rw [List.getElem?_cons_succ]; exact e, q⟩
theorem paired_get' {α β : Type} {R : α → β → Prop} : ∀ {xs : List α} {ys : List β}, Paired R xs ys → ∀ (i : Nat) (x : α), xs[i]? = some x → ∃ y, ys[i]? = some y ∧ R x y
  | _, _, .nil, i, y, h => by simp at h
  | _, _, .cons r rs, 0, y, h => by
    simp at h; subst h; exact ⟨_, rfl, r⟩
  | _, _, .cons r rs, i + 1, y, h => by
    rw [List.getElem?_cons_succ] at h
    obtain ⟨x, e, q⟩ := paired_get' rs i y h
    exact ⟨x, by rw [List.getElem?_cons_succ]; exact e, q⟩
theorem paired_len {α β : Type} {R : α → β → Prop} : ∀ {xs : List α} {ys : List β}, Paired R xs ys → xs.length = ys.length
  | _, _, .nil => rfl
  | _, _, .cons r rs => by rw [List.length_cons, List.length_cons, paired_len rs]
/-- x == y, two such dicts with the same keys in the same order -/
def rEqK (P : Program) (w : World) : R2 := fun x y H Q => ∃ (a b : Addr) (xs ys : List Ent) (ns ms : List Int), x = .ref a ∧ y = .ref b ∧ H a = some (KDo P w a xs) ∧ H b = some (KDo P w b ys) ∧ KeysAt H xs ∧ KeysAt H ys ∧
  (xs.map fun x => x.2.1) = (ys.map fun x => x.2.1) ∧ (xs.map fun x => x.2.2) = ns.map V.int ∧ (ys.map fun x => x.2.2) = ms.map V.int ∧ Q (.bl (decide (ns = ms))) H
theorem all_eq {ns ms : List Int} {n : Nat} (h1 : ns.length = n) (h2 : ms.length = n) : decide (∀ i < n, (ns.getD i 0 == ms.getD i 0) = true) = decide (ns = ms) := by
  rw [decide_eq_decide]
  constructor
  · intro h
    apply List.ext_getElem (by omega)
    intro i i1 i2
    have := h i (by omega)
    rw [beq_iff_eq] at this
    simpa [List.getD, List.getElem?_eq_getElem i1, List.getElem?_eq_getElem i2] using this
  · rintro rfl i _
    exact beq_iff_eq.mpr rfl
theorem op_eqK {X : Cx} (hu : X.A.units + 10 < cLine) : OpR X (compareOp CmpOp.Eq) (rEqK X.prog X.w) := by
  intro pins s σ H x y v u Q I rx ry h
  obtain ⟨a, b, xs, ys, ns, ms, rfl, rfl, ha, hb, ka, kb, ek, en, em, q⟩ := h
  cases rx
  cases ry
  obtain ⟨n1, nd1, sz1, as, p1, d1⟩ := kdo_get I ha ka
  obtain ⟨n2, nd2, sz2, bs, p2, d2⟩ := kdo_get I hb kb
  have l1 := paired_len p1
  have l2 := paired_len p2
  have l3 : xs.length = ys.length := by have := congrArg List.length ek; simpa using this
  have l4 : ns.length = xs.length := by have := congrArg List.length en; simpa using this.symm
  have l5 : ms.length = ys.length := by have := congrArg List.length em; simpa using this.symm
  refine keq_h (e := fun i => ns.getD i 0 == ms.getD i 0) n1 n2 d1 d2 (by omega) (show X.A.in1.units + 8 < cLine by show X.A.units + 1 + 8 < cLine; omega) (by omega) (fun i k p v hi => ?_) ?_
  · obtain ⟨x, hx, r1, r2, r3⟩ := paired_get p1 i _ hi
    dsimp only at r1 r2 r3
    have hil : i < ys.length := by have := (List.getElem?_eq_some_iff.mp hx).1; omega
    obtain ⟨y, hy⟩ : ∃ y, ys[i]? = some y := ⟨_, List.getElem?_eq_getElem hil⟩
    have exy : x.2.1 = y.2.1 := by
      have := congrArg (fun l => l[i]?) ek
      rw [List.getElem?_map, List.getElem?_map, hx, hy] at this
      simpa using this
    have exn : x.2.2 = V.int (ns.getD i 0) := by
      have := congrArg (fun l => l[i]?) en
      rw [List.getElem?_map, List.getElem?_map, hx, List.getElem?_eq_getElem (show i < ns.length by omega)] at this
      have g : ns.getD i 0 = ns[i] := by simp [List.getD, List.getElem?_eq_getElem (show i < ns.length by omega)]
      rw [g]
      simpa using this
    have eyn : y.2.2 = V.int (ms.getD i 0) := by
      have := congrArg (fun l => l[i]?) em
      rw [List.getElem?_map, List.getElem?_map, hy, List.getElem?_eq_getElem (show i < ms.length by omega)] at this
      have g : ms.getD i 0 = ms[i] := by simp [List.getD, List.getElem?_eq_getElem (show i < ms.length by omega)]
      rw [g]
      simpa using this
    obtain ⟨y', hy', t1, t2, t3⟩ := paired_get' p2 i y hy
    refine ⟨⟨i, y'.2, ?_⟩, fun j p' u hj => ?_⟩
    · rw [hy', ← (show y'.1 = k by rw [t1, ← exy, r1])]
    · obtain ⟨z, hz, w1, w2, w3⟩ := paired_get p2 j _ hj
      dsimp only at w1 w2 w3
      have ezy : z.2.1 = y.2.1 := by rw [← exy]; exact nkey_inj (by rw [← w1, r1])
      have eji : j = i := by
        have hz' : (ys.map fun x => x.2.1)[j]? = some y.2.1 := by rw [List.getElem?_map, hz]; simp [ezy]
        have hy' : (ys.map fun x => x.2.1)[i]? = some y.2.1 := by rw [List.getElem?_map, hy]; rfl
        have jl := (List.getElem?_eq_some_iff.mp hz').1
        have il := (List.getElem?_eq_some_iff.mp hy').1
        exact (List.getElem?_inj jl nd2).mp (by rw [hz', hy'])
      subst eji
      rw [hy] at hz
      cases hz
      rw [exn] at r3
      rw [eyn] at w3
      obtain ⟨t, rfl⟩ := (show ∃ t, v = Value.int (ns.getD j 0) t from r3)
      obtain ⟨t', rfl⟩ := (show ∃ t, u = Value.int (ms.getD j 0) t from w3)
      exact SeqAt.EqAt.int_int _ t _ t'
  · rw [all_eq (by omega) (by omega)]
    exact ⟨.bl _, H, I, rfl, q⟩
end Cf
/-! Own layer: {elt for ..} of numbers. -/
namespace Cf
open PySem PySem.Spec PyProof.Rows L2
def tScI (w : World) (wi : TI) (g : TG) (tt : TT) (te : TE) (vs : List Nat) : TE := fun σ H Q =>
  wi σ H fun J H1 => ∀ D, H1 D = none → ∃ W : Nat → Nat → Hp → Prop, (∃ m, W 0 m (upd H1 D (SetO w D (fun _ => false) 0))) ∧ ∀ i m H, W i m H →
    (J.stop i H ∧ Q (.ref D) H) ∨ (J.go i H ∧ ∃ Nx : Hp → Prop, (∀ H', Nx H' → ∃ m', m' < m ∧ W (i + 1) m' H') ∧ ∀ x H', J.yld i H x H' →
      g x (wipe σ vs) H' fun σ2 H2 => wipe σ2 vs = wipe σ vs ∧ tt σ2 H2 fun b H3 => if b = true then te σ2 H3 fun y H4 =>
        ∃ c S n, y = .int c ∧ H4 D = some (SetO w D S n) ∧ n + 1 < scanBound ∧ Nx (upd H4 D (SetO w D (fun j => S j || decide (j = c)) (if S c = true then n else n + 1))) else Nx H3)
set_option maxHeartbeats 1000000 in
theorem pe_scI {X : Cx} {elt tg iter : Expr} {ifs : List Expr} {scope : Scope} {own : List (Str × Nat)} {pos : Pos} {wi : TI} {g : TG} {tt : TT} {te : TE} (hc : X.calm = true) (hN : X.N.Nodup) (hi : PI X tg iter wi) (ok : BlkOk X.N X.env.scope scope own)
    (hg : ∀ (s : Shared) (H : Hp) (C : Addr) (cl : List (Str × Addr)) (fp : List Addr), PG (X.blk s H scope (compEnvC scope cl C X.env) fp) tg g)
    (ht : ∀ (s : Shared) (H : Hp) (C : Addr) (cl : List (Str × Addr)) (fp : List Addr), PTs (X.blk s H scope (compEnvC scope cl C X.env) fp) ifs tt)
    (he : ∀ (s : Shared) (H : Hp) (C : Addr) (cl : List (Str × Addr)) (fp : List Addr), PE (X.blk s H scope (compEnvC scope cl C X.env) fp) elt te)
    (hs : ∀ x, foldedSetIterable iter X.env x = pure x := by intro _; rfl) :
    PE X (.SetComp elt [⟨tg, iter, ifs, 0⟩] scope pos) (tScI X.w wi g tt te (own.map (·.2))) := by
  constructor
  intro pins s σ H Q I h
  rw [arm_eval_SetComp]
  refine wpAny_comprehension_free rfl hs (closure_ok fun y hy e => (ok.free y hy e).elim (fun k => I.ok.has y.1 (.inl k)) fun k => I.ok.has y.1 (.inr k)) ok.kind (fun y hy e => by rw [ok.uniq y hy, e]) (thn (hi.run pins s σ H _ I h) fun xv s1 hx => thn hx fun itv s2 h2 => ?_)
  obtain ⟨it, fp, tn, J, H2, rfl, I2, T, st2, f2, q⟩ := h2
  refine PpSet.newSet_ok (newEnv_comp ?_)
  have hDn := HOk.fresh I2.hok (Nat.le_refl s2.heap.objs.size)
  obtain ⟨W, ⟨m0, w0⟩, turn⟩ := q s2.heap.objs.size hDn
  have I3 : Inv X pins σ (upd H2 s2.heap.objs.size (SetO X.w s2.heap.objs.size (fun _ => false) 0)) { s2 with heap := s2.heap.push { cls := .type "set", dict := none, data := .set #[] 0 (.fresh 0 0 (!X.w.params.followText "set-order")) } } :=
    I2.laid (fun b o e => Heap.get?_push_of_some _ e) (Nat.le_refl _) (setO_new (setR_fresh X.w))
  generalize eS : ({ s2 with heap := s2.heap.push { cls := .type "set", dict := none, data := .set #[] 0 (.fresh 0 0 (!X.w.params.followText "set-order")) } } : Shared) = S3 at I3 ⊢
  have h3 : S3.heap = s2.heap.push { cls := .type "set", dict := none, data := .set #[] 0 (.fresh 0 0 (!X.w.params.followText "set-order")) } := by rw [← eS]
  have f3 : ∀ b ∈ fp, FpOk X pins (upd H2 s2.heap.objs.size (SetO X.w s2.heap.objs.size (fun _ => false) 0)) b ∧ b < S3.heap.objs.size := fun b hb => by
    obtain ⟨o, e, _⟩ := T.obj 0 s2.heap st2 b hb
    have hlt := Heap.lt_size e
    refine ⟨⟨by rw [upd_ne (Nat.ne_of_lt hlt)]; exact (f2 b hb).1, (f2 b hb).2⟩, ?_⟩
    rw [h3, Heap.size_push]
    exact Nat.lt_succ_of_lt hlt
  have st3 := T.keep 0 s2.heap S3.heap st2 fun b _ o e => by rw [h3]; exact Heap.get?_push_of_some _ e
  have I4 := block_start I3 ok hN f3
  have pg := hg S3 (upd H2 s2.heap.objs.size (SetO X.w s2.heap.objs.size (fun _ => false) 0)) S3.heap.objs.size (cellsFrom (S3.heap.objs.size + 1) scope.names (cloFrom X.env.cells scope.names [])) fp
  have pt := ht S3 (upd H2 s2.heap.objs.size (SetO X.w s2.heap.objs.size (fun _ => false) 0)) S3.heap.objs.size (cellsFrom (S3.heap.objs.size + 1) scope.names (cloFrom X.env.cells scope.names [])) fp
  have pe := he S3 (upd H2 s2.heap.objs.size (SetO X.w s2.heap.objs.size (fun _ => false) 0)) S3.heap.objs.size (cellsFrom (S3.heap.objs.size + 1) scope.names (cloFrom X.env.cells scope.names [])) fp
  generalize eH : upd H2 s2.heap.objs.size (SetO X.w s2.heap.objs.size (fun _ => false) 0) = H3 at *
  have hH3 : H3 s2.heap.objs.size = some (SetO X.w s2.heap.objs.size (fun _ => false) 0) := by rw [← eH, upd_same]
  generalize s2.heap.objs.size = D at *
  obtain ⟨CE, eCE⟩ : ∃ CE, CE = compEnvC scope (cellsFrom (S3.heap.objs.size + 1) scope.names (cloFrom X.env.cells scope.names [])) S3.heap.objs.size X.env := ⟨_, rfl⟩
  have cL : CE.locals = S3.heap.objs.size := by rw [eCE]; rfl
  show codeAny (model X.prog X.w) X.A (Code.compStart (.SetComp elt [⟨tg, iter, ifs, 0⟩] scope pos) 0 (.ref it) (.ref D) (compEnvC scope (cellsFrom (S3.heap.objs.size + 1) scope.names (cloFrom X.env.cells scope.names [])) S3.heap.objs.size X.env))
    (compPost (model X.prog X.w) X.A X.xe none (EP X pins σ Q) (.ref D) S3.heap.objs.size) _
  rw [← eCE] at I4 pg pt pe ⊢
  obtain ⟨S4, eS4⟩ : ∃ S4 : Shared, S4 = { heap := pushCells (S3.heap.push { cls := .type "dict", dict := none, data := .dict #[] 0 }) scope.names, gens := S3.gens, drawn := S3.drawn, toks := S3.toks, os := S3.os } := ⟨_, rfl⟩
  have nfp : ∀ b ∈ fp, H3 b = none := fun b hb => (f3 b hb).1.1
  have st4 := T.keep 0 S3.heap S4.heap st3 fun b _ o e => by rw [eS4]; exact pushCells_keeps scope.names _ b o (Heap.get?_push_of_some _ e)
  rw [← eS4] at I4 ⊢
  have stat : ∀ {σ' : L2.St} {H' : Hp} {s' : Shared}, Inv (X.blk S3 H3 scope CE fp) [] σ' H' s' → (∀ b ∈ fp, H' b = none) → ∀ b ∈ fp, FpOk (X.blk S3 H3 scope CE fp) [] H' b := fun I' hn b hb =>
    ⟨hn b hb, (I'.ok.exf b hb).1, I'.ok.exfs b hb, .inl hb, fun x c e => (I'.ok.exf b hb).2 x c e, fun p hp => absurd (show p ∈ [] from by simpa using hp) List.not_mem_nil⟩
  have loop := PpSet.compLoopS_any (prog := X.prog) (w := X.w) (A := X.A) (R := compPost (model X.prog X.w) X.A X.xe none (EP X pins σ Q) (.ref D) S3.heap.objs.size) (elt := elt) (target := tg) (iter := iter) (ifs := ifs) (scope := scope) (pos := pos) (it := .ref it) (acc := .ref D) (env := CE)
    (fun n s' => ∃ i H', Inv (X.blk S3 H3 scope CE fp) [] (wipe σ (own.map (·.2))) H' s' ∧ tn i s'.heap ∧ (∀ b ∈ fp, H' b = none) ∧ W i n H') ?_ m0 (s := S4) ⟨0, H3, I4, st4, nfp, w0⟩
  · exact PpSet.codeAny_compStart_set loop (T.self X.A 0 S4 _ _ st4 loop)
  rintro n s5 ⟨i, H5, I5, st5, n5, w5⟩
  rcases turn i n H5 w5 with ⟨stop, qq⟩ | ⟨go, Nx, hNx, step⟩
  · have td := T.done (X.blk S3 H3 scope CE fp) rfl rfl rfl hc i [] s5 (wipe σ (own.map (·.2))) H5 (fun _ _ => False) I5 (stat I5 n5) st5 stop
    refine thnF td ?_
    rintro r s6 ⟨rfl, I6⟩
    have I7 := Inv.call' I3 I6.os I6.base I6.hok I6.bare fun b hb => ⟨(f3 b hb).1.2.2.2.1, (f3 b hb).1.2.1, (f3 b hb).1.2.2.2.2.1, (f3 b hb).1.2.2.2.2.2⟩
    have nC : H5 S3.heap.objs.size = none := by
      have z := I6.free
      rw [← cL]
      exact z
    obtain ⟨m, hn, _⟩ := I6.loc
    have hn2 : s6.heap.Ns S3.heap.objs.size m := by rw [← cL]; exact hn
    have f := Inv.fpOk I3 (Nat.le_refl S3.heap.objs.size) nC
    exact ⟨m, hn2, fun h'' sb => ⟨.ref D, H5, Inv.turned I7 (fun b o hb e => (sb.2 b hb).trans e) f.1 f.2.1 f.2.2.2.1 f.2.2.2.2.1 f.2.2.2.2.2, rfl, qq⟩⟩
  · have ti := T.item (X.blk S3 H3 scope CE fp) rfl rfl rfl hc i [] s5 (wipe σ (own.map (·.2))) H5 (fun _ _ => False) I5 (stat I5 n5) st5 go
    refine thnF ti ?_
    rintro r s6 ⟨u, rfl, h6⟩
    refine thnF h6 ?_
    rintro _ s7 ⟨x, H7, I7, r7, y7, st7, n7⟩
    have I7' := Inv.pinned I7 (stat I7 n7) (T.obj (i + 1) s7.heap st7)
    refine thnF (pg.run ([] ++ pinsAt fp s7.heap) s7 _ H7 x u _ I7' r7 (step x H7 y7)) ?_
    rintro _ s8 ⟨σ8, H8, I8, hw8, q8⟩
    refine thnF (pt.run ([] ++ pinsAt fp s7.heap) s8 σ8 H8 _ I8 q8) ?_
    rintro b s9 ⟨H9, I9, q9⟩
    have fin : ∀ {s' : Shared} {H' : Hp}, Inv (X.blk S3 H3 scope CE fp) ([] ++ pinsAt fp s7.heap) σ8 H' s' → Nx H' → ∃ m', m' < n ∧ ∃ i H', Inv (X.blk S3 H3 scope CE fp) [] (wipe σ (own.map (·.2))) H' s' ∧ tn i s'.heap ∧ (∀ b ∈ fp, H' b = none) ∧ W i m' H' := by
      intro s' H' I' nx
      obtain ⟨m', hm, w'⟩ := hNx H' nx
      have pin' : ∀ b ∈ fp, ∀ o, s7.heap.get? b = some o → s'.heap.get? b = some o ∧ H' b = none := fun b hb o e =>
        let z := I'.pin (b, o) (List.mem_append_right (X.blk S3 H3 scope CE fp).pn (List.mem_append_right [] (mem_pinsAt hb e)))
        ⟨z.1, z.2.1⟩
      have hl : (wipe σ (own.map (·.2))).length = σ8.length := by rw [← hw8, wipe_length]
      refine ⟨m', hm, i + 1, H', Inv.weak (Inv.unpinned I') hl fun j v e => (wipe_some (by rw [← hw8] at e; exact e)).1, T.keep (i + 1) s7.heap s'.heap st7 fun b hb o e => (pin' b hb o e).1, fun b hb => ?_, w'⟩
      obtain ⟨o, e, _⟩ := T.obj (i + 1) s7.heap st7 b hb
      exact (pin' b hb o e).2
    cases b with
    | false =>
      rw [if_neg (by decide)] at q9
      rw [if_neg (by decide)]
      exact fin I9 q9
    | true =>
      rw [if_pos rfl] at q9
      rw [if_pos rfl]
      refine thnF (pe.run ([] ++ pinsAt fp s7.heap) s9 σ8 H9 _ I9 q9) ?_
      rintro z s10 ⟨yk, H10, I10, r10, c, S, n2, rfl, hD10, hz10, nx⟩
      refine thnF (mt_sadd (X := X.blk S3 H3 scope CE fp) ([] ++ pinsAt fp s7.heap) s10 σ8 H10 (.ref D) [.int c] (.ref D) [z] (fun _ H' => Nx H') I10 rfl (.cons r10 .nil) ⟨D, c, S, n2, rfl, rfl, hD10, hz10, nx⟩) ?_
      rintro _ s12 ⟨_, H12, I12, _, nx12⟩
      exact fin I12 nx12
/-- len of a set of numbers -/
def rLenI (w : World) : List V → Hp → VK → Prop := fun vs H Q => ∃ a S n, vs = [.ref a] ∧ H a = some (SetO w a S n) ∧ Q (.int (n : Nat)) H
theorem cr_lenI {X : Cx} : CallR X (.builtin "len") (rLenI X.w) := by
  intro pins s σ H vs us Q I r h
  obtain ⟨a, S, n, rfl, ha, q⟩ := h
  rw [Vals.ref1 r]
  obtain ⟨o, es, ep, t, e1, e2, e3, _, _, _, e7, e8, e9, _⟩ := setO_get I ha
  refine call_len_set e1 e2 e3 e8 ?_ ⟨.int (n : Nat), H, I.tok _, ?_, q⟩
  · have : (scanBound : Int) ≤ 2 ^ 63 := by decide
    omega
  · rw [e9]
    exact ⟨_, rfl⟩
theorem pe_df0 {X : Cx} {k : Nat} {x : Str} {ps : List Str} {sp : Sp} {dvs : List V} {p pos : Pos} (D : Df X.prog X.w X.K X.mg X.base k x ps dvs sp) (hr : Room k X.A) (hg : Gl X x := by rfl) (hdb : (x == ("__debug__" : Str)) = false := by decide) :
    PE X (.Call (.Name x p) [] [] pos) (tCall sp dvs E0 tNil) := by
  obtain ⟨f, fd, ds, F, m, kp, hv, b⟩ := D.ex
  exact pe_call0 F hr hg m kp b hv pass0 hdb
theorem lt0 {n : Nat} (h : n + 64 < cLine) : n < cLine := by omega
theorem lt8 {n : Nat} (h : n + 64 < cLine) : n + 8 < cLine := by omega
theorem lt10 {n : Nat} (h : n + 64 < cLine) : n + 10 < cLine := by omega
end Cf
/-! Own layer: min and max of two values that stand on the heap. -/
namespace Cf
open PySem PySem.Spec PyProof.Rows L2
theorem min2_any {prog : Program} {w : World} {A : Around} {E : Value → Shared → Prop} {s : Shared} {a b : Value} {Q : Value → Shared → Prop} {r : Bool} (hh : A.handled = none)
    (cmp : ∀ (s' : Shared) (Q' E' : Value → Shared → Prop), (∀ (c : Addr) (o : Obj), s.heap.get? c = some o → s'.heap.get? c = some o) → Q' (.bool r) s' → wpAny (model prog w) A.in1 (richCompare CmpOp.Lt b a) Q' E' s')
    (h : ∀ (h' : Heap) (tk : Nat), (∀ (c : Addr) (o : Obj), s.heap.get? c = some o → h'.get? c = some o) → Q (if r = true then b else a) { heap := h', gens := s.gens, drawn := s.drawn, toks := tk, os := s.os }) :
    wpAny (model prog w) A (call (.builtin "min") [a, b]) Q E s := by
  refine call_function_tree F.kind_min F.plain_min F.entry_min (F.args_min2 a b) ?_
  refine wpAny_bind (wpAny_of_eq (show _ = _ from rfl) ?_)
  refine wpAny_bind ?_
  refine wpAny_newObj_type (wpAny_bind ?_)
  have nT : s.heap.objs.size ≠ (s.heap.push { cls := .type "tuple", dict := none, data := .seq #[a, b] 0 }).objs.size := by rw [Heap.size_push]; exact Nat.ne_of_lt (Nat.lt_succ_self _)
  have hT : IsTup (s.heap.push { cls := .type "tuple", dict := none, data := .seq #[a, b] 0 }) s.heap.objs.size #[a, b] := ⟨_, Heap.get?_push_size s.heap rfl, rfl, 0, rfl⟩
  refine iter_tuple hT ?_
  have sT : (s.heap.push { cls := .type "tuple", dict := none, data := .seq #[a, b] 0 }).objs.size = s.heap.objs.size + 1 := Heap.size_push _ _
  generalize eI : (s.heap.push { cls := .type "tuple", dict := none, data := .seq #[a, b] 0 }).objs.size = I at *
  have W := Walks.tuple (prog := prog) (w := w) (A := A.in1) hh I s.heap.objs.size nT #[a, b]
  have i0 : Heap.IsTupleIter ((s.heap.push { cls := .type "tuple", dict := none, data := .seq #[a, b] 0 }).push { cls := .type "tuple_iterator", data := .fields #[.ref s.heap.objs.size, .int 0 0] }) I s.heap.objs.size 0 := ⟨_, by rw [← eI]; exact Heap.get?_push_size _ rfl, rfl, rfl⟩
  have t0 : Heap.IsTuple ((s.heap.push { cls := .type "tuple", dict := none, data := .seq #[a, b] 0 }).push { cls := .type "tuple_iterator", data := .fields #[.ref s.heap.objs.size, .int 0 0] }) s.heap.objs.size #[a, b] := hT.push _
  have k0 : ∀ (c : Addr) (o : Obj), s.heap.get? c = some o → ((s.heap.push { cls := .type "tuple", dict := none, data := .seq #[a, b] 0 }).push { cls := .type "tuple_iterator", data := .fields #[.ref s.heap.objs.size, .int 0 0] }).get? c = some o := fun c o e => Heap.get?_push_of_some _ (Heap.get?_push_of_some _ e)
  have z0 : ((s.heap.push { cls := .type "tuple", dict := none, data := .seq #[a, b] 0 }).push { cls := .type "tuple_iterator", data := .fields #[.ref s.heap.objs.size, .int 0 0] }).objs.size = I + 1 := by rw [Heap.size_push, eI]
  generalize ((s.heap.push { cls := .type "tuple", dict := none, data := .seq #[a, b] 0 }).push { cls := .type "tuple_iterator", data := .fields #[.ref s.heap.objs.size, .int 0 0] }) = h0 at *
  refine wpAny_bind (wpAny_newList ?_ (by simp))
  dsimp only
  have hS : (h0.push { cls := .type "list", dict := none, data := .seq (List.toArray []) 0 }).get? h0.objs.size = some { cls := .type "list", dict := none, data := .seq #[] 0 } := Heap.get?_push_size _ rfl
  have st1 := W.frame 0 h0 (h0.push { cls := .type "list", dict := none, data := .seq (List.toArray []) 0 }) ⟨i0, t0⟩ fun b _ o e => Heap.get?_push_of_some _ e
  have k1 : ∀ (c : Addr) (o : Obj), s.heap.get? c = some o → (h0.push { cls := .type "list", dict := none, data := .seq (List.toArray []) 0 }).get? c = some o := fun c o e => Heap.get?_push_of_some _ (k0 c o e)
  have SI : h0.objs.size ≠ I := by rw [z0]; exact Nat.ne_of_gt (Nat.lt_succ_self _)
  have ST : h0.objs.size ≠ s.heap.objs.size := by rw [z0, sT]; exact Nat.ne_of_gt (Nat.lt_succ_of_lt (Nat.lt_succ_self _))
  have Sk : ∀ (c : Addr) (o : Obj), s.heap.get? c = some o → c ≠ h0.objs.size := fun c o e g => by have := Heap.lt_size e; rw [g, z0, sT] at this; exact Nat.not_lt_of_le (Nat.le_add_right _ 2) this
  generalize (h0.push { cls := .type "list", dict := none, data := .seq (List.toArray []) 0 }) = h1 at *
  generalize h0.objs.size = S at *
  rw [show (toString "min" ++ toString ".loop") = "min.loop" from by decide]
  refine wpAny_pure ⟨plainId_quiet F.plain_min_loop _, codeAny_builtin F.entry_min_loop ?_⟩
  rw [Around.under_plainId F.plain_min_loop _]
  refine wpAny_bind (wpAny_seqItems hS rfl ?_)
  refine wpAny_bind ?_
  refine wpAny_tryCatch (W.item 0 _ _ _ (by show 0 < 2; decide) st1 fun v h2 tk2 hv st2 k2 => ?_)
  obtain rfl : a = v := by simpa using hv
  dsimp only
  refine wpAny_bind (wpAny_pure ?_)
  have nI : ∀ c : Addr, c ≠ I → ¬ c ∈ [I] := fun c hc m => hc (List.mem_singleton.mp m)
  have hS2 := k2 S _ (nI S SI) hS
  refine wpAny_bind (wpAny_updateSeq hS2 rfl ?_ (by simp) (by show 2 ≤ sizeLine + 1; decide))
  have hS3 := Heap.get?_update_self (Obj.mapSeq fun _ => #[a, a]) hS2 rfl
  have st3 := W.frame 1 h2 (h2.update S (Obj.mapSeq fun _ => #[a, a])) st2 fun c hc o e => (Heap.get?_update_other h2 (Obj.mapSeq fun _ => #[a, a]) (by
    rcases List.mem_cons.mp hc with g | g
    · rw [g]; exact SI
    · rw [List.mem_singleton.mp g]; exact ST)).trans e
  have k3 : ∀ (c : Addr) (o : Obj), s.heap.get? c = some o → (h2.update S (Obj.mapSeq fun _ => #[a, a])).get? c = some o := fun c o e => (Heap.get?_update_other h2 (Obj.mapSeq fun _ => #[a, a]) (Ne.symm (Sk c o e))).trans (k2 c o (nI c fun g => by have := Heap.lt_size e; rw [g, sT] at this; exact Nat.not_lt_of_le (Nat.le_add_right _ 1) this) (k1 c o e))
  dsimp only
  generalize (h2.update S (Obj.mapSeq fun _ => #[a, a])) = h3 at *
  rw [show (toString "min" ++ toString ".loop") = "min.loop" from by decide]
  refine wpAny_pure ⟨plainId_quiet F.plain_min_loop _, codeAny_builtin F.entry_min_loop ?_⟩
  rw [Around.under_plainId F.plain_min_loop _]
  refine wpAny_bind (wpAny_seqItems hS3 rfl ?_)
  refine wpAny_bind (wpAny_tryCatch (W.item 1 _ _ _ (by show 1 < 2; decide) st3 fun v h4 tk4 hv st4 k4 => ?_))
  obtain rfl : b = v := by simpa using hv
  dsimp only
  refine wpAny_bind (wpAny_pure ?_)
  have hS4 := k4 S _ (nI S SI) hS3
  have k5 : ∀ (c : Addr) (o : Obj), s.heap.get? c = some o → h4.get? c = some o := fun c o e => k4 c o (nI c fun g => by have := Heap.lt_size e; rw [g, sT] at this; exact Nat.not_lt_of_le (Nat.le_add_right _ 1) this) (k3 c o e)
  have fin : ∀ (x : Value) (h5 : Heap) (tk5 : Nat) (n5 : Nat), h5.get? S = some { cls := .type "list", dict := none, data := .seq #[x, x] n5 } → (h5.IsTupleIter I s.heap.objs.size 2 ∧ h5.IsTuple s.heap.objs.size #[a, b]) → (∀ (c : Addr) (o : Obj), s.heap.get? c = some o → h5.get? c = some o) →
      (∀ (h' : Heap) (tk : Nat), (∀ (c : Addr) (o : Obj), s.heap.get? c = some o → h'.get? c = some o) → Q x { heap := h', gens := s.gens, drawn := s.drawn, toks := tk, os := s.os }) →
      codeAny (model prog w) A (Code.builtin "min.loop" { pos := [.ref I, .none, .ref S] }) (fun r s' => match r with
        | .ok (.ret v) => Q v s'
        | .ok _ => False
        | .error e => E e s') { heap := h5, gens := s.gens, drawn := s.drawn, toks := tk5, os := s.os } := by
    intro x h5 tk5 n5 hS5 st5 k5 hq
    refine codeAny_builtin F.entry_min_loop ?_
    rw [Around.under_plainId F.plain_min_loop _]
    refine wpAny_bind (wpAny_seqItems hS5 rfl ?_)
    refine wpAny_bind (wpAny_tryCatch (W.done _ _ _ st5 fun h6 tk6 k6 => ?_))
    have hS6 := k6 S _ (nI S SI) hS5
    refine wpAny_bind (wpAny_updateSeq hS6 rfl ?_ (by show 2 ≤ sizeLine; decide) (by show 0 ≤ sizeLine + 1; decide))
    refine wpAny_bind (wpAny_letGo (wpAny_pure ?_))
    refine hq _ _ fun c o e => (Heap.get?_update_other h6 (Obj.mapSeq fun _ => #[]) (Ne.symm (Sk c o e))).trans (k6 c o (nI c fun g => by have := Heap.lt_size e; rw [g, sT] at this; exact Nat.not_lt_of_le (Nat.le_add_right _ 1) this) (k5 c o e))
  refine wpAny_bind (wpAny_tryCatch (wpAny_holding (wpAny_bind (cmp _ _ _ k5 (wpAny_bind (wpAny_holding (wpAny_truthy_bool (wpAny_bind (wpAny_letGo (wpAny_pure ?_))))))))))
  rw [show (toString "min" ++ toString ".loop") = "min.loop" from by decide]
  cases r with
  | true =>
    rw [if_pos rfl]
    refine wpAny_bind (wpAny_updateSeq hS4 rfl ?_ (by show 2 ≤ sizeLine; decide) (by show 2 ≤ sizeLine + 1; decide))
    refine wpAny_bind (wpAny_letGo (wpAny_pure ⟨plainId_quiet F.plain_min_loop _, ?_⟩))
    have hS5 := Heap.get?_update_self (Obj.mapSeq fun _ => #[b, b]) hS4 rfl
    have st5 := W.frame 2 h4 (h4.update S (Obj.mapSeq fun _ => #[b, b])) st4 fun c hc o e => (Heap.get?_update_other h4 (Obj.mapSeq fun _ => #[b, b]) (by
      rcases List.mem_cons.mp hc with g | g
      · rw [g]; exact SI
      · rw [List.mem_singleton.mp g]; exact ST)).trans e
    exact fin b _ _ _ hS5 st5 (fun c o e => (Heap.get?_update_other h4 (Obj.mapSeq fun _ => #[b, b]) (Ne.symm (Sk c o e))).trans (k5 c o e)) h
  | false =>
    rw [if_neg (by decide)]
    refine wpAny_bind (wpAny_letGo (wpAny_pure ⟨plainId_quiet F.plain_min_loop _, ?_⟩))
    exact fin a _ _ _ hS4 st4 k5 h
theorem max2_any {prog : Program} {w : World} {A : Around} {E : Value → Shared → Prop} {s : Shared} {a b : Value} {Q : Value → Shared → Prop} {r : Bool} (hh : A.handled = none)
    (cmp : ∀ (s' : Shared) (Q' E' : Value → Shared → Prop), (∀ (c : Addr) (o : Obj), s.heap.get? c = some o → s'.heap.get? c = some o) → Q' (.bool r) s' → wpAny (model prog w) A.in1 (richCompare CmpOp.Gt b a) Q' E' s')
    (h : ∀ (h' : Heap) (tk : Nat), (∀ (c : Addr) (o : Obj), s.heap.get? c = some o → h'.get? c = some o) → Q (if r = true then b else a) { heap := h', gens := s.gens, drawn := s.drawn, toks := tk, os := s.os }) :
    wpAny (model prog w) A (call (.builtin "max") [a, b]) Q E s := by
  refine call_function_tree F.kind_max F.plain_max F.entry_max (F.args_max2 a b) ?_
  refine wpAny_bind (wpAny_of_eq (show _ = _ from rfl) ?_)
  refine wpAny_bind ?_
  refine wpAny_newObj_type (wpAny_bind ?_)
  have nT : s.heap.objs.size ≠ (s.heap.push { cls := .type "tuple", dict := none, data := .seq #[a, b] 0 }).objs.size := by rw [Heap.size_push]; exact Nat.ne_of_lt (Nat.lt_succ_self _)
  have hT : IsTup (s.heap.push { cls := .type "tuple", dict := none, data := .seq #[a, b] 0 }) s.heap.objs.size #[a, b] := ⟨_, Heap.get?_push_size s.heap rfl, rfl, 0, rfl⟩
  refine iter_tuple hT ?_
  have sT : (s.heap.push { cls := .type "tuple", dict := none, data := .seq #[a, b] 0 }).objs.size = s.heap.objs.size + 1 := Heap.size_push _ _
  generalize eI : (s.heap.push { cls := .type "tuple", dict := none, data := .seq #[a, b] 0 }).objs.size = I at *
  have W := Walks.tuple (prog := prog) (w := w) (A := A.in1) hh I s.heap.objs.size nT #[a, b]
  have i0 : Heap.IsTupleIter ((s.heap.push { cls := .type "tuple", dict := none, data := .seq #[a, b] 0 }).push { cls := .type "tuple_iterator", data := .fields #[.ref s.heap.objs.size, .int 0 0] }) I s.heap.objs.size 0 := ⟨_, by rw [← eI]; exact Heap.get?_push_size _ rfl, rfl, rfl⟩
  have t0 : Heap.IsTuple ((s.heap.push { cls := .type "tuple", dict := none, data := .seq #[a, b] 0 }).push { cls := .type "tuple_iterator", data := .fields #[.ref s.heap.objs.size, .int 0 0] }) s.heap.objs.size #[a, b] := hT.push _
  have k0 : ∀ (c : Addr) (o : Obj), s.heap.get? c = some o → ((s.heap.push { cls := .type "tuple", dict := none, data := .seq #[a, b] 0 }).push { cls := .type "tuple_iterator", data := .fields #[.ref s.heap.objs.size, .int 0 0] }).get? c = some o := fun c o e => Heap.get?_push_of_some _ (Heap.get?_push_of_some _ e)
  have z0 : ((s.heap.push { cls := .type "tuple", dict := none, data := .seq #[a, b] 0 }).push { cls := .type "tuple_iterator", data := .fields #[.ref s.heap.objs.size, .int 0 0] }).objs.size = I + 1 := by rw [Heap.size_push, eI]
  generalize ((s.heap.push { cls := .type "tuple", dict := none, data := .seq #[a, b] 0 }).push { cls := .type "tuple_iterator", data := .fields #[.ref s.heap.objs.size, .int 0 0] }) = h0 at *
  refine wpAny_bind (wpAny_newList ?_ (by simp))
  dsimp only
  have hS : (h0.push { cls := .type "list", dict := none, data := .seq (List.toArray []) 0 }).get? h0.objs.size = some { cls := .type "list", dict := none, data := .seq #[] 0 } := Heap.get?_push_size _ rfl
  have st1 := W.frame 0 h0 (h0.push { cls := .type "list", dict := none, data := .seq (List.toArray []) 0 }) ⟨i0, t0⟩ fun b _ o e => Heap.get?_push_of_some _ e
  have k1 : ∀ (c : Addr) (o : Obj), s.heap.get? c = some o → (h0.push { cls := .type "list", dict := none, data := .seq (List.toArray []) 0 }).get? c = some o := fun c o e => Heap.get?_push_of_some _ (k0 c o e)
  have SI : h0.objs.size ≠ I := by rw [z0]; exact Nat.ne_of_gt (Nat.lt_succ_self _)
  have ST : h0.objs.size ≠ s.heap.objs.size := by rw [z0, sT]; exact Nat.ne_of_gt (Nat.lt_succ_of_lt (Nat.lt_succ_self _))
  have Sk : ∀ (c : Addr) (o : Obj), s.heap.get? c = some o → c ≠ h0.objs.size := fun c o e g => by have := Heap.lt_size e; rw [g, z0, sT] at this; exact Nat.not_lt_of_le (Nat.le_add_right _ 2) this
  generalize (h0.push { cls := .type "list", dict := none, data := .seq (List.toArray []) 0 }) = h1 at *
  generalize h0.objs.size = S at *
  rw [show (toString "max" ++ toString ".loop") = "max.loop" from by decide]
  refine wpAny_pure ⟨plainId_quiet F.plain_max_loop _, codeAny_builtin F.entry_max_loop ?_⟩
  rw [Around.under_plainId F.plain_max_loop _]
  refine wpAny_bind (wpAny_seqItems hS rfl ?_)
  refine wpAny_bind ?_
  refine wpAny_tryCatch (W.item 0 _ _ _ (by show 0 < 2; decide) st1 fun v h2 tk2 hv st2 k2 => ?_)
  obtain rfl : a = v := by simpa using hv
  dsimp only
  refine wpAny_bind (wpAny_pure ?_)
  have nI : ∀ c : Addr, c ≠ I → ¬ c ∈ [I] := fun c hc m => hc (List.mem_singleton.mp m)
  have hS2 := k2 S _ (nI S SI) hS
  refine wpAny_bind (wpAny_updateSeq hS2 rfl ?_ (by simp) (by show 2 ≤ sizeLine + 1; decide))
  have hS3 := Heap.get?_update_self (Obj.mapSeq fun _ => #[a, a]) hS2 rfl
  have st3 := W.frame 1 h2 (h2.update S (Obj.mapSeq fun _ => #[a, a])) st2 fun c hc o e => (Heap.get?_update_other h2 (Obj.mapSeq fun _ => #[a, a]) (by
    rcases List.mem_cons.mp hc with g | g
    · rw [g]; exact SI
    · rw [List.mem_singleton.mp g]; exact ST)).trans e
  have k3 : ∀ (c : Addr) (o : Obj), s.heap.get? c = some o → (h2.update S (Obj.mapSeq fun _ => #[a, a])).get? c = some o := fun c o e => (Heap.get?_update_other h2 (Obj.mapSeq fun _ => #[a, a]) (Ne.symm (Sk c o e))).trans (k2 c o (nI c fun g => by have := Heap.lt_size e; rw [g, sT] at this; exact Nat.not_lt_of_le (Nat.le_add_right _ 1) this) (k1 c o e))
  dsimp only
  generalize (h2.update S (Obj.mapSeq fun _ => #[a, a])) = h3 at *
  rw [show (toString "max" ++ toString ".loop") = "max.loop" from by decide]
  refine wpAny_pure ⟨plainId_quiet F.plain_max_loop _, codeAny_builtin F.entry_max_loop ?_⟩
  rw [Around.under_plainId F.plain_max_loop _]
  refine wpAny_bind (wpAny_seqItems hS3 rfl ?_)
  refine wpAny_bind (wpAny_tryCatch (W.item 1 _ _ _ (by show 1 < 2; decide) st3 fun v h4 tk4 hv st4 k4 => ?_))
  obtain rfl : b = v := by simpa using hv
  dsimp only
  refine wpAny_bind (wpAny_pure ?_)
  have hS4 := k4 S _ (nI S SI) hS3
  have k5 : ∀ (c : Addr) (o : Obj), s.heap.get? c = some o → h4.get? c = some o := fun c o e => k4 c o (nI c fun g => by have := Heap.lt_size e; rw [g, sT] at this; exact Nat.not_lt_of_le (Nat.le_add_right _ 1) this) (k3 c o e)
  have fin : ∀ (x : Value) (h5 : Heap) (tk5 : Nat) (n5 : Nat), h5.get? S = some { cls := .type "list", dict := none, data := .seq #[x, x] n5 } → (h5.IsTupleIter I s.heap.objs.size 2 ∧ h5.IsTuple s.heap.objs.size #[a, b]) → (∀ (c : Addr) (o : Obj), s.heap.get? c = some o → h5.get? c = some o) →
      (∀ (h' : Heap) (tk : Nat), (∀ (c : Addr) (o : Obj), s.heap.get? c = some o → h'.get? c = some o) → Q x { heap := h', gens := s.gens, drawn := s.drawn, toks := tk, os := s.os }) →
      codeAny (model prog w) A (Code.builtin "max.loop" { pos := [.ref I, .none, .ref S] }) (fun r s' => match r with
        | .ok (.ret v) => Q v s'
        | .ok _ => False
        | .error e => E e s') { heap := h5, gens := s.gens, drawn := s.drawn, toks := tk5, os := s.os } := by
    intro x h5 tk5 n5 hS5 st5 k5 hq
    refine codeAny_builtin F.entry_max_loop ?_
    rw [Around.under_plainId F.plain_max_loop _]
    refine wpAny_bind (wpAny_seqItems hS5 rfl ?_)
    refine wpAny_bind (wpAny_tryCatch (W.done _ _ _ st5 fun h6 tk6 k6 => ?_))
    have hS6 := k6 S _ (nI S SI) hS5
    refine wpAny_bind (wpAny_updateSeq hS6 rfl ?_ (by show 2 ≤ sizeLine; decide) (by show 0 ≤ sizeLine + 1; decide))
    refine wpAny_bind (wpAny_letGo (wpAny_pure ?_))
    refine hq _ _ fun c o e => (Heap.get?_update_other h6 (Obj.mapSeq fun _ => #[]) (Ne.symm (Sk c o e))).trans (k6 c o (nI c fun g => by have := Heap.lt_size e; rw [g, sT] at this; exact Nat.not_lt_of_le (Nat.le_add_right _ 1) this) (k5 c o e))
  refine wpAny_bind (wpAny_tryCatch (wpAny_holding (wpAny_bind (cmp _ _ _ k5 (wpAny_bind (wpAny_holding (wpAny_truthy_bool (wpAny_bind (wpAny_letGo (wpAny_pure ?_))))))))))
  rw [show (toString "max" ++ toString ".loop") = "max.loop" from by decide]
  cases r with
  | true =>
    rw [if_pos rfl]
    refine wpAny_bind (wpAny_updateSeq hS4 rfl ?_ (by show 2 ≤ sizeLine; decide) (by show 2 ≤ sizeLine + 1; decide))
    refine wpAny_bind (wpAny_letGo (wpAny_pure ⟨plainId_quiet F.plain_max_loop _, ?_⟩))
    have hS5 := Heap.get?_update_self (Obj.mapSeq fun _ => #[b, b]) hS4 rfl
    have st5 := W.frame 2 h4 (h4.update S (Obj.mapSeq fun _ => #[b, b])) st4 fun c hc o e => (Heap.get?_update_other h4 (Obj.mapSeq fun _ => #[b, b]) (by
      rcases List.mem_cons.mp hc with g | g
      · rw [g]; exact SI
      · rw [List.mem_singleton.mp g]; exact ST)).trans e
    exact fin b _ _ _ hS5 st5 (fun c o e => (Heap.get?_update_other h4 (Obj.mapSeq fun _ => #[b, b]) (Ne.symm (Sk c o e))).trans (k5 c o e)) h
  | false =>
    rw [if_neg (by decide)]
    refine wpAny_bind (wpAny_letGo (wpAny_pure ⟨plainId_quiet F.plain_max_loop _, ?_⟩))
    exact fin a _ _ _ hS4 st4 k5 h
/-- min(x, y) and max(x, y) of tuples of numbers -/
def rMinT (K : W.Frag) (op : List Int → List Int → Bool) : List V → Hp → VK → Prop := fun vs H Q => ∃ p q ns ms, vs = [.ref p, .ref q] ∧ SqT K H p (ns.map V.int) ∧ SqT K H q (ms.map V.int) ∧ Q (.ref (if op ms ns = true then q else p)) H
theorem cr_minT {X : Cx} (hc : X.calm = true) (hu : X.A.units + 8 < cLine) : CallR X (.builtin "min") (rMinT X.K HT.lexLt) := by
  intro pins s σ H vs us Q I r h
  obtain ⟨p, q, ns, ms, rfl, hp, hq, k⟩ := h
  obtain ⟨u, u', rfl, e1, e2⟩ := Vals.two r
  cases (show u = Value.ref p from e1)
  cases (show u' = Value.ref q from e2)
  obtain ⟨its, r1, p1, z1⟩ := I.tuple hp
  obtain ⟨its2, r2, p2, z2⟩ := I.tuple hq
  have i1 := Vals.ints r1
  have i2 := Vals.ints r2
  refine min2_any (r := HT.lexLt ms ns) (I.ok.hd hc) (fun s' Q' E' kp hq' => ?_) (fun h' tk kp => ⟨_, H, I.kept kp, ?_, k⟩)
  · obtain ⟨o1, a1, a2, a3⟩ := p1
    obtain ⟨o2, b1, b2, b3⟩ := p2
    exact HT.lt_tupInts (A := X.A.in1) ⟨o2, kp _ _ b1, b2, b3⟩ ⟨o1, kp _ _ a1, a2, a3⟩ i2 i1 (show X.A.units + 1 < cLine by omega) hq'
  · cases HT.lexLt ms ns <;> rfl
theorem gt_tup {prog : Program} {w : World} {A : Around} {E : Value → Shared → Prop} {s : Shared} {a b : Addr} {items items2 : Array Value} {ns ms : List Int} {Q : Value → Shared → Prop} (p1 : IsTup s.heap a items) (p2 : IsTup s.heap b items2) (i1 : IntsAre items.toList ns) (i2 : IntsAre items2.toList ms) (hu : A.units < cLine) (h : Q (.bool (gtL ns ms)) s) :
    wpAny (model prog w) A (richCompare CmpOp.Gt (.ref a) (.ref b)) Q E s := by
  have e1 : items.size = ns.length := by rw [← Array.length_toList]; exact i1.length
  have e2 : items2.size = ms.length := by rw [← Array.length_toList]; exact i2.length
  have at1 : ∀ j (h : j < items.size), ∃ t, items[j] = .int (ns.getD j 0) t := fun j h => IntsAre.int_at i1 j _ (by simp)
  have at2 : ∀ j (h : j < items2.size), ∃ t, items2[j] = .int (ms.getD j 0) t := fun j h => IntsAre.int_at i2 j _ (by simp)
  have R := Ob.RcOp.tuples_gt (e := fun j => decide (ns.getD j 0 = ms.getD j 0)) (r := fun j => decide (ms.getD j 0 < ns.getD j 0)) p1 p2 hu (fun j h1 h2 => by
      obtain ⟨t, et⟩ := at1 j h1
      obtain ⟨t', et'⟩ := at2 j h2
      rw [et, et']
      have z : ∀ x y : Int, (x == y) = decide (x = y) := fun x y => by rw [Bool.eq_iff_iff, beq_iff_eq, decide_eq_true_iff]
      rw [← z]
      exact SeqAt.EqAt.int_int _ t _ t') (fun j h1 h2 _ => by
      obtain ⟨t, et⟩ := at1 j h1
      obtain ⟨t', et'⟩ := at2 j h2
      rw [et, et']
      exact Ob.RcOp.gt_int _ _ t t')
  rw [e1, e2] at R
  exact R prog w E Q h
theorem cr_maxT {X : Cx} (hc : X.calm = true) (hu : X.A.units + 8 < cLine) : CallR X (.builtin "max") (rMinT X.K gtL) := by
  intro pins s σ H vs us Q I r h
  obtain ⟨p, q, ns, ms, rfl, hp, hq, k⟩ := h
  obtain ⟨u, u', rfl, e1, e2⟩ := Vals.two r
  cases (show u = Value.ref p from e1)
  cases (show u' = Value.ref q from e2)
  obtain ⟨its, r1, p1, z1⟩ := I.tuple hp
  obtain ⟨its2, r2, p2, z2⟩ := I.tuple hq
  have i1 := Vals.ints r1
  have i2 := Vals.ints r2
  refine max2_any (r := gtL ms ns) (I.ok.hd hc) (fun s' Q' E' kp hq' => ?_) (fun h' tk kp => ⟨_, H, I.kept kp, ?_, k⟩)
  · obtain ⟨o1, a1, a2, a3⟩ := p1
    obtain ⟨o2, b1, b2, b3⟩ := p2
    exact gt_tup (A := X.A.in1) ⟨o2, kp _ _ b1, b2, b3⟩ ⟨o1, kp _ _ a1, a2, a3⟩ i2 i1 (show X.A.units + 1 < cLine by omega) hq'
  · cases gtL ms ns <;> rfl
end Cf
/-! Own layer: dict(..) of a list of pairs whose keys are tuples; repr and clear of such a dict. -/
namespace Cf
open PySem PySem.Spec PyProof.Rows L2
abbrev PairTold (H : Hp) (t : Addr) (x : Ent) : Prop := H t = some (.tup [.ref x.1, x.2.2])
def rDictK (P : Program) (w : World) : List V → Hp → VK → Prop := fun vs H Q => ∃ (L : Addr) (ts : List Addr) (xs : List Ent), vs = [.ref L] ∧ H L = some (.lst (ts.map V.ref)) ∧ Paired (PairTold H) ts xs ∧ KeysAt H xs ∧ (xs.map fun x => x.2.1).Nodup ∧ xs.length ≤ sizeLine ∧
  ∀ D, H D = none → Q (.ref D) (upd H D (KDo P w D xs))
theorem refs_vals : ∀ {ts : List Addr} {us : List Value}, Vals (ts.map V.ref) us → us = ts.map Value.ref
  | [], _, .nil => rfl
  | t :: ts, _, .cons r rs => by rw [refs_vals rs]; cases r; rfl
theorem storedAllH_snoc {ys : List (NestedKey × Addr × Value)} : ∀ {acc : List (NestedKey × Addr × Value)}, ((acc ++ ys).map (·.1)).Nodup → storedAllH acc ys = acc ++ ys := by
  induction ys with
  | nil => intro acc _; simp [storedAllH]
  | cons y ys ih =>
    intro acc nd
    have hn : atKey acc y.1 = none := by
      unfold atKey
      rw [List.find?_eq_none.mpr]
      · rfl
      · intro x hx e
        rw [List.map_append, List.nodup_append] at nd
        exact nd.2.2 x.1 (List.mem_map.mpr ⟨x, hx, rfl⟩) y.1 (by simp) (by simpa using e)
    have e1 : storedAllH acc (y :: ys) = storedAllH (acc ++ [y]) ys := by
      show storedAllH (storedH acc y.1 y.2.1 y.2.2) ys = _
      rw [storedH_new hn]
    rw [e1, ih (by rw [List.append_assoc]; exact nd), List.append_assoc]
    rfl
section
variable {X : Cx} {pins : List (Addr × Obj)} {σ : L2.St} {H : Hp} {s : Shared}
theorem pairs_read (I : Inv X pins σ H s) {ts : List Addr} {xs : List Ent} (h : Paired (PairTold H) ts xs) (ks : KeysAt H xs) :
    ∃ ps : List (NestedKey × Addr × Value), Paired EntRel xs ps ∧ ps.length = ts.length ∧ (∀ x ∈ ps, (nestedKind X.prog X.w).is s.heap x.1 x.2.1) ∧ ∀ (j : Nat) (p : NestedKey × Addr × Value), ps[j]? = some p → ∃ t, ts[j]? = some t ∧ PairAt s.heap t (.ref p.2.1) p.2.2 := by
  induction h with
  | nil => exact ⟨[], .nil, rfl, (fun _ h => nomatch h), fun j p h => by simp at h⟩
  | @cons t x ts xs h _ ih =>
    obtain ⟨ps, p1, p2, p3, p4⟩ := ih fun x hx => ks x (List.mem_cons_of_mem _ hx)
    obtain ⟨its, rv, hp, _⟩ := I.tuple (SqT.of (show H t = some (.tup [.ref x.1, x.2.2]) from h))
    obtain ⟨u, v, rfl, e1, e2⟩ := Vals.two rv
    cases (show u = Value.ref x.1 from e1)
    refine ⟨(nkey x.2.1, x.1, v) :: ps, .cons ⟨rfl, rfl, e2⟩ p1, by rw [List.length_cons, List.length_cons, p2], fun y hy => ?_, fun j p hj => ?_⟩
    · rcases List.mem_cons.mp hy with rfl | hy
      · exact (ks x List.mem_cons_self).is I
      · exact p3 y hy
    · cases j with
      | zero =>
        rw [List.getElem?_cons_zero] at hj
        cases hj
        exact ⟨t, rfl, .inl hp⟩
      | succ j =>
        rw [List.getElem?_cons_succ] at hj ⊢
        exact p4 j p hj
theorem call_dictK (hc : X.calm = true) (hu : X.A.units + 12 < cLine) : CallR X (.type "dict") (rDictK X.prog X.w) := by
  intro pins s σ H vs us Q I r h
  obtain ⟨L, ts, xs, rfl, hL, hT, hk, nd, sz, q⟩ := h
  obtain ⟨u, rfl, ru⟩ : ∃ u, us = [u] ∧ RelV (.ref L) u := by
    cases r with
    | cons z1 z2 => cases z2; exact ⟨_, rfl, z1⟩
  cases (show u = Value.ref L from ru)
  obtain ⟨its, rv, pl, hz⟩ := I.list (SqL.of hL)
  have ei := refs_vals rv
  subst ei
  obtain ⟨ps, p1, p2, p3, p4⟩ := pairs_read I hT hk
  have lp : ps.length ≤ sizeLine := by rw [← p1.length]; exact sz
  have PA := PairArg.list (prog := X.prog) (w := X.w) L (ts.map Value.ref).toArray (fun j => ts.getD j 0) (ps.map fun p => (Value.ref p.2.1, p.2.2))
  have kn : (ps.map (·.1)).Nodup := by rw [ent_keys p1]; exact nodup_keys nd
  refine call_dict_pairsH (knd := nestedKind X.prog X.w) (ps := ps) PA (I.ok.hd hc) (show X.A.in1.in1.units + 8 < cLine by show X.A.units + 1 + 1 + 8 < cLine; omega) ⟨pl, ?_, ?_⟩ ⟨by simp, ?_⟩ ?_ (by simpa using lp) ?_
  · simp [p2]
  · intro j k v hj
    rw [List.getElem?_map] at hj
    cases e : ps[j]? with
    | none => rw [e] at hj; cases hj
    | some p =>
      rw [e] at hj
      cases hj
      obtain ⟨t, ht, pa⟩ := p4 j p e
      have e2 : ts.getD j 0 = t := by rw [List.getD_eq_getElem?_getD, ht]; rfl
      show (ts.map Value.ref).toArray[j]? = some (.ref (ts.getD j 0)) ∧ PairAt s.heap (ts.getD j 0) (.ref p.2.1) p.2.2
      rw [e2]
      exact ⟨by simp [ht], pa⟩
  · intro j k v hj
    show ∃ k' b, ps[j]? = some (k', b, v) ∧ k = .ref b
    have hj' : (ps.map fun p => (Value.ref p.2.1, p.2.2))[j]? = some (k, v) := hj
    rw [List.getElem?_map] at hj'
    cases e : ps[j]? with
    | none => rw [e] at hj'; cases hj'
    | some p =>
      rw [e] at hj'
      cases hj'
      exact ⟨_, _, rfl, rfl⟩
  · intro h' hk' x hx
    refine nestedKind_stays.stays (fun b o vs n e _ => hk' b o (Nat.ne_of_lt (Heap.lt_size e)) (fun z => nomatch z) e) (p3 x hx)
  · intro h' tk hd' kp
    rw [storedAllH_snoc (by simpa using kn)] at hd'
    obtain ⟨o, es, ep, e1, e2, e3, e4, _⟩ := hd'
    refine ⟨.ref s.heap.objs.size, _, I.laid (fun b o e => kp b o (fun z => nomatch z) e) (Nat.le_refl _) (kdo_new (beq_eq_false_iff_ne.mpr (Nat.ne_of_gt (Inv.big I))) nd sz ⟨o, es, ep, ps, e1, e2, e3, e4, p1⟩), rfl, q _ (I.hok.fresh (Nat.le_refl _))⟩
/-! ### d.clear() -/
def tClrK (P : Program) (w : World) (td : TE) : TE := fun σ H Q => td σ H fun x H1 => ∃ (D : Addr) (xs : List Ent), x = .ref D ∧ H1 D = some (KDo P w D xs) ∧ KeysAt H1 xs ∧ Q .non (upd H1 D (KDo P w D []))
theorem pe_clearK {o : Expr} {apos cpos : Pos} {td : TE} (ho : PE X o td)
    (hbase : attributeBase o (Str.ofString "clear") X.env (eval o X.env) = eval o X.env := by rfl) (hline : (apos.endLine == cpos.line) = true := by rfl) :
    PE X (.Call (.Attribute o (Str.ofString "clear") apos) [] [] cpos) (tClrK X.prog X.w td) := by
  refine ⟨fun pins s σ H Q I h => ?_⟩
  refine wpAny_Call_method0_late hbase hline (thn (ho.run pins s σ H _ I h) fun v s1 ⟨x, H1, I1, r1, q1⟩ => ?_)
  obtain ⟨D, xs, rfl, hD, hk, q⟩ := q1
  cases (show v = Value.ref D from r1)
  obtain ⟨n, nd, sz, ys, e5, dd⟩ := kdo_get I1 hD hk
  have dk : s1.heap.DictKeyed (nestedKind X.prog X.w) D (pairsH ys) := ⟨ys, dd, rfl⟩
  obtain ⟨o1, es, ep, e1, e2, e3, e4, _⟩ := id dd
  refine ⟨"dict", "dict.clear", F.plainAttrs_dict, F.slot_dict_clear, F.type_dict_clear, dk.typeIs, fun a ea => ?_, Calls.callWith_builtin rfl (PySem.evalArgs_none ?_)⟩
  · cases ea; exact ⟨o1, e1, e2.2.1⟩
  · refine clear_keyed dk (fun h' dk' sb => ?_) (by rw [pairsH_length, ← e5.length]; exact sz)
    obtain ⟨ys', dd', e'⟩ := dk'
    obtain rfl : ys' = [] := by cases ys' with
      | nil => rfl
      | cons y ys' => cases e'
    obtain ⟨o', es', ep', f1, f2, f3, f4, _⟩ := dd'
    exact ⟨.non, _, d_write I1 (by rw [hD]; exact trivial) sb ⟨o', f1⟩ (kdo_new (xs := []) n List.nodup_nil (Nat.zero_le _) ⟨o', es', ep', [], f1, f2, f3, f4, .nil⟩), rfl, q⟩
/-! ### repr -/
/-- a dict of kinds and numbers, told as data -/
def kData (kk : List (Int × Bool)) (f : Int × Bool → Int) : PyData := .dict (kk.map fun k => (.tuple [.int k.1, .bool k.2], .int (f k)))
/-- its entries, the keys' tuples at qs -/
def kEnts (qs : List Addr) (kk : List (Int × Bool)) (f : Int × Bool → Int) : List Ent := List.zipWith (fun q k => (q, [k.1, if k.2 = true then 1 else 0], V.int (f k))) qs kk
def KTup (H : Hp) (q : Addr) (k : Int × Bool) : Prop := H q = some (.tup [.int k.1, .bl k.2])
def rReprK (P : Program) (w : World) : List V → Hp → VK → Prop := fun vs H Q => ∃ (a : Addr) (qs : List Addr) (kk : List (Int × Bool)) (f : Int × Bool → Int), vs = [.ref a] ∧ Paired (KTup H) qs kk ∧ H a = some (KDo P w a (kEnts qs kk f)) ∧
  kk.length ≤ 100 ∧ (∀ k ∈ kk, 0 ≤ k.1 ∧ k.1 < 4096 ∧ 0 ≤ f k ∧ f k < 4096) ∧ Q (.str (kData kk f).shown) H
theorem short_i {i : Int} (h0 : 0 ≤ i) (h1 : i < 4096) : (PyData.shown (.int i)).length ≤ 13 := by
  show (Str.ofString (toString i)).length ≤ 13
  rw [PyProof.Rows.ofString_length]
  refine int_text_length_le (by decide) ?_
  by_cases z : i.natAbs = 0
  · rw [z]; decide
  · exact (Nat.log2_lt z).mpr (by omega)
theorem log12 {i : Int} (h0 : 0 ≤ i) (h1 : i < 4096) : (if (i == 0) = true then 0 else i.natAbs.log2 + 1) ≤ 13 := by
  by_cases z : i.natAbs = 0
  · have : i = 0 := by omega
    subst this; decide
  · have := (Nat.log2_lt z).mpr (show i.natAbs < 2 ^ 12 by omega)
    split <;> omega
theorem show_int {i : Int} (h0 : 0 ≤ i) (h1 : i < 4096) : PyData.showable (.int i) = true := by
  unfold PyData.showable
  refine decide_eq_true ?_
  by_cases z : i.natAbs = 0
  · rw [z]; decide
  · exact (Nat.log2_lt z).mpr (Nat.lt_of_lt_of_le (show i.natAbs < 2 ^ 12 by omega) (by decide +kernel))
theorem kData_short : ∀ {kk : List (Int × Bool)} {f : Int × Bool → Int}, (∀ k ∈ kk, 0 ≤ k.1 ∧ k.1 < 4096 ∧ 0 ≤ f k ∧ f k < 4096) →
    PyData.leavesShortKv 13 (kk.map fun k => (.tuple [.int k.1, .bool k.2], .int (f k))) = true ∧ PyData.weightKv (kk.map fun k => (.tuple [.int k.1, .bool k.2], .int (f k))) ≤ 60 * kk.length ∧
    PyData.showableKv (kk.map fun k => (.tuple [.int k.1, .bool k.2], .int (f k))) = true ∧ PyData.depthKv (kk.map fun k => (.tuple [.int k.1, .bool k.2], .int (f k))) ≤ 3
  | [], _, _ => ⟨rfl, Nat.le_refl _, rfl, by simp [PyData.depthKv]⟩
  | k :: kk, f, h => by
    obtain ⟨h1, h2, h3, h4⟩ := kData_short (kk := kk) (f := f) fun x hx => h x (List.mem_cons_of_mem _ hx)
    obtain ⟨a1, a2, a3, a4⟩ := h k List.mem_cons_self
    have s1 := short_i a1 a2
    have s2 := short_i a3 a4
    have w1 := show_int a1 a2
    have w2 := show_int a3 a4
    have l1 := log12 a1 a2
    have l2 := log12 a3 a4
    refine ⟨?_, ?_, ?_, ?_⟩
    · simp only [List.map_cons, PyData.leavesShortKv, PyData.leavesShort, PyData.leavesShortAll, Bool.and_eq_true, decide_eq_true_eq]
      exact ⟨⟨⟨s1, trivial, trivial⟩, s2⟩, h1⟩
    · simp only [List.map_cons, PyData.weightKv, PyData.weight, PyData.weightAll, List.length_cons]
      omega
    · simp only [List.map_cons, PyData.showableKv, PyData.showable, PyData.showableAll, Bool.and_eq_true] at *
      exact ⟨⟨⟨w1, trivial, trivial⟩, w2⟩, h3⟩
    · simp only [List.map_cons, PyData.depthKv, PyData.depth, PyData.depthAll] at *
      omega
theorem kents_keys : ∀ {H : Hp} {qs : List Addr} {kk : List (Int × Bool)} {f : Int × Bool → Int}, Paired (KTup H) qs kk → KeysAt H (kEnts qs kk f)
  | _, _, _, _, .nil => fun _ h => nomatch h
  | _, _, _, _, .cons r rs => fun x h => by
    rcases List.mem_cons.mp h with rfl | h
    · exact ⟨by show 2 ≤ 8; decide, _, r, .cons (.int _) (.cons (.bl _) .nil)⟩
    · exact kents_keys rs x h
theorem kents_reads (I : Inv X pins σ H s) : ∀ {qs : List Addr} {kk : List (Int × Bool)} {f : Int × Bool → Int} {ys : List (NestedKey × Addr × Value)}, Paired (KTup H) qs kk → Paired EntRel (kEnts qs kk f) ys →
    ReadsAll s.heap (ys.map fun y => .ref y.2.1) (kk.map fun k => .tuple [.int k.1, .bool k.2]) [] ∧ ReadsAll s.heap (ys.map fun y => y.2.2) (kk.map fun k => .int (f k)) []
  | _, _, _, _, .nil, .nil => ⟨.nil, .nil⟩
  | _, _, f, _, .cons (a := q) (b := k) r rs, .cons (b := y) e es => by
    obtain ⟨h1, h2⟩ := kents_reads I rs es
    obtain ⟨its, rv, ⟨o, a1, a2, n, a3⟩, _⟩ := I.tuple (SqT.of (show H q = some (.tup [.int k.1, .bl k.2]) from r))
    obtain ⟨u, v, rfl, r1, r2⟩ := Vals.two rv
    obtain ⟨t, rfl⟩ := (show ∃ t, u = Value.int k.1 t from r1)
    cases (show v = Value.bool k.2 from r2)
    obtain ⟨e1, e2, e3⟩ := e
    obtain ⟨t2, e3⟩ := (show ∃ t, y.2.2 = Value.int (f k) t from e3)
    refine ⟨.cons (as := []) (bs := []) ?_ h1, .cons (as := []) (bs := []) ?_ h2⟩
    · show Reads s.heap (.ref y.2.1) _ _
      rw [e2]
      exact .tuple a1 a2 a3 (.cons (as := []) (bs := []) (.int _ _) (.cons (as := []) (bs := []) (.bool _) .nil))
    · show Reads s.heap y.2.2 _ _
      rw [e3]
      exact .int _ _
theorem call_reprK (gd : X.A.guards = some []) (hu : X.A.units + 64 < cLine) : CallR X (.builtin "repr") (rReprK X.prog X.w) := by
  intro pins s σ H xs us Q I r h
  obtain ⟨a, qs, kk, f, rfl, hq, ha, lk, bd, q⟩ := h
  obtain ⟨u, rfl, ru⟩ : ∃ u, us = [u] ∧ RelV (.ref a) u := by
    cases r with
    | cons r1 r2 => cases r2; exact ⟨_, rfl, r1⟩
  cases ru
  obtain ⟨n, nd, sz, ys, e5, dd⟩ := kdo_get I ha (kents_keys hq)
  obtain ⟨o, es, ep, e1, e2, e3, e4, _⟩ := dd
  obtain ⟨k1, k2, k3, k4⟩ := kData_short bd
  obtain ⟨r1, r2⟩ := kents_reads I hq e5
  have ek : es.toList.map (·.key) = ys.map fun y => Value.ref y.2.1 := by rw [e4, List.map_map]; rfl
  have ev : es.toList.map (·.val) = ys.map fun y => y.2.2 := by rw [e4, List.map_map]; rfl
  have rd : Reads s.heap (.ref a) (kData kk f) (a :: [] ++ []) := .dict (as := []) (bs := []) e1 e2.1 e3 (by rw [ek, List.map_map]; exact r1) (by rw [ev, List.map_map]; exact r2)
  refine repr_of_reads' rd (by show PyData.showable (.dict _) = true; simp only [PyData.showable]; exact k3) (fun _ hm => ?_) gd (by
    show X.A.units + (PyData.depth (.dict _) + 1) < cLine
    simp only [PyData.depth]
    omega) (fun _ _ e => e) (fun h' u tk k => ?_) (PyData.shown_fits (B := 13) (by decide) (by decide) (by show PyData.leavesShort 13 (.dict _) = true; simp only [PyData.leavesShort]; exact k1) (by
    show PyData.weight (.dict _) ≤ _
    simp only [PyData.weight]
    have : (2 : Nat) ^ 20 = 1048576 := by decide
    omega))
  · rcases List.mem_cons.mp hm with e | e
    · rw [← e] at n; simp at n
    · simp at e
  · exact ⟨.str _, H, I.kept k, ⟨_, rfl⟩, q⟩
/-! ### is not, of truths -/
theorem op_isnotB : OpR X (compareOp .IsNot) (fun x y H Q => ∃ c d, x = .bl c ∧ y = .bl d ∧ Q (.bl (!decide (c = d))) H) := by
  intro pins s σ H x y v u Q I rx ry h
  obtain ⟨c, d, rfl, rfl, q⟩ := h
  cases rx
  cases ry
  exact isnot_bool (fin_bl I q (by cases c <;> cases d <;> rfl))
theorem lt12 {n : Nat} (h : n + 64 < cLine) : n + 12 < cLine := by omega
end
/-! ### bounds of a number in a year -/
theorem mlen_ft {m : Int} (h1 : 1 ≤ m) (h2 : m ≤ 12) (l : Bool) : mlen m false ≤ mlen m l := by
  rcases m12 h1 h2 with rfl | rfl | rfl | rfl | rfl | rfl | rfl | rfl | rfl | rfl | rfl | rfl <;> cases l <;> decide
theorem numIn_bd {y : Yd} (ok : y.Ok) (f : Int) (l : Bool) : 0 ≤ numIn y f l ∧ numIn y f l < 366 := by
  have m1 := mst_1 (l := l)
  cases y with
  | nth m k w =>
    obtain ⟨m1, m2, k1, k4, w0, w6⟩ := ok
    have a := mst_bd (m := m) m1 (by omega) l
    have b := mlen_bd (m := m) m1 m2 l
    have c := mst_succ m1 m2 l
    have d := mst_le (a := m + 1) (b := 13) (by omega) (by omega) (by decide) l
    have e := mst_13 l
    simp only [numIn, onAfter]
    cases l <;> simp at e <;> omega
  | last m w =>
    obtain ⟨m1, m2, w0, w6⟩ := ok
    have a := mst_bd (m := m) m1 (by omega) l
    have b := mlen_bd (m := m) m1 m2 l
    have c := mst_succ m1 m2 l
    have d := mst_le (a := m + 1) (b := 13) (by omega) (by omega) (by decide) l
    have e := mst_13 l
    simp only [numIn, onBefore]
    cases l <;> simp at e <;> omega
  | frm m n w =>
    obtain ⟨⟨m1, m2, n1, n2⟩, ld, w0, w6⟩ := ok
    have a := mst_bd (m := m) m1 (by omega) l
    have b := mlen_ft m1 m2 l
    have c := mst_succ m1 m2 l
    have d := mst_le (a := m) (b := 12) (by omega) (by omega) (by decide) l
    have d2 : m < 12 → mst (m + 1) l ≤ mst 12 l := fun h => mst_le (a := m + 1) (b := 12) (by omega) (by omega) (by decide) l
    have e : mst 12 l ≤ 335 := by cases l <;> decide
    simp only [numIn, onAfter]
    rcases ld with g | ⟨g, h⟩
    · have := d2 g; omega
    · omega
  | unt m n w =>
    obtain ⟨⟨m1, m2, n1, n2⟩, gj, w0, w6⟩ := ok
    have a := mst_bd (m := m) m1 (by omega) l
    have b := mlen_ft m1 m2 l
    have c := mst_succ m1 m2 l
    have d := mst_le (a := m + 1) (b := 13) (by omega) (by omega) (by decide) l
    have e := mst_13 l
    have d2 : 1 < m → mst 2 l ≤ mst m l := fun h => mst_le (a := 2) (b := m) (by decide) (by omega) (by omega) l
    have e2 : 31 ≤ mst 2 l := by cases l <;> decide
    simp only [numIn, onBefore]
    rcases gj with g | ⟨g, h⟩
    · have := d2 g; cases l <;> simp at e <;> omega
    · cases l <;> simp at e <;> omega
  | date m n =>
    obtain ⟨m1, m2, n1, n2⟩ := ok
    have a := mst_bd (m := m) m1 (by omega) l
    have b := mlen_ft m1 m2 l
    have c := mst_succ m1 m2 l
    have d := mst_le (a := m + 1) (b := 13) (by omega) (by omega) (by decide) l
    have e := mst_13 l
    simp only [numIn]
    cases l <;> simp at e <;> omega
  | day n =>
    obtain ⟨a, b⟩ := ok
    simp only [numIn]
    omega
end Cf
namespace Cf
open PySem L2
def top (i : Nat) : Stmt := PySem.Challenge.pw_clockfolds_k20_yearly_days_told.main.body.getD i (.Pass ⟨0, 0, 0, 0⟩)
abbrev clClockError : Stmt := top 1
abbrev clBadNumber : Stmt := top 2
abbrev sBadNumberInit : Stmt := inClass (top 2) 0
abbrev clBadYearly : Stmt := top 3
abbrev sBadYearlyInit : Stmt := inClass (top 3) 0
abbrev sIsNumber : Stmt := top 6
abbrev sCheckNumber : Stmt := top 7
abbrev sIsLeap : Stmt := top 8
abbrev sLeapYearsBefore : Stmt := top 9
abbrev sYearStart : Stmt := top 10
abbrev sMonthLength : Stmt := top 11
abbrev sMonthStart : Stmt := top 12
abbrev sWeekday : Stmt := top 13
abbrev sKindOf : Stmt := top 14
abbrev sInBounds : Stmt := top 19
abbrev sIsYearly : Stmt := top 20
abbrev sCheckYearly : Stmt := top 21
abbrev sAllKinds : Stmt := top 22
abbrev sOnOrAfter : Stmt := top 23
abbrev sOnOrBefore : Stmt := top 24
abbrev sNumberIn : Stmt := top 25
abbrev sDayIn : Stmt := top 26
abbrev sTableOf : Stmt := top 27
abbrev sLawBegun : Stmt := top 29
abbrev sLawMixed : Stmt := top 30
abbrev sLawTake : Stmt := top 31
abbrev sLawPick : Stmt := top 32
abbrev sLawNewYear : Stmt := top 33
abbrev sLawMonth : Stmt := top 34
abbrev sLawIsLong : Stmt := top 35
abbrev sLawSize : Stmt := top 36
abbrev sLawSomeYear : Stmt := top 37
abbrev sLawScanned : Stmt := top 38
abbrev sLawAnyYearly : Stmt := top 39
abbrev sLawSample : Stmt := top 40
abbrev sLawTableRight : Stmt := top 41
abbrev sLaw : Stmt := top 42
set_option hygiene false
local macro_rules | `(tactic| walk_at "len") => `(tactic| repeat (first | (obtain ⟨e, _⟩ := h; subst e; rfl; done) | (obtain ⟨_, h⟩ := h)))
local macro_rules | `(tactic| walk_at "rd") => `(tactic| repeat (first | refine ⟨_, rfl, ?_⟩ | refine ⟨_, _, rfl, rfl, ?_⟩ | refine ⟨rfl, ?_⟩ | refine ⟨_, _, rfl, ?_⟩))
local macro_rules | `(tactic| walk_at "yes") => `(tactic| (dsimp only [tYes]; rw [if_pos rfl]))
set_option hygiene true
/-! ### the law's draws: a dict with the lists wide and cells and the numbers rest and turn -/
/-- the state of the draws at p: its lists at a and b, at most n numbers mixed so far -/
def stK (a b : Addr) (rest turn : Int) : List (Key × V) := [(Sum.inr "wide", V.ref a), (Sum.inr "cells", V.ref b), (Sum.inr "rest", V.int rest), (Sum.inr "turn", V.int turn)]
theorem kwc : ¬ (Sum.inr ("wide" : Str) : Key) = Sum.inr ("cells" : Str) := by decide +kernel
theorem kwr : ¬ (Sum.inr ("wide" : Str) : Key) = Sum.inr ("rest" : Str) := by decide +kernel
theorem kcr : ¬ (Sum.inr ("cells" : Str) : Key) = Sum.inr ("rest" : Str) := by decide +kernel
theorem kwt : ¬ (Sum.inr ("wide" : Str) : Key) = Sum.inr ("turn" : Str) := by decide +kernel
theorem kct : ¬ (Sum.inr ("cells" : Str) : Key) = Sum.inr ("turn" : Str) := by decide +kernel
theorem krt : ¬ (Sum.inr ("rest" : Str) : Key) = Sum.inr ("turn" : Str) := by decide +kernel
theorem ktr : ¬ (Sum.inr ("turn" : Str) : Key) = Sum.inr ("rest" : Str) := by decide +kernel
theorem stK_wide {a b : Addr} {r t : Int} : valV (stK a b r t) (Sum.inr ("wide" : Str) : Key) = some (V.ref a) := by
  unfold stK
  exact valV_pos rfl
theorem stK_cells {a b : Addr} {r t : Int} : valV (stK a b r t) (Sum.inr ("cells" : Str) : Key) = some (V.ref b) := by
  unfold stK
  rw [valV_neg kwc]
  exact valV_pos rfl
theorem stK_rest {a b : Addr} {r t : Int} : valV (stK a b r t) (Sum.inr ("rest" : Str) : Key) = some (V.int r) := by
  unfold stK
  rw [valV_neg kwr, valV_neg kcr]
  exact valV_pos rfl
theorem stK_turn {a b : Addr} {r t : Int} : valV (stK a b r t) (Sum.inr ("turn" : Str) : Key) = some (V.int t) := by
  unfold stK
  rw [valV_neg kwt, valV_neg kct, valV_neg krt]
  exact valV_pos rfl
theorem nkk {x y : Str} (h : (x == y) = false) : ¬ (Sum.inr x : Key) = Sum.inr y := fun e => by
  have e2 := Sum.inr.inj e
  rw [e2] at h
  simp at h
theorem stK_put_rest (a b : Addr) (r t z : Int) : putK (stK a b r t) (Sum.inr ("rest" : Str) : Key) (V.int z) = stK a b z t := by
  unfold putK
  rw [valV_any, stK_rest]
  rw [if_pos (by rfl)]
  unfold stK
  simp only [List.map_cons, List.map_nil, if_neg kwr, if_neg kcr, if_neg ktr, if_true]
theorem stK_put_turn (a b : Addr) (r t z : Int) : putK (stK a b r t) (Sum.inr ("turn" : Str) : Key) (V.int z) = stK a b r z := by
  unfold putK
  rw [valV_any, stK_turn]
  rw [if_pos (by rfl)]
  unfold stK
  simp only [List.map_cons, List.map_nil, if_neg kwt, if_neg kct, if_neg krt, if_true]
theorem stK_merge (a b : Addr) (r t : Int) : mergeK [] (stK a b r t) = stK a b r t := by
  unfold mergeK stK
  simp only [List.foldl_cons, List.foldl_nil]
  rw [putK_new (kvs := []) _ valV_nil, List.nil_append, putK_new, putK_new, putK_new]
  · rfl
  · rw [valV_neg kwc, valV_nil]
  · rw [valV_put, if_neg (fun e => kcr e.symm), valV_neg kwr, valV_nil]
  · rw [valV_put, if_neg (fun e => krt e.symm), valV_put, if_neg (fun e => kct e.symm), valV_neg kwt, valV_nil]
section
variable {H : Hp} {p a b : Addr} {r t z : Int}
theorem get_wide (h : H p = some (.dK (stK a b r t))) : DGet H p (.str "wide") (some (.ref a)) := by
  have q := DGet.k (k := Sum.inr ("wide" : Str)) h
  rw [stK_wide] at q
  exact q
theorem get_cells (h : H p = some (.dK (stK a b r t))) : DGet H p (.str "cells") (some (.ref b)) := by
  have q := DGet.k (k := Sum.inr ("cells" : Str)) h
  rw [stK_cells] at q
  exact q
theorem get_rest (h : H p = some (.dK (stK a b r t))) : DGet H p (.str "rest") (some (.int r)) := by
  have q := DGet.k (k := Sum.inr ("rest" : Str)) h
  rw [stK_rest] at q
  exact q
theorem get_turn (h : H p = some (.dK (stK a b r t))) : DGet H p (.str "turn") (some (.int t)) := by
  have q := DGet.k (k := Sum.inr ("turn" : Str)) h
  rw [stK_turn] at q
  exact q
theorem put_rest (z : Int) (h : H p = some (.dK (stK a b r t))) : DPut H p (.str "rest") (.int z) (upd H p (.dK (stK a b z t))) := by
  have q := DPut.k (k := Sum.inr ("rest" : Str)) (v := V.int z) h (by show 4 < sizeLine; decide)
  rw [stK_put_rest] at q
  exact q
theorem put_turn (z : Int) (h : H p = some (.dK (stK a b r t))) : DPut H p (.str "turn") (.int z) (upd H p (.dK (stK a b r z))) := by
  have q := DPut.k (k := Sum.inr ("turn" : Str)) (v := V.int z) h (by show 4 < sizeLine; decide)
  rw [stK_put_turn] at q
  exact q
end
structure Stt (p a b : Addr) (n : Nat) (H : Hp) : Prop where
  ex : ∃ (ws cs : List Int) (rest turn : Int), H p = some (.dK (stK a b rest turn)) ∧ H a = some (.lst (ws.map V.int)) ∧ H b = some (.lst (cs.map V.int)) ∧ 0 ≤ turn ∧ turn ≤ (n : Int) ∧ cs.length ≤ 63 ∧ ws.length ≤ 63
  ab : a ≠ b
theorem Stt.pa {p a b : Addr} {n : Nat} {H : Hp} (S : Stt p a b n H) : p ≠ a := by
  obtain ⟨ws, cs, rest, turn, h1, h2, _⟩ := S.ex
  exact ne_of h1 h2 (by intro z; cases z)
theorem Stt.pb {p a b : Addr} {n : Nat} {H : Hp} (S : Stt p a b n H) : p ≠ b := by
  obtain ⟨ws, cs, rest, turn, h1, _, h2, _⟩ := S.ex
  exact ne_of h1 h2 (by intro z; cases z)
theorem Stt.mono {p a b : Addr} {n m : Nat} {H : Hp} (S : Stt p a b n H) (h : n ≤ m) : Stt p a b m H := by
  obtain ⟨⟨ws, cs, rest, turn, h1, h2, h3, h4, h5, h6, h7⟩, h8⟩ := S
  exact ⟨⟨ws, cs, rest, turn, h1, h2, h3, h4, by omega, h6, h7⟩, h8⟩
theorem Stt.same {p a b : Addr} {n : Nat} {H H' : Hp} (S : Stt p a b n H) (h : Same H H') : Stt p a b n H' := by
  obtain ⟨⟨ws, cs, rest, turn, h1, h2, h3, h4⟩, h8⟩ := S
  exact ⟨⟨ws, cs, rest, turn, h _ _ h1, h _ _ h2, h _ _ h3, h4⟩, h8⟩
theorem Stt.there {p a b : Addr} {n : Nat} {H : Hp} (S : Stt p a b n H) : ∃ u v w, H p = some (.dK u) ∧ H a = some (.lst v) ∧ H b = some (.lst w) := by
  obtain ⟨⟨ws, cs, rest, turn, h1, h2, h3, _⟩, _⟩ := S
  exact ⟨_, _, _, h1, h2, h3⟩
theorem eqv_ints_nil (ws : List Int) : PyData.eqv (.list (ws.map PyData.int)) (.list []) = ws.isEmpty := by
  cases ws with
  | nil => rfl
  | cons w ws => simp [PyData.eqv, PyData.eqvAll]
theorem dpInts {K : PySem.W.Frag} {H : Hp} : ∀ ws : List Int, DpAll K H (ws.map V.int) (ws.map PyData.int)
  | [] => .nil
  | w :: ws => .cons (.int w) (dpInts ws)
theorem canLay_ints : ∀ ws : List Int, PyData.canLayAll0 (ws.map PyData.int) = true
  | [] => rfl
  | w :: ws => by simp [PyData.canLayAll0, PyData.canLay0, canLay_ints ws]
theorem depth_ints : ∀ ws : List Int, PyData.depthAll (ws.map PyData.int) ≤ 1
  | [] => by simp [PyData.depthAll]
  | w :: ws => by have := depth_ints ws; simp only [List.map_cons, PyData.depthAll, PyData.depth]; omega
theorem shaped_ints (ws : List Int) : SeqAt.shaped (.list (ws.map PyData.int)) = true := by
  unfold SeqAt.shaped
  rw [Bool.and_eq_true]
  refine ⟨?_, decide_eq_true ?_⟩
  · simp only [PyData.canLay0]; exact canLay_ints ws
  · have := depth_ints ws
    simp only [PyData.depth]; omega
theorem seq0 {y : Int} (xs : List V) : seqIndex? 0 (V.int y :: xs).length = some 0 := by
  unfold seqIndex?
  simp
/-! ### what the text's built-in names mean -/
structure Nm (mg : Str → Option Value) : Prop where
  abs : mg "abs" = none
  int : mg "int" = none
  bool : mg "bool" = none
  isinstance : mg "isinstance" = none
  sum : mg "sum" = none
  divmod : mg "divmod" = none
  min : mg "min" = none
  len : mg "len" = none
  range : mg "range" = none
  repr : mg "repr" = none
  max : mg "max" = none
  tuple : mg "tuple" = none
  str : mg "str" = none
  all : mg "all" = none
section
variable {P : Program} {w : World} {K : PySem.W.Frag} {mg : Str → Option Value} {base : Heap}
/-! ### _law_begun -/
def spBegun (K : PySem.W.Frag) : Sp := fun vs H Q _ => ∃ (l : Addr) (ns : List Int), vs = [.ref l] ∧ SqL K H l (ns.map V.int) ∧ ns.length ≤ 63 ∧
  ∀ (H' : Hp) (p a b : Addr), H p = none → H a = none → H b = none → Same H H' → Stt p a b 0 H' → Q (.ref p) H'
theorem scLawBegun : FnScope ["script", "wide", "cell"] ["script"] (defScope sLawBegun) := ⟨rfl, rfl, rfl, by decide +kernel, rfl, by decide +kernel, by decide +kernel⟩
theorem absI (z : Int) : (if z < 0 then -z else z) = (z.natAbs : Int) := by
  by_cases h : z < 0
  · rw [if_pos h]; omega
  · rw [if_neg h]; omega
theorem ok_begun {f : Addr} {fd : FuncData} (F : Fun K "_law_begun" "_law_begun" sLawBegun f fd) (T : Nm mg) : FnOk P w K mg base CX0 1 f fd ["script"] (spBegun K) := by
  refine F.ok scLawBegun (fun vs H Q E h => ?_) (fun cdv A outer s H vs Q E hr h => ?_)
  · obtain ⟨l, ns, rfl, _⟩ := h
    rfl
  · obtain ⟨l, ns, rfl, hS, hlen, k⟩ := h
    have nd := scLawBegun.nd
    refine ⟨_, pss_cons (ps_setLc (i := 1) (own := [("cell", 2)]) (g := gName 2) rfl nd rfl rfl (sw_true rfl rfl rfl (by decide +kernel)) (pi_list (pv 0))
        (blkOk_by (N := ["script", "wide", "cell"]) (sc := defScope sLawBegun) (by decide +kernel)) (fun _ _ _ _ _ => pg_name (i := 2) nd rfl (Or.inl rfl))
        (fun _ _ _ _ _ => pts_one (pt_cmpR op_ge (pe_callB call_abs (by rfl) T.abs (by decide +kernel) (pa_cons (pv 2) pa_nil)) (pe_op op_pow pe_int pe_int) (nomark _)))
        (fun _ _ _ _ _ => pe_op op_sub (pe_callB call_abs (by rfl) T.abs (by decide +kernel) (pa_cons (pv 2) pa_nil)) (pe_op op_pow pe_int pe_int)))
      (pss_one (ps_ret (pe_disp (pps_cons pe_str (pv 1) (pps_cons pe_str
        (pe_lc (own := [("cell", 2)]) (g := gName 2) (tt := tYes) rfl nd (pi_list (pv 0)) (blkOk_by (N := ["script", "wide", "cell"]) (sc := defScope sLawBegun) (by decide +kernel)) (fun _ _ _ _ _ => pg_name (i := 2) nd rfl (Or.inl rfl)) (fun _ _ _ _ _ => pts_nil)
          (fun _ _ _ _ _ => pe_op op_mod (pe_callTy call_int1 (by rfl) T.int (by decide +kernel) (pa_cons (pe_callB call_abs (by rfl) T.abs (by decide +kernel) (pa_cons (pv 2) pa_nil)) pa_nil)) pe_int))
        (pps_cons pe_str pe_int (pps_cons pe_str pe_int pps_nil)))) (by rfl) (by rfl) (fun z => by cases z) (by decide)))), ?_⟩
    have cp : CPow 10 18 := ⟨by decide, by decide, by decide⟩
    -- the first list
    refine ⟨_, rfl, l, rfl, ⟨_, hS⟩, fun D hD => lc_list (K := K) (a := l) (xs := ns.map V.int) (fun i H' => Same H H' ∧ ∃ acc : List Int, acc.length ≤ i ∧ H' D = some (.lst (acc.map V.int)))
      ⟨Same.new hD, [], Nat.le_refl _, upd_same⟩ (fun i H' _ ⟨s1, _⟩ => s1.seq hS) ?_ ?_⟩
    · rintro i y H' hi ⟨s1, acc, hacc, hDl⟩
      have hil := lt_of_get hi
      rw [List.length_map] at hil
      obtain ⟨z, hz, rfl⟩ := ints_get hi
      refine ⟨rfl, ?_⟩
      refine ⟨_, rfl, _, rfl, _, _, rfl, rfl, cp, _, _, rfl, rfl, _, rfl, ?_⟩
      refine ite2 (fun _ => ?_) (fun _ => ?_)
      · refine ⟨_, rfl, _, rfl, _, _, rfl, rfl, cp, _, _, rfl, rfl, acc.map V.int, hDl, ?_, ?_⟩
        · rw [List.length_map]
          exact small1000 (by omega)
        · refine ⟨s1.wr hD, acc ++ [(if z < 0 then -z else z) - 10 ^ 18], ?_, ?_⟩
          · rw [List.length_append, List.length_singleton]; omega
          · rw [upd_same, List.map_append]; rfl
      · exact ⟨s1, acc, by omega, hDl⟩
    · rintro H1 ⟨s1, acc, hacc, hDl⟩
      rw [List.length_map] at hacc
      -- the dict, empty; its pairs
      intro p hp
      have npD : D ≠ p := ne_of_none hDl hp
      have s2 : Same H (upd H1 p (.dK [])) := s1.step hp
      refine ⟨_, rfl, _, rfl, l, rfl, ⟨_, s2.seq hS⟩, fun B hB => lc_list (K := K) (a := l) (xs := ns.map V.int) (fun i H' => Same (upd H1 p (.dK [])) H' ∧ ∃ cs : List Int, cs.length ≤ i ∧ H' B = some (.lst (cs.map V.int)))
        ⟨Same.new hB, [], Nat.le_refl _, upd_same⟩ (fun i H' _ ⟨s3, _⟩ => (s2.trans s3).seq hS) ?_ ?_⟩
      · rintro i y H' hi ⟨s3, cs, hcs, hBl⟩
        have hil := lt_of_get hi
        rw [List.length_map] at hil
        obtain ⟨z, hz, rfl⟩ := ints_get hi
        refine ⟨rfl, ?_⟩
        dsimp only [tYes]
        rw [if_pos rfl]
        refine ⟨_, rfl, _, rfl, .inl ⟨_, rfl, _, _, rfl, rfl, (by show (0 : Int) < 2147483629; decide), cs.map V.int, hBl, ?_, ?_⟩⟩
        · rw [List.length_map]
          exact small1000 (by omega)
        · refine ⟨s3.wr hB, cs ++ [(if z < 0 then -z else z) % 2147483629], ?_, ?_⟩
          · rw [List.length_append, List.length_singleton]; omega
          · rw [upd_same, List.map_append]; rfl
      · rintro H2 ⟨s3, cs, hcs, hBl⟩
        rw [List.length_map] at hcs
        have hp2 : H2 p = some (.dK []) := s3 _ _ upd_same
        refine ⟨hp2, stK D B 0 0, rfl, (by show 4 ≤ 15; decide), ?_⟩
        have nBp : B ≠ p := ne_of hBl hp2 (by intro z; cases z)
        have hDl2 : H2 D = some (.lst (acc.map V.int)) := s3 _ _ (by rw [upd_ne npD]; exact hDl)
        have nDB : D ≠ B := ne_of_none (show (upd H1 p (.dK [])) D = some _ by rw [upd_ne npD]; exact hDl) hB
        refine k _ p D B (s1.free hp) hD (s1.free (by rw [upd_ne nBp] at hB; exact hB)) ?_ ⟨⟨acc, cs, 0, 0, ?_, ?_, ?_, by decide, by decide, by omega, by omega⟩, nDB⟩
        · exact (s2.trans s3).wr (s1.free hp)
        · rw [upd_same, stK_merge]
        · rw [upd_ne npD]; exact hDl2
        · rw [upd_ne nBp]; exact hBl
/-! ### _law_mixed -/
def spMixed : Sp := fun vs H Q _ => ∃ (p a b : Addr) (n : Nat), vs = [.ref p] ∧ Stt p a b n H ∧ n ≤ 1000000 ∧
  ∀ (z : Int) (H' : Hp), Stt p a b (n + 1) H' → But p a H H' → Q (.int z) H'
theorem scLawMixed : FnScope ["state", "turn", "found", "prime", "blend", "cell"] ["state"] (defScope sLawMixed) := ⟨rfl, rfl, rfl, by decide +kernel, rfl, by decide +kernel, by decide +kernel⟩
theorem ok_mixed {f : Addr} {fd : FuncData} (F : Fun K "_law_mixed" "_law_mixed" sLawMixed f fd) (T : Nm mg) : FnOk P w K mg base CX0 1 f fd ["state"] spMixed := by
  refine F.ok scLawMixed (fun vs H Q E h => ?_) (fun cdv A outer s H vs Q E hr h => ?_)
  · obtain ⟨p, a, b, n, rfl, _⟩ := h
    rfl
  · obtain ⟨p, a, b, n, rfl, S, hn, k⟩ := h
    have nd := scLawMixed.nd
    have hu := hu_of hr
    have npa := S.pa
    have npb := S.pb
    obtain ⟨⟨ws, cs, rest, turn, h1, h2, h3, t0, t1, hcs, hws⟩, nab⟩ := S
    refine ⟨_, pss_cons (ps_par (i := 1) (j := 2) (by rfl) nd rfl rfl (by decide) rfl rfl (pa_cons (pe_op op_add (pe_dget hu (pv 0) pe_str (fun _ _ => rfl)) pe_int) (pa_cons pe_int pa_nil)) (by rfl))
      (pss_cons (ps_dput hu (pv 0) pe_str (pv 1) rfl)
      (pss_cons (ps_for PassesOwn.never rfl (pi_list (pe_lst (pa_cons pe_int (pa_cons pe_int (pa_cons pe_int (pa_cons pe_int pa_nil)))))) (pg_name (i := 3) nd rfl (Or.inl rfl))
        (pss_cons (ps_set (i := 4) nd rfl (Or.inl rfl) (pe_op op_add (pe_op op_mul pe_int (pv 1)) (pe_op op_fdiv (pv 3) pe_int)))
        (pss_cons (ps_for PassesOwn.never rfl (pi_list (pe_dget hu (pv 0) pe_str (fun _ _ => rfl))) (pg_name (i := 5) nd rfl (Or.inl rfl))
          (pss_one (ps_set (i := 4) nd rfl (Or.inl rfl) (pe_op op_mod (pe_callTy call_int1 (by rfl) T.int (by decide +kernel) (pa_cons (pe_op op_add (pe_op op_add (pe_op op_mul (pv 4) pe_int) (pv 5)) (pv 1)) pa_nil)) (pv 3)))))
        (pss_one (ps_set (i := 2) nd rfl (Or.inl rfl) (pe_op op_add (pe_op op_mul (pv 2) pe_int) (pe_op op_mod (pe_callTy call_int1 (by rfl) T.int (by decide +kernel) (pa_cons (pe_op op_pow (pv 4) pe_int) pa_nil)) (pv 3))))))))
      (pss_one (ps_ret (pv 2))))), ?_⟩
    -- turn, found = state['turn'] + 1, 0; state['turn'] = turn
    refine ⟨_, rfl, p, V.int turn, rfl, get_turn h1, _, _, rfl, rfl, _, _, rfl, ?_⟩
    refine ⟨_, rfl, _, rfl, p, _, rfl, put_turn (turn + 1) h1, ?_⟩
    -- the primes
    refine ⟨by show 4 ≤ sizeLine; decide, fun D hD => ?_⟩
    have npD : p ≠ D := ne_of_none (upd_same) hD
    have naD : a ≠ D := ne_of_none (show upd H p _ a = some _ by rw [upd_ne npa.symm]; exact h2) hD
    have nbD : b ≠ D := ne_of_none (show upd H p _ b = some _ by rw [upd_ne npb.symm]; exact h3) hD
    have hp' : upd (upd H p (.dK (stK a b rest (turn + 1)))) D (.lst [V.int 2147483629, V.int 2147483587, V.int 2147483579, V.int 2147483563]) p = some (.dK (stK a b rest (turn + 1))) := by rw [upd_ne npD, upd_same]
    have ha' : upd (upd H p (.dK (stK a b rest (turn + 1)))) D (.lst [V.int 2147483629, V.int 2147483587, V.int 2147483579, V.int 2147483563]) a = some (.lst (ws.map V.int)) := by rw [upd_ne naD, upd_ne npa.symm]; exact h2
    have hb' : upd (upd H p (.dK (stK a b rest (turn + 1)))) D (.lst [V.int 2147483629, V.int 2147483587, V.int 2147483579, V.int 2147483563]) b = some (.lst (cs.map V.int)) := by rw [upd_ne nbD, upd_ne npb.symm]; exact h3
    have hB : But p a H (upd (upd H p (.dK (stK a b rest (turn + 1)))) D (.lst [V.int 2147483629, V.int 2147483587, V.int 2147483579, V.int 2147483563])) := fun c o e c1 c2 => by
      have e2 : upd H p (.dK (stK a b rest (turn + 1))) c = some o := by rw [upd_ne c1]; exact e
      rw [upd_ne (ne_of_none e2 hD)]
      exact e2
    generalize hH2 : upd (upd H p (.dK (stK a b rest (turn + 1)))) D (.lst [V.int 2147483629, V.int 2147483587, V.int 2147483579, V.int 2147483563]) = H2 at hp' ha' hb' hB
    have hDl : H2 D = some (.lst ([2147483629, 2147483587, 2147483579, 2147483563].map V.int)) := by rw [← hH2]; exact upd_same
    have tb : turn + 1 ≤ 1000001 := by omega
    refine ⟨D, rfl, ⟨_, SqL.of hDl⟩, for_list (K := K) (a := D) (xs := [2147483629, 2147483587, 2147483579, 2147483563].map V.int)
      (fun i σ H' => H' = H2 ∧ ∃ (fo : Int) (v4 v5 v6 : Option V), σ = [some (.ref p), some (.int (turn + 1)), some (.int fo), v4, v5, v6]) ⟨rfl, 0, none, none, none, rfl⟩ (fun i σ H' _ ⟨e, _⟩ => by subst e; exact SqL.of hDl) ?_ ?_⟩
    · rintro i y σ H' hi ⟨rfl, fo, v4, v5, v6, rfl⟩
      obtain ⟨pr, hpr, rfl⟩ := ints_get hi
      have hp1 : 1000 < pr ∧ pr < 2147483648 := by
        have hm := List.mem_of_getElem? hpr
        simp only [List.mem_cons, List.not_mem_nil, or_false] at hm
        omega
      refine ⟨_, rfl, _, _, rfl, rfl, .inl ⟨by decide, by decide⟩, _, rfl, _, _, rfl, rfl, ⟨by decide, by decide⟩, _, _, rfl, rfl, ?_⟩
      refine ⟨_, rfl, p, V.ref b, rfl, get_cells hp', b, rfl, ⟨_, SqL.of hb'⟩, for_list (K := K) (a := b) (xs := cs.map V.int)
        (fun j σ H'' => H'' = H' ∧ ∃ (bl : Int) (v6 : Option V), 0 ≤ bl ∧ bl < 2 ^ 63 ∧ σ = [some (.ref p), some (.int (turn + 1)), some (.int fo), some (.int pr), some (.int bl), v6]) ⟨rfl, 61441 * (turn + 1) + pr / 19, v6, ?_, ?_, rfl⟩ (fun i σ H' _ ⟨e, _⟩ => by subst e; exact SqL.of hb') ?_ ?_⟩
      · omega
      · omega
      · rintro j y σ H' hj ⟨rfl, bl, v6, b0, b1, rfl⟩
        obtain ⟨c, hc, rfl⟩ := ints_get hj
        refine ⟨_, rfl, _, _, rfl, rfl, .inr ⟨by decide, by decide⟩, _, rfl, _, _, rfl, rfl, _, rfl, _, _, rfl, rfl, .inl ⟨_, rfl, _, rfl, _, _, rfl, rfl, (by show 0 < pr; omega), ?_⟩⟩
        have m1 := Int.emod_nonneg (bl * 48271 + c + (turn + 1)) (show pr ≠ 0 by omega)
        have m2 := Int.emod_lt_of_pos (bl * 48271 + c + (turn + 1)) (show 0 < pr by omega)
        exact ⟨rfl, (bl * 48271 + c + (turn + 1)) % pr, _, m1, by omega, rfl⟩
      · rintro σ H' ⟨rfl, bl, v6, b0, b1, rfl⟩
        refine ⟨_, rfl, _, _, rfl, rfl, .inr ⟨by decide, by decide⟩, _, rfl, _, _, rfl, rfl, ⟨by decide, by decide, by omega⟩, .inl ⟨_, rfl, _, rfl, _, _, rfl, rfl, (by show 0 < pr; omega), _, _, rfl, rfl, ?_⟩⟩
        exact ⟨rfl, _, _, _, _, rfl⟩
    · rintro σ H' ⟨rfl, fo, v4, v5, v6, rfl⟩
      refine ⟨_, rfl, ?_⟩
      refine k fo H' ⟨⟨ws, cs, rest, turn + 1, hp', ha', hb', by omega, by omega, hcs, hws⟩, nab⟩ hB
/-! ### _law_take -/
def spTake : Sp := fun vs H Q _ => ∃ (p a b : Addr) (n : Nat) (size : Int), vs = [.ref p, .int size] ∧ Stt p a b n H ∧ n ≤ 1000000 ∧ 0 < size ∧ size ≤ 1000000000 ∧
  ∀ (z : Int) (H' : Hp), 0 ≤ z → z < size → Stt p a b (n + 1) H' → But p a H H' → Q (.int z) H'
theorem scLawTake : FnScope ["state", "size", "found"] ["state", "size"] (defScope sLawTake) := ⟨rfl, rfl, rfl, by decide +kernel, rfl, by decide +kernel, by decide +kernel⟩
theorem ok_take {f : Addr} {fd : FuncData} (F : Fun K "_law_take" "_law_take" sLawTake f fd) (T : Nm mg) (DM : Df P w K mg base 1 "_law_mixed" ["state"] [] spMixed) : FnOk P w K mg base CX0 2 f fd ["state", "size"] spTake := by
  refine F.ok scLawTake (fun vs H Q E h => ?_) (fun cdv A outer s H vs Q E hr h => ?_)
  · obtain ⟨p, a, b, n, size, rfl, _⟩ := h
    rfl
  · obtain ⟨p, a, b, n, size, rfl, S, hn, z0, z1, k⟩ := h
    have nd := scLawTake.nd
    have hu := hu_of hr
    refine ⟨_, pss_cons (ps_if (pt_cmpR op_eq (pe_dget hu (pv 0) pe_str (fun _ _ => rfl)) pe_int (nomark _))
        (pss_one (ps_dput hu (pv 0) pe_str (pe_ifExp (pt_cmpR (op_neD hr.units) (pe_dget hu (pv 0) pe_str (fun _ _ => rfl)) (pe_lst pa_nil) (nomark _))
            (pe_bm PySem.F.plainAttrs_list PySem.F.slot_list_pop PySem.F.type_list_pop mt_popAt (pe_dget hu (pv 0) pe_str (fun _ _ => rfl)) (pa_cons pe_int pa_nil))
            (pe_df DM hr (pa_cons (pv 0) pa_nil))) rfl)) pss_nil)
      (pss_cons (ps_set (i := 2) nd rfl (Or.inl rfl) (pe_op op_mod (pe_callTy call_int1 (by rfl) T.int (by decide +kernel) (pa_cons (pe_dget hu (pv 0) pe_str (fun _ _ => rfl)) pa_nil)) (pv 1)))
      (pss_cons (ps_dput hu (pv 0) pe_str (pe_op op_fdiv (pe_dget hu (pv 0) pe_str (fun _ _ => rfl)) (pv 1)) rfl)
      (pss_one (ps_ret (pv 2))))), ?_⟩
    have npa := S.pa
    have npb := S.pb
    have nab := S.ab
    obtain ⟨⟨ws, cs, rest, turn, h1, h2, h3, t0, t1, hcs, hws⟩, _⟩ := id S
    have fin : ∀ (H1 : Hp) (r1 : Int), (∃ (ws' cs' : List Int) (t' : Int), H1 p = some (.dK (stK a b r1 t')) ∧ H1 a = some (.lst (ws'.map V.int)) ∧ H1 b = some (.lst (cs'.map V.int)) ∧ 0 ≤ t' ∧ t' ≤ ((n + 1 : Nat) : Int) ∧ cs'.length ≤ 63 ∧ ws'.length ≤ 63) → But p a H H1 →
        tAsg (tOp (rI (fun _ j => 0 < j) fun i j => .int (i % j)) (tCB (fun xs H Q => (∃ i, xs = [.int i] ∧ Q (.int i) H) ∨ ∃ k, xs = [.bl k] ∧ Q (.int (if k = true then 1 else 0)) H) (tCons (tDGet (tVar 0) (tC (.str "rest"))) tNil)) (tVar 1)) (gName 2)
          { nx := fun σ1 H1 => sDPut (tVar 0) (tC (.str "rest")) (tOp (rI CDiv fun i j => .int (i / j)) (tDGet (tVar 0) (tC (.str "rest"))) (tVar 1)) { nx := fun σ2 H2 => tRet (tVar 2) { nx := fun _ H' => Q .non H', rt := Q } σ2 H2, rt := Q } σ1 H1, rt := Q } [some (.ref p), some (.int size), none] H1 := by
      intro H1 r1 hh bb
      obtain ⟨ws', cs', t', g1, g2, g3, g4⟩ := hh
      refine ⟨_, rfl, p, V.int r1, rfl, get_rest g1, .inl ⟨_, rfl, _, rfl, _, _, rfl, rfl, z0, ?_⟩⟩
      refine ⟨_, rfl, p, V.int r1, rfl, get_rest g1, _, rfl, _, _, rfl, rfl, ⟨z0, by omega⟩, _, rfl, p, _, rfl, put_rest _ g1, _, rfl, ?_⟩
      refine k _ _ (Int.emod_nonneg _ (by omega)) (Int.emod_lt_of_pos _ z0) ⟨⟨ws', cs', _, t', upd_same, ?_, ?_, g4⟩, nab⟩ ?_
      · rw [upd_ne npa.symm]; exact g2
      · rw [upd_ne npb.symm]; exact g3
      · exact fun c o e c1 c2 => by rw [upd_ne c1]; exact bb c o e c1 c2
    refine ⟨_, rfl, p, V.int rest, rfl, get_rest h1, rfl, _, rfl, ?_⟩
    refine ite2 (fun _ => ?_) (fun _ => ?_)
    · -- rest is 0
      refine ⟨_, rfl, p, V.ref a, rfl, get_wide h1, Nat.zero_le _, fun D hD => ?_⟩
      have n1 : p ≠ D := ne_of_none h1 hD
      have n2 : a ≠ D := ne_of_none h2 hD
      have n3 : b ≠ D := ne_of_none h3 hD
      have d1 : upd H D (.lst []) p = some (.dK (stK a b rest turn)) := by rw [upd_ne n1]; exact h1
      have d2 : upd H D (.lst []) a = some (.lst (ws.map V.int)) := by rw [upd_ne n2]; exact h2
      have d3 : upd H D (.lst []) b = some (.lst (cs.map V.int)) := by rw [upd_ne n3]; exact h3
      have d4 : But p a H (upd H D (.lst [])) := But.of (Same.new hD)
      refine ⟨.list (ws.map PyData.int), .list [], .lst (SqL.of d2) (dpInts ws), .lst (SqL.of upd_same) .nil, shaped_ints ws, by decide, _, rfl, ?_⟩
      rw [eqv_ints_nil]
      cases ws with
      | nil =>
        refine iteFF rfl ?_
        refine ⟨_, rfl, p, a, b, n, rfl, ⟨⟨[], cs, rest, turn, d1, d2, d3, t0, t1, hcs, hws⟩, nab⟩, hn, fun y H2 S2 B2 => ?_⟩
        obtain ⟨⟨ws2, cs2, r2, t2, e1, e2, e3, e4⟩, _⟩ := S2
        refine ⟨_, rfl, p, _, rfl, put_rest _ e1, ?_⟩
        refine fin _ y ⟨ws2, cs2, t2, upd_same, ?_, ?_, e4⟩ ?_
        · rw [upd_ne npa.symm]; exact e2
        · rw [upd_ne npb.symm]; exact e3
        · exact fun c o e c1 c2 => by rw [upd_ne c1]; exact B2 c o (d4 c o e c1 c2) c1 c2
      | cons y ws =>
        refine iteTT rfl ?_
        refine ⟨_, rfl, p, V.ref a, rfl, get_wide d1, .inl ⟨rfl, _, SqL.of d2⟩, a, _, 0, 0, V.int y, rfl, rfl, d2, by decide, by decide, seq0 _, rfl, ?_⟩
        have e1 : upd (upd H D (.lst [])) a (.lst (((y :: ws).map V.int).eraseIdx 0)) p = some (.dK (stK a b rest turn)) := by rw [upd_ne npa]; exact d1
        refine ⟨_, rfl, p, _, rfl, put_rest y e1, ?_⟩
        refine fin _ y ⟨ws, cs, turn, upd_same, ?_, ?_, t0, by omega, hcs, ?_⟩ ?_
        · rw [upd_ne npa.symm, upd_same]; rfl
        · rw [upd_ne npb.symm, upd_ne nab.symm]; exact d3
        · rw [List.length_cons] at hws; omega
        · exact fun c o e c1 c2 => by rw [upd_ne c1, upd_ne c2]; exact d4 c o e c1 c2
    · exact fin H rest ⟨ws, cs, turn, h1, h2, h3, t0, by omega, hcs, hws⟩ But.refl
end
end Cf
namespace Cf
open PySem L2
set_option hygiene false
local macro_rules | `(tactic| walk_at "len") => `(tactic| repeat (first | (obtain ⟨e, _⟩ := h; subst e; rfl; done) | (obtain ⟨_, h⟩ := h)))
local macro_rules | `(tactic| walk_at "rd") => `(tactic| repeat (first | refine ⟨_, rfl, ?_⟩ | refine ⟨_, _, rfl, rfl, ?_⟩ | refine ⟨rfl, ?_⟩ | refine ⟨_, _, rfl, ?_⟩))
local macro_rules | `(tactic| walk_at "yes") => `(tactic| (dsimp only [tYes]; rw [if_pos rfl]))
set_option hygiene true
section
variable {P : Program} {w : World} {K : PySem.W.Frag} {mg : Str → Option Value} {base : Heap}
/-! ### the program's constants -/
structure Cn (K : PySem.W.Frag) (mg : Str → Option Value) : Prop where
  cy : ∃ t, mg "CYCLE_YEARS" = some (.int 400 t)
structure Cm (K : PySem.W.Frag) (mg : Str → Option Value) (tp : Addr) : Prop where
  ml : mg "MONTH_LENGTHS" = some (.ref tp)
  sq : ∀ H : Hp, SqT K H tp (MLs.map V.int)
/-! ### is_number, check_number -/
def spIsNum : Sp := fun vs H Q _ => ∃ n : Int, vs = [.int n] ∧ Q (.bl true) H
theorem scIsNumber : FnScope ["value"] ["value"] (defScope sIsNumber) := ⟨rfl, rfl, rfl, by decide +kernel, rfl, by decide +kernel, by decide +kernel⟩
theorem ok_isnum {f : Addr} {fd : FuncData} (F : Fun K "is_number" "is_number" sIsNumber f fd) (T : Nm mg) : FnOk P w K mg base CX0 1 f fd ["value"] spIsNum := by
  refine F.ok scIsNumber (fun vs H Q E h => ?_) (fun cdv A outer s H vs Q E hr h => ?_)
  · obtain ⟨n, rfl, _⟩ := h
    rfl
  · obtain ⟨n, rfl, k⟩ := h
    refine ⟨_, pss_one (ps_ret (pe_and (pe_callB call_isi (by rfl) T.isinstance (by decide +kernel) (pa_cons (pv 0) (pa_cons (pe_bltn (v := .ty "int") (by rfl) T.int (by decide +kernel) rfl) pa_nil)))
      (pe_one (pe_not (pe_callB call_isi (by rfl) T.isinstance (by decide +kernel) (pa_cons (pv 0) (pa_cons (pe_bltn (v := .ty "bool") (by rfl) T.bool (by decide +kernel) rfl) pa_nil))))))), ?_⟩
    refine ⟨_, rfl, _, _, _, _, true, rfl, .ty "int", .base (.int _), kit_ty (by decide +kernel), true, rfl, iteT ?_⟩
    exact ⟨_, rfl, _, _, _, _, false, rfl, .ty "bool", .base (.int _), kit_ty (by decide +kernel), false, rfl, k⟩
def spCheck : Sp := fun vs H Q _ => ∃ n : Int, vs = [.int n, .non] ∧ Q .non H
theorem scCheckNumber : FnScope ["value", "least"] ["value", "least"] (defScope sCheckNumber) := ⟨rfl, rfl, rfl, by decide +kernel, rfl, by decide +kernel, by decide +kernel⟩
theorem ok_check {dV : List V} {f : Addr} {fd : FuncData} (F : FunD K "check_number" "check_number" (defArgs sCheckNumber) (defBody sCheckNumber) (defScope sCheckNumber) dV [] f fd) (DN : Df P w K mg base 1 "is_number" ["value"] [] spIsNum) :
    FnOk P w K mg base CX0 2 f fd ["value", "least"] spCheck := by
  refine F.ok scCheckNumber (fun vs H Q E h => ?_) (fun cdv A outer s H vs Q E hr h => ?_)
  · obtain ⟨n, rfl, _⟩ := h
    rfl
  · obtain ⟨n, rfl, k⟩ := h
    refine ⟨_, PSs.nox (pss_one (ps_if (PW.pt (pw_or (pt_not (pt_val (pe_df DN hr (pa_cons (pv 0) pa_nil)))) (pw_or1 (PW.pt (pw_and (pt_cmpR op_notN (pv 1) pe_non (nomark _)) (pw_and1 (pt_cmpR op_lt (pv 0) (pv 1) (nomark _))))))))
      (pss_one ps_never) pss_nil)), ?_⟩
    refine ⟨_, rfl, n, rfl, true, rfl, iteF ?_⟩
    exact ⟨_, rfl, rfl, false, rfl, iteF (iteF k)⟩
/-! ### is_leap, leap_years_before, year_start -/
def spLeap : Sp := fun vs H Q _ => ∃ y : Int, vs = [.int y] ∧ Q (.bl (leapB y)) H
theorem scIsLeap : FnScope ["year"] ["year"] (defScope sIsLeap) := ⟨rfl, rfl, rfl, by decide +kernel, rfl, by decide +kernel, by decide +kernel⟩
theorem ok_leap {f : Addr} {fd : FuncData} (F : Fun K "is_leap" "is_leap" sIsLeap f fd) (DC : Df P w K mg base 2 "check_number" ["value", "least"] [.non] spCheck) : FnOk P w K mg base CX0 3 f fd ["year"] spLeap := by
  refine F.ok scIsLeap (fun vs H Q E h => ?_) (fun cdv A outer s H vs Q E hr h => ?_)
  · obtain ⟨n, rfl, _⟩ := h
    rfl
  · obtain ⟨y, rfl, k⟩ := h
    refine ⟨_, pss_cons (ps_expr (pe_df DC hr (pa_cons (pv 0) pa_nil))) (pss_one (ps_ret (pe_and (pe_cmpR op_eq (pe_op op_mod (pv 0) pe_int) pe_int (nomark _))
      (pe_one (pe_or (pe_cmpR op_ne (pe_op op_mod (pv 0) pe_int) pe_int (nomark _)) (pe_one (pe_cmpR op_eq (pe_op op_mod (pv 0) pe_int) pe_int (nomark _)))))))), ?_⟩
    refine ⟨_, rfl, y, rfl, _, rfl, _, _, rfl, rfl, (by show (0 : Int) < 4; decide), rfl, _, rfl, ?_⟩
    have k' := k
    unfold leapB at k'
    rw [dec_int]
    by_cases c4 : y % 4 = 0
    · refine iteTT (by simpa using c4) ?_
      rw [decide_eq_true c4, Bool.true_and] at k'
      refine ⟨_, rfl, _, _, rfl, rfl, (by show (0 : Int) < 100; decide), rfl, _, rfl, ?_⟩
      by_cases c1 : y % 100 = 0
      · refine iteFF ?_ ?_
        · rw [dec_int]; simpa using c1
        · refine ⟨_, rfl, _, _, rfl, rfl, (by show (0 : Int) < 400; decide), rfl, ?_⟩
          rw [decide_eq_false (by simpa using c1), Bool.false_or] at k'
          rw [show decide (V.int (y % 400) = V.int 0) = decide (y % 400 = 0) by rw [dec_int]; rfl]
          exact k'
      · refine iteTT ?_ ?_
        · rw [dec_int]; simpa using c1
        · rw [decide_eq_true (by simpa using c1), Bool.true_or] at k'
          exact k'
    · refine iteFF (by simpa using c4) ?_
      rw [decide_eq_false c4, Bool.false_and] at k'
      exact k'
def spLyb : Sp := fun vs H Q _ => ∃ y : Int, vs = [.int y] ∧ Q (.int (lyb y)) H
theorem scLeapYearsBefore : FnScope ["year", "last"] ["year"] (defScope sLeapYearsBefore) := ⟨rfl, rfl, rfl, by decide +kernel, rfl, by decide +kernel, by decide +kernel⟩
theorem ok_lyb {f : Addr} {fd : FuncData} (F : Fun K "leap_years_before" "leap_years_before" sLeapYearsBefore f fd) : FnOk P w K mg base CX0 1 f fd ["year"] spLyb := by
  refine F.ok scLeapYearsBefore (fun vs H Q E h => ?_) (fun cdv A outer s H vs Q E hr h => ?_)
  · obtain ⟨n, rfl, _⟩ := h
    rfl
  · obtain ⟨y, rfl, k⟩ := h
    refine ⟨_, pss_cons (ps_set (i := 1) scLeapYearsBefore.nd rfl (Or.inl rfl) (pe_op op_sub (pv 0) pe_int)) (pss_one (ps_ret (pe_op op_add (pe_op op_sub (pe_op op_fdiv (pv 1) pe_int) (pe_op op_fdiv (pv 1) pe_int)) (pe_op op_fdiv (pv 1) pe_int)))), ?_⟩
    refine ⟨_, rfl, _, _, rfl, rfl, _, rfl, _, _, rfl, rfl, ⟨by decide, by decide⟩, _, rfl, _, _, rfl, rfl, ⟨by decide, by decide⟩, _, _, rfl, rfl, _, rfl, _, _, rfl, rfl, ⟨by decide, by decide⟩, _, _, rfl, rfl, k⟩
def spYs : Sp := fun vs H Q _ => ∃ y : Int, vs = [.int y] ∧ Q (.int (ysOf y)) H
theorem scYearStart : FnScope ["year"] ["year"] (defScope sYearStart) := ⟨rfl, rfl, rfl, by decide +kernel, rfl, by decide +kernel, by decide +kernel⟩
theorem ok_ys {f : Addr} {fd : FuncData} (F : Fun K "year_start" "year_start" sYearStart f fd) (DC : Df P w K mg base 2 "check_number" ["value", "least"] [.non] spCheck) (DL : Df P w K mg base 1 "leap_years_before" ["year"] [] spLyb) :
    FnOk P w K mg base CX0 3 f fd ["year"] spYs := by
  refine F.ok scYearStart (fun vs H Q E h => ?_) (fun cdv A outer s H vs Q E hr h => ?_)
  · obtain ⟨n, rfl, _⟩ := h
    rfl
  · obtain ⟨y, rfl, k⟩ := h
    have hr1 : Room 1 _ := hr.mono (by decide)
    refine ⟨_, pss_cons (ps_expr (pe_df DC hr (pa_cons (pv 0) pa_nil))) (pss_one (ps_ret (pe_op op_sub (pe_op op_add (pe_op op_mul pe_int (pe_op op_sub (pv 0) pe_int)) (pe_df DL hr1 (pa_cons (pv 0) pa_nil))) (pe_df DL hr1 (pa_cons pe_int pa_nil))))), ?_⟩
    refine ⟨_, rfl, y, rfl, _, rfl, _, _, rfl, rfl, _, _, rfl, rfl, .inl ⟨by decide, by decide⟩, _, rfl, y, rfl, _, _, rfl, rfl, 2000, rfl, _, _, rfl, rfl, k⟩
/-! ### months -/
def spMlen : Sp := fun vs H Q _ => ∃ (m : Int) (l : Bool), vs = [.int m, .bl l] ∧ 1 ≤ m ∧ m ≤ 12 ∧ Q (.int (mlen m l)) H
theorem scMonthLength : FnScope ["month", "leap"] ["month", "leap"] (defScope sMonthLength) := ⟨rfl, rfl, rfl, by decide +kernel, rfl, by decide +kernel, by decide +kernel⟩
theorem ok_mlen {f tp : Addr} {fd : FuncData} (F : Fun K "month_length" "month_length" sMonthLength f fd) (M : Cm K mg tp) : FnOk P w K mg base CX0 1 f fd ["month", "leap"] spMlen := by
  refine F.ok scMonthLength (fun vs H Q E h => ?_) (fun cdv A outer s H vs Q E hr h => ?_)
  · obtain ⟨m, l, rfl, _⟩ := h
    rfl
  · obtain ⟨m, l, rfl, m1, m2, k⟩ := h
    refine ⟨_, pss_one (ps_ret (pe_ifExp (PW.pt (pw_and (pt_cmpR op_eq (pv 0) pe_int (nomark _)) (pw_and1 (pt_val (pv 1))))) pe_int (pe_ix ix_tup (pe_glob (v := .ref tp) rfl M.ml rfl) (pe_op op_sub (pv 0) pe_int) (fun _ _ => rfl)))), ?_⟩
    have other : ¬ (m = 2 ∧ l = true) → tOp (rIxT K) (tC (.ref tp)) (tOp (rI0 fun i j => .int (i - j)) (tVar 0) (tC (.int 1))) [some (.int m), some (.bl l)] H Q := fun hn => by
      refine ⟨_, rfl, _, _, rfl, rfl, tp, _, _, V.int (ml m), rfl, rfl, M.sq H, ?_, ?_⟩
      · refine at_of (j := (m - 1).toNat) (by omega) ?_
        rw [List.getElem?_map, MLs_get m1 m2]
        rfl
      · unfold mlen at k
        rw [if_neg hn] at k
        exact k
    refine ⟨_, rfl, rfl, _, rfl, ?_⟩
    by_cases c : m = 2
    · subst c
      refine iteTT (by rfl) ?_
      refine ⟨_, rfl, l, rfl, ?_⟩
      cases l with
      | true => exact iteT k
      | false => exact iteF (other (by intro h; cases h.2))
    · refine iteFF (by rw [dec_int]; simpa using c) ?_
      exact iteF (other fun h => c h.1)
def spMst : Sp := fun vs H Q _ => ∃ (m : Int) (l : Bool), vs = [.int m, .bl l] ∧ 1 ≤ m ∧ m ≤ 13 ∧ ∀ H', Same H H' → Q (.int (mst m l)) H'
theorem scMonthStart : FnScope ["month", "leap", "leap_day"] ["month", "leap"] (defScope sMonthStart) := ⟨rfl, rfl, rfl, by decide +kernel, rfl, by decide +kernel, by decide +kernel⟩
theorem m13 {m : Int} (h1 : 1 ≤ m) (h2 : m ≤ 13) : m = 13 ∨ (1 ≤ m ∧ m ≤ 12) := by omega
theorem cut_ML {m : Int} (h1 : 1 ≤ m) (h2 : m ≤ 12) : cutV (MLs.map V.int) none (some (m - 1)) = (MLs.take (m - 1).toNat).map V.int ∧ ¬ (HT.sIx (MLs.map V.int).length 0 none = 0 ∧ HT.sIx (MLs.map V.int).length (MLs.map V.int).length (some (m - 1)) = (MLs.map V.int).length) := by
  rcases m12 h1 h2 with rfl | rfl | rfl | rfl | rfl | rfl | rfl | rfl | rfl | rfl | rfl | rfl <;> decide
theorem ok_mst {f tp : Addr} {fd : FuncData} (F : Fun K "month_start" "month_start" sMonthStart f fd) (M : Cm K mg tp) (T : Nm mg) : FnOk P w K mg base CX0 1 f fd ["month", "leap"] spMst := by
  refine F.ok scMonthStart (fun vs H Q E h => ?_) (fun cdv A outer s H vs Q E hr h => ?_)
  · obtain ⟨m, l, rfl, _⟩ := h
    rfl
  · obtain ⟨m, l, rfl, m1, m2, k⟩ := h
    refine ⟨_, pss_cons (ps_set (i := 2) scMonthStart.nd rfl (Or.inl rfl) (pe_ifExp (PW.pt (pw_and (pt_val (pv 1)) (pw_and1 (pt_cmpR op_gt (pv 0) pe_int (nomark _))))) pe_int pe_int))
      (pss_one (ps_ret (pe_op op_add (pe_callB (cr_sumT rfl) (by rfl) T.sum (by decide +kernel) (pa_cons (pe_slice sl_tupA (pe_glob (v := .ref tp) rfl M.ml rfl) po_none (po_some (pe_op op_sub (pv 0) pe_int))) pa_nil)) (pv 2)))), ?_⟩
    have rest : ∀ d : Int, d = (if l = true ∧ 2 < m then 1 else 0) → tRet (tOp (rI0 fun i j => .int (i + j)) (tCB (rSumT K) (tCons (tSl (rSlA K) (tC (.ref tp)) tNoPart (tPart (tOp (rI0 fun i j => .int (i - j)) (tVar 0) (tC (.int 1))))) tNil)) (tVar 2))
        { nx := fun _ H' => Q .non H', rt := Q } [some (.int m), some (.bl l), some (.int d)] H := fun d hd => by
      refine ⟨_, rfl, _, _, rfl, rfl, _, rfl, tp, MLs.map V.int, rfl, M.sq H, fun hw => ?_, fun hw p hp => ?_⟩
      · refine ⟨tp, MLs, rfl, M.sq H, _, rfl, _, _, rfl, rfl, ?_⟩
        have e : m = 13 := by
          rcases m13 m1 m2 with e | ⟨a1, a2⟩
          · exact e
          · exact absurd hw (cut_ML a1 a2).2
        subst e
        have e2 : mst 13 l = MLs.sum + d := by
          rw [hd]
          cases l <;> decide
        show Q (.int (MLs.sum + d)) H
        rw [← e2]
        exact k H (Same.refl H)
      · have e : 1 ≤ m ∧ m ≤ 12 := by
          rcases m13 m1 m2 with e | e
          · subst e
            exact absurd (by decide) hw
          · exact e
        refine ⟨p, MLs.take (m - 1).toNat, rfl, ?_, _, rfl, _, _, rfl, rfl, ?_⟩
        · refine SqT.of ?_
          rw [upd_same, (cut_ML e.1 e.2).1]
        · have e2 : mst m l = (MLs.take (m - 1).toNat).sum + d := by
            rw [hd]
            rfl
          show Q (.int ((MLs.take (m - 1).toNat).sum + d)) _
          rw [← e2]
          exact k _ (Same.new hp)
    refine ⟨_, rfl, l, rfl, ?_⟩
    cases l with
    | false => exact iteF (iteF (rest 0 (by rw [if_neg]; intro h; cases h.1)))
    | true =>
      refine iteT ?_
      refine ⟨_, rfl, _, _, rfl, rfl, _, rfl, ?_⟩
      by_cases c : 2 < m
      · exact iteTT (decide_eq_true c) (rest 1 (by rw [if_pos ⟨rfl, c⟩]))
      · exact iteFF (decide_eq_false c) (rest 0 (by rw [if_neg fun h => c h.2]))
/-! ### day_of -/
def spWeekday : Sp := fun vs H Q _ => ∃ d : Int, vs = [.int d] ∧ Q (.int ((d + 5) % 7)) H
theorem scWeekday : FnScope ["day"] ["day"] (defScope sWeekday) := ⟨rfl, rfl, rfl, by decide +kernel, rfl, by decide +kernel, by decide +kernel⟩
theorem ok_weekday {f : Addr} {fd : FuncData} (F : Fun K "weekday" "weekday" sWeekday f fd) (DC : Df P w K mg base 2 "check_number" ["value", "least"] [.non] spCheck) : FnOk P w K mg base CX0 3 f fd ["day"] spWeekday := by
  refine F.ok scWeekday (fun vs H Q E h => ?_) (fun cdv A outer s H vs Q E hr h => ?_)
  · obtain ⟨n, rfl, _⟩ := h
    rfl
  · obtain ⟨d, rfl, k⟩ := h
    refine ⟨_, pss_cons (ps_expr (pe_df DC hr (pa_cons (pv 0) pa_nil))) (pss_one (ps_ret (pe_op op_mod (pe_op op_add (pv 0) pe_int) pe_int))), ?_⟩
    exact ⟨_, rfl, d, rfl, _, rfl, _, _, rfl, rfl, _, _, rfl, rfl, (by show (0 : Int) < 7; decide), k⟩
end
end Cf
namespace Cf
open PySem L2
set_option hygiene false
local macro_rules | `(tactic| walk_at "len") => `(tactic| repeat (first | (obtain ⟨e, _⟩ := h; subst e; rfl; done) | (obtain ⟨_, h⟩ := h)))
local macro_rules | `(tactic| walk_at "rd") => `(tactic| repeat (first | refine ⟨_, rfl, ?_⟩ | refine ⟨_, _, rfl, rfl, ?_⟩ | refine ⟨rfl, ?_⟩ | refine ⟨_, _, rfl, ?_⟩))
local macro_rules | `(tactic| walk_at "yes") => `(tactic| (dsimp only [tYes]; rw [if_pos rfl]))
set_option hygiene true
section
variable {P : Program} {w : World} {K : PySem.W.Frag} {mg : Str → Option Value} {base : Heap}
/-! ### yearly days at work -/
def Yd.vals : Yd → List V
  | .nth m k w => [.str ("nth" : Str), .int m, .int k, .int w]
  | .last m w => [.str ("last" : Str), .int m, .int w]
  | .frm m n w => [.str ("from" : Str), .int m, .int n, .int w]
  | .unt m n w => [.str ("until" : Str), .int m, .int n, .int w]
  | .date m n => [.str ("date" : Str), .int m, .int n]
  | .day n => [.str ("day" : Str), .int n]
structure YAt (H : Hp) (p : Addr) (q : Yd) : Prop where
  tup : H p = some (.tup q.vals)
  ok : q.Ok
theorem YAt.same {H H' : Hp} {p : Addr} {q : Yd} (h : YAt H p q) (s : Same H H') : YAt H' p q := ⟨s _ _ h.tup, h.ok⟩
theorem YAt.sq {H : Hp} {p : Addr} {q : Yd} (h : YAt H p q) : SqT K H p q.vals := SqT.of h.tup
def spOnAfter : Sp := fun vs H Q _ => ∃ n u f : Int, vs = [.int n, .int u, .int f] ∧ Q (.int (onAfter n u f)) H
theorem scOnOrAfter : FnScope ["number", "weekday", "first"] ["number", "weekday", "first"] (defScope sOnOrAfter) := ⟨rfl, rfl, rfl, by decide +kernel, rfl, by decide +kernel, by decide +kernel⟩
theorem ok_onafter {f : Addr} {fd : FuncData} (F : Fun K "on_or_after" "on_or_after" sOnOrAfter f fd) : FnOk P w K mg base CX0 1 f fd ["number", "weekday", "first"] spOnAfter := by
  refine F.ok scOnOrAfter (fun vs H Q E h => ?_) (fun cdv A outer s H vs Q E hr h => ?_)
  · obtain ⟨_, _, _, rfl, _⟩ := h
    rfl
  · obtain ⟨n, u, f, rfl, k⟩ := h
    refine ⟨_, (pss_one (ps_ret (pe_op op_add (pv 0) (pe_op op_mod (pe_op op_sub (pe_op op_sub (pv 1) (pv 2)) (pv 0)) pe_int)))), ?_⟩
    walk_at "rd"
    exact ⟨by show (0 : Int) < 7; decide, _, _, rfl, rfl, k⟩
def spOnBefore : Sp := fun vs H Q _ => ∃ n u f : Int, vs = [.int n, .int u, .int f] ∧ Q (.int (onBefore n u f)) H
theorem scOnOrBefore : FnScope ["number", "weekday", "first"] ["number", "weekday", "first"] (defScope sOnOrBefore) := ⟨rfl, rfl, rfl, by decide +kernel, rfl, by decide +kernel, by decide +kernel⟩
theorem ok_onbefore {f : Addr} {fd : FuncData} (F : Fun K "on_or_before" "on_or_before" sOnOrBefore f fd) : FnOk P w K mg base CX0 1 f fd ["number", "weekday", "first"] spOnBefore := by
  refine F.ok scOnOrBefore (fun vs H Q E h => ?_) (fun cdv A outer s H vs Q E hr h => ?_)
  · obtain ⟨_, _, _, rfl, _⟩ := h
    rfl
  · obtain ⟨n, u, f, rfl, k⟩ := h
    refine ⟨_, (pss_one (ps_ret (pe_op op_sub (pv 0) (pe_op op_mod (pe_op op_sub (pe_op op_add (pv 2) (pv 0)) (pv 1)) pe_int)))), ?_⟩
    walk_at "rd"
    exact ⟨by show (0 : Int) < 7; decide, _, _, rfl, rfl, k⟩
/-! ### number_in -/
def spNumIn : Sp := fun vs H Q _ => ∃ (p q : Addr) (y : Yd) (f : Int) (l : Bool), vs = [.ref p, .ref q] ∧ YAt H p y ∧ H q = some (.tup [.int f, .bl l]) ∧ ∀ H', Same H H' → Q (.int (numIn y f l)) H'
theorem scNumberIn : FnScope ["yearly", "kind", "first", "leap", "word", "start", "number"] ["yearly", "kind"] (defScope sNumberIn) := ⟨rfl, rfl, rfl, by decide +kernel, rfl, by decide +kernel, by decide +kernel⟩
theorem ok_numin {f : Addr} {fd : FuncData} (F : Fun K "number_in" "number_in" sNumberIn f fd) (D_month_start : Df P w K mg base 1 "month_start" ["month", "leap"] [] spMst) (D_month_length : Df P w K mg base 1 "month_length" ["month", "leap"] [] spMlen)
    (D_on_or_after : Df P w K mg base 1 "on_or_after" ["number", "weekday", "first"] [] spOnAfter) (D_on_or_before : Df P w K mg base 1 "on_or_before" ["number", "weekday", "first"] [] spOnBefore) : FnOk P w K mg base CX0 2 f fd ["yearly", "kind"] spNumIn := by
  refine F.ok scNumberIn (fun vs H Q E h => ?_) (fun cdv A outer s H vs Q E hr h => ?_)
  · obtain ⟨_, _, _, _, _, rfl, _⟩ := h
    rfl
  · obtain ⟨p, q, y, f, l, rfl, Y, hq, k⟩ := h
    have nd := scNumberIn.nd
    refine ⟨_, (pss_cons (ps_asg (pv 1) (pg_tup (by rfl) (pgs_cons (pg_name (i := 2) nd rfl (Or.inl rfl)) (pgs_cons (pg_name (i := 3) nd rfl (Or.inl rfl)) pgs_nil))))
      (pss_cons (ps_set (i := 4) nd rfl (Or.inl rfl) (pe_ix ix_tup (pv 0) pe_int (fun _ _ => rfl)))
      (pss_cons (ps_if (pt_cmpR op_eq (pv 4) pe_str (nomark _))
        (pss_one (ps_ret (pe_ix ix_tup (pv 0) pe_int (fun _ _ => rfl))))
        pss_nil)
      (pss_cons (ps_set (i := 5) nd rfl (Or.inl rfl) (pe_df D_month_start (hr.mono (by decide)) (pa_cons (pe_ix ix_tup (pv 0) pe_int (fun _ _ => rfl)) (pa_cons (pv 3) pa_nil))))
      (pss_cons (ps_if (pt_cmpR op_eq (pv 4) pe_str (nomark _))
        (pss_one (ps_ret (pe_df D_on_or_after (hr.mono (by decide)) (pa_cons (pe_op op_add (pv 5) (pe_op op_mul pe_int (pe_op op_sub (pe_ix ix_tup (pv 0) pe_int (fun _ _ => rfl)) pe_int))) (pa_cons (pe_ix ix_tup (pv 0) pe_int (fun _ _ => rfl)) (pa_cons (pv 2) pa_nil))))))
        pss_nil)
      (pss_cons (ps_if (pt_cmpR op_eq (pv 4) pe_str (nomark _))
        (pss_one (ps_ret (pe_df D_on_or_before (hr.mono (by decide)) (pa_cons (pe_op op_sub (pe_op op_add (pv 5) (pe_df D_month_length (hr.mono (by decide)) (pa_cons (pe_ix ix_tup (pv 0) pe_int (fun _ _ => rfl)) (pa_cons (pv 3) pa_nil)))) pe_int) (pa_cons (pe_ix ix_tup (pv 0) pe_int (fun _ _ => rfl)) (pa_cons (pv 2) pa_nil))))))
        pss_nil)
      (pss_cons (ps_set (i := 6) nd rfl (Or.inl rfl) (pe_op op_sub (pe_op op_add (pv 5) (pe_ix ix_tup (pv 0) pe_int (fun _ _ => rfl))) pe_int))
      (pss_cons (ps_if (pt_cmpR op_eq (pv 4) pe_str (nomark _))
        (pss_one (ps_ret (pe_df D_on_or_after (hr.mono (by decide)) (pa_cons (pv 6) (pa_cons (pe_ix ix_tup (pv 0) pe_int (fun _ _ => rfl)) (pa_cons (pv 2) pa_nil))))))
        pss_nil)
      (pss_cons (ps_if (pt_cmpR op_eq (pv 4) pe_str (nomark _))
        (pss_one (ps_ret (pe_df D_on_or_before (hr.mono (by decide)) (pa_cons (pv 6) (pa_cons (pe_ix ix_tup (pv 0) pe_int (fun _ _ => rfl)) (pa_cons (pv 2) pa_nil))))))
        pss_nil)
      (pss_one (ps_ret (pv 6)))))))))))), ?_⟩
    walk_at "rd"
    refine ⟨_, [.int f, .bl l], rfl, SqT.of hq, rfl, ?_⟩
    obtain ⟨Yt, Yo⟩ := Y
    cases y with
    | nth m n u =>
      walk_at "rd"
      refine ⟨p, _, _, _, rfl, rfl, SqT.of Yt, atI_nat (j := 0) rfl, ?_⟩
      walk_at "rd"
      refine ⟨p, _, _, _, rfl, rfl, SqT.of Yt, atI_nat (j := 1) rfl, ?_⟩
      walk_at "rd"
      refine ⟨Yo.1, by have := Yo.2.1; omega, fun H1 S1 => ?_⟩
      have Yt := S1 _ _ Yt
      walk_at "rd"
      refine ⟨p, _, _, _, rfl, rfl, SqT.of Yt, atI_nat (j := 2) rfl, ?_⟩
      walk_at "rd"
      refine ⟨.inl ⟨by decide, by decide⟩, ?_⟩
      walk_at "rd"
      refine ⟨p, _, _, _, rfl, rfl, SqT.of Yt, atI_nat (j := 3) rfl, ?_⟩
      walk_at "rd"
      exact ⟨_, _, _, rfl, k _ S1⟩
    | last m u =>
      walk_at "rd"
      refine ⟨p, _, _, _, rfl, rfl, SqT.of Yt, atI_nat (j := 0) rfl, ?_⟩
      walk_at "rd"
      refine ⟨p, _, _, _, rfl, rfl, SqT.of Yt, atI_nat (j := 1) rfl, ?_⟩
      walk_at "rd"
      refine ⟨Yo.1, by have := Yo.2.1; omega, fun H1 S1 => ?_⟩
      have Yt := S1 _ _ Yt
      walk_at "rd"
      refine ⟨p, _, _, _, rfl, rfl, SqT.of Yt, atI_nat (j := 1) rfl, ?_⟩
      walk_at "rd"
      refine ⟨Yo.1, Yo.2.1, ?_⟩
      walk_at "rd"
      refine ⟨p, _, _, _, rfl, rfl, SqT.of Yt, atI_nat (j := 2) rfl, ?_⟩
      walk_at "rd"
      exact ⟨_, _, _, rfl, k _ S1⟩
    | frm m n u =>
      walk_at "rd"
      refine ⟨p, _, _, _, rfl, rfl, SqT.of Yt, atI_nat (j := 0) rfl, ?_⟩
      walk_at "rd"
      refine ⟨p, _, _, _, rfl, rfl, SqT.of Yt, atI_nat (j := 1) rfl, ?_⟩
      walk_at "rd"
      refine ⟨Yo.1.1, by have := Yo.1.2.1; omega, fun H1 S1 => ?_⟩
      have Yt := S1 _ _ Yt
      walk_at "rd"
      refine ⟨p, _, _, _, rfl, rfl, SqT.of Yt, atI_nat (j := 2) rfl, ?_⟩
      walk_at "rd"
      refine ⟨p, _, _, _, rfl, rfl, SqT.of Yt, atI_nat (j := 3) rfl, ?_⟩
      walk_at "rd"
      exact ⟨_, _, _, rfl, k _ S1⟩
    | unt m n u =>
      walk_at "rd"
      refine ⟨p, _, _, _, rfl, rfl, SqT.of Yt, atI_nat (j := 0) rfl, ?_⟩
      walk_at "rd"
      refine ⟨p, _, _, _, rfl, rfl, SqT.of Yt, atI_nat (j := 1) rfl, ?_⟩
      walk_at "rd"
      refine ⟨Yo.1.1, by have := Yo.1.2.1; omega, fun H1 S1 => ?_⟩
      have Yt := S1 _ _ Yt
      walk_at "rd"
      refine ⟨p, _, _, _, rfl, rfl, SqT.of Yt, atI_nat (j := 2) rfl, ?_⟩
      walk_at "rd"
      refine ⟨p, _, _, _, rfl, rfl, SqT.of Yt, atI_nat (j := 3) rfl, ?_⟩
      walk_at "rd"
      exact ⟨_, _, _, rfl, k _ S1⟩
    | date m n =>
      walk_at "rd"
      refine ⟨p, _, _, _, rfl, rfl, SqT.of Yt, atI_nat (j := 0) rfl, ?_⟩
      walk_at "rd"
      refine ⟨p, _, _, _, rfl, rfl, SqT.of Yt, atI_nat (j := 1) rfl, ?_⟩
      walk_at "rd"
      refine ⟨Yo.1, by have := Yo.2.1; omega, fun H1 S1 => ?_⟩
      have Yt := S1 _ _ Yt
      walk_at "rd"
      refine ⟨p, _, _, _, rfl, rfl, SqT.of Yt, atI_nat (j := 2) rfl, ?_⟩
      walk_at "rd"
      exact k _ S1
    | day n =>
      walk_at "rd"
      refine ⟨p, _, _, _, rfl, rfl, SqT.of Yt, atI_nat (j := 0) rfl, ?_⟩
      walk_at "rd"
      refine ⟨p, _, _, _, rfl, rfl, SqT.of Yt, atI_nat (j := 1) rfl, ?_⟩
      walk_at "rd"
      exact k _ (Same.refl _)
/-! ### kind_of, day_in -/
def spKindOf : Sp := fun vs H Q _ => ∃ y : Int, vs = [.int y] ∧ ∀ (H' : Hp) (q : Addr), Same H H' → H q = none → H' q = some (.tup [.int (k1 y), .bl (leapB y)]) → Q (.ref q) H'
theorem scKindOf : FnScope ["year"] ["year"] (defScope sKindOf) := ⟨rfl, rfl, rfl, by decide +kernel, rfl, by decide +kernel, by decide +kernel⟩
theorem ok_kindof {f : Addr} {fd : FuncData} (F : Fun K "kind_of" "kind_of" sKindOf f fd) (D_check_number : Df P w K mg base 2 "check_number" ["value", "least"] [.non] spCheck) (D_weekday : Df P w K mg base 3 "weekday" ["day"] [] spWeekday) (D_year_start : Df P w K mg base 3 "year_start" ["year"] [] spYs) (D_is_leap : Df P w K mg base 3 "is_leap" ["year"] [] spLeap) : FnOk P w K mg base CX0 4 f fd ["year"] spKindOf := by
  refine F.ok scKindOf (fun vs H Q E h => ?_) (fun cdv A outer s H vs Q E hr h => ?_)
  · obtain ⟨_, rfl, _⟩ := h
    rfl
  · obtain ⟨y, rfl, k⟩ := h
    refine ⟨_, (pss_cons (ps_expr (pe_df D_check_number (hr.mono (by decide)) (pa_cons (pv 0) pa_nil)))
      (pss_one (ps_ret (pe_tup (pa_cons (pe_df D_weekday (hr.mono (by decide)) (pa_cons (pe_df D_year_start (hr.mono (by decide)) (pa_cons (pv 0) pa_nil)) pa_nil)) (pa_cons (pe_df D_is_leap (hr.mono (by decide)) (pa_cons (pv 0) pa_nil)) pa_nil)))))), ?_⟩
    walk_at "rd"
    exact ⟨by show 2 ≤ sizeLine; decide, fun q hq => k _ q (Same.new hq) hq (by rw [upd_same]; rfl)⟩
end
end Cf
namespace Cf
open PySem L2
set_option hygiene false
local macro_rules | `(tactic| walk_at "len") => `(tactic| repeat (first | (obtain ⟨e, _⟩ := h; subst e; rfl; done) | (obtain ⟨_, h⟩ := h)))
local macro_rules | `(tactic| walk_at "rd") => `(tactic| repeat (first | refine ⟨_, rfl, ?_⟩ | refine ⟨_, _, rfl, rfl, ?_⟩ | refine ⟨rfl, ?_⟩ | refine ⟨_, _, rfl, ?_⟩))
local macro_rules | `(tactic| walk_at "yes") => `(tactic| (dsimp only [tYes]; rw [if_pos rfl]))
set_option hygiene true
section
variable {P : Program} {w : World} {K : PySem.W.Frag} {mg : Str → Option Value} {base : Heap}
/-! ### all_kinds -/
def KindAt (H : Hp) (q : Addr) (k : Int × Bool) : Prop := H q = some (.tup [.int k.1, .bl k.2])
structure KindsAt (H : Hp) (L : Addr) (qs : List Addr) (ks : List (Int × Bool)) : Prop where
  lst : H L = some (.lst (qs.map V.ref))
  at_ : Paired (KindAt H) qs ks
theorem kinds_same {H H' : Hp} {qs : List Addr} {ks : List (Int × Bool)} (h : Paired (KindAt H) qs ks) (s : Same H H') : Paired (KindAt H') qs ks := Paired.mapP h fun a b e => s _ _ e
theorem kinds_at : ∀ i : Nat, i < 7 → ∀ j : Nat, j < 2 → kinds[2 * i + j]? = some ((i : Int), decide (j = 1)) := by decide
theorem kinds_snoc {i j : Nat} (hi : i < 7) (hj : j < 2) : kinds.take (2 * i + (j + 1)) = kinds.take (2 * i + j) ++ [((i : Int), decide (j = 1))] := by
  rw [show 2 * i + (j + 1) = 2 * i + j + 1 by omega, List.take_succ, kinds_at i hi j hj]; rfl
def spAllKinds : Sp := fun vs H Q _ => vs = [] ∧ ∀ (H' : Hp) (L : Addr) (qs : List Addr), Same H H' → H L = none → KindsAt H' L qs kinds → Q (.ref L) H'
theorem scAllKinds : FnScope ["first", "leap"] [] (defScope sAllKinds) := ⟨rfl, rfl, rfl, by decide +kernel, rfl, by decide +kernel, by decide +kernel⟩
theorem ok_allkinds {f : Addr} {fd : FuncData} (F : Fun K "all_kinds" "all_kinds" sAllKinds f fd) (T : Nm mg) : FnOk P w K mg base CX0 1 f fd [] spAllKinds := by
  refine F.ok scAllKinds (fun vs H Q E h => ?_) (fun cdv A outer s H vs Q E hr h => ?_)
  · obtain ⟨rfl, _⟩ := h
    rfl
  · obtain ⟨rfl, k⟩ := h
    have nd := scAllKinds.nd
    refine ⟨_, (pss_one (ps_ret (pe_lc2 (own := [("first", 0), ("leap", 1)]) (vs1 := [1]) (g := (gName 0)) (g1 := (gName 1)) (tt := tYes) (tt1 := tYes) rfl nd (pi_range1 (by rfl) T.range (pa_cons pe_int pa_nil)) (blkOk_by (N := ["first", "leap"]) (sc := defScope sAllKinds) (by decide +kernel)) (by decide) (fun _ _ _ _ _ => pg_name (i := 0) nd rfl (Or.inl rfl)) (fun _ _ _ _ _ => pts_nil) (fun _ _ _ _ _ => (show PI _ _ _ (iTup K (tTup (tCons (tC (.bl false)) (tCons (tC (.bl true)) tNil)))) from (pi_tup (pe_tup (pa_cons pe_bl (pa_cons pe_bl pa_nil)))))) (fun _ _ _ _ _ => pg_name (i := 1) nd rfl (Or.inl rfl)) (fun _ _ _ _ _ => pts_nil) (fun _ _ _ _ _ => (pe_tup (pa_cons (pv 0) (pa_cons (pv 1) pa_nil))))))), ?_⟩
    walk_at "rd"
    refine ⟨by decide, by decide, fun D hD => ⟨fun i m H1 => i + m = 7 ∧ Same H H1 ∧ ∃ qs : List Addr, H1 D = some (.lst (qs.map V.ref)) ∧ Paired (KindAt H1) qs (kinds.take (2 * i)), ⟨7, rfl, Same.new hD, [], by rw [upd_same]; rfl, .nil⟩, fun i m H1 w => ?_⟩⟩
    obtain ⟨e1, S1, qs, d1, p1⟩ := w
    by_cases c : i = 7
    · subst c
      exact .inl ⟨Nat.le_refl _, k H1 D qs S1 hD ⟨d1, p1⟩⟩
    · refine .inr ⟨by show i < 7; omega, fun H' => i + 1 + (m - 1) = 7 ∧ Same H H' ∧ ∃ qs : List Addr, H' D = some (.lst (qs.map V.ref)) ∧ Paired (KindAt H') qs (kinds.take (2 * (i + 1))), fun H' w => ⟨m - 1, by omega, w⟩, fun x H' y => ?_⟩
      obtain ⟨rfl, rfl⟩ := y
      refine ⟨rfl, ?_⟩
      walk_at "yes"
      walk_at "rd"
      refine ⟨by show 2 ≤ sizeLine; decide, fun a ha => ?_⟩
      have aD : a ≠ D := fun e => by rw [e, d1] at ha; cases ha
      have sa := SqT.of (K := K) (show (upd H' a (.tup [V.bl false, V.bl true])) a = some (.tup [V.bl false, V.bl true]) by rw [upd_same])
      refine ⟨a, rfl, ⟨_, sa⟩, fun j n H2 => j + n = 2 ∧ Same H H2 ∧ H2 a = some (.tup [V.bl false, V.bl true]) ∧ ∃ qs : List Addr, H2 D = some (.lst (qs.map V.ref)) ∧ Paired (KindAt H2) qs (kinds.take (2 * i + j)), ⟨2, rfl, S1.trans (Same.new ha), by rw [upd_same], qs, by rw [upd_ne (Ne.symm aD)]; exact d1, kinds_same p1 (Same.new ha)⟩, fun j n H2 w => ?_⟩
      obtain ⟨e2, S2, ta, qs2, d2, p2⟩ := w
      by_cases c2 : j = 2
      · subst c2
        refine .inl ⟨?_, ?_⟩
        · exact ⟨_, SqT.of ta, Nat.le_refl 2⟩
        · exact ⟨by omega, S2, qs2, d2, p2⟩
      · refine .inr ⟨?_, fun H' => j + 1 + (n - 1) = 2 ∧ Same H H' ∧ H' a = some (.tup [V.bl false, V.bl true]) ∧ ∃ qs : List Addr, H' D = some (.lst (qs.map V.ref)) ∧ Paired (KindAt H') qs (kinds.take (2 * i + (j + 1))), fun H' w => ⟨n - 1, by omega, w⟩, fun x H' y => ?_⟩
        · exact ⟨_, _, SqT.of ta, List.getElem?_eq_getElem (by show j < 2; omega)⟩
        · obtain ⟨rfl, y⟩ := y
          have hx := y _ (SqT.of ta)
          have hx2 : x = .bl (decide (j = 1)) := by
            have : j = 0 ∨ j = 1 := by omega
            rcases this with e | e <;> subst e <;> (cases hx; rfl)
          subst hx2
          refine ⟨rfl, ?_⟩
          rw [if_pos rfl]
          walk_at "rd"
          refine ⟨by show 2 ≤ sizeLine; decide, fun q hq => ?_⟩
          have qD : q ≠ D := fun e => by rw [e, d2] at hq; cases hq
          have qa : q ≠ a := fun e => by rw [e, ta] at hq; cases hq
          have lq : qs2.length = 2 * i + j := by
            rw [paired_len p2, List.length_take]
            show min (2 * i + j) 14 = 2 * i + j
            omega
          have dq : (upd H' q (.tup [.int (0 + (i : Int)), .bl (decide (j = 1))])) D = some (.lst (qs2.map V.ref)) := by rw [upd_ne (Ne.symm qD)]; exact d2
          have Sq : Same H' (upd H' q (.tup [.int (0 + (i : Int)), .bl (decide (j = 1))])) := Same.new hq
          refine ⟨_, dq, by rw [List.length_map, lq]; have : 14 < sizeLine := by decide
                            omega, by omega, ?_, ?_, qs2 ++ [q], ?_, ?_⟩
          · intro b o e
            have : b ≠ D := fun g => by rw [g, hD] at e; cases e
            rw [upd_ne this]
            exact Sq _ _ (S2 _ _ e)
          · rw [upd_ne aD, upd_ne (Ne.symm qa)]; exact ta
          · rw [upd_same, List.map_append]; rfl
          · rw [kinds_snoc (by omega) (by omega)]
            refine paired_snoc ?_ ?_
            · refine Paired.mapP (kinds_same p2 Sq) fun b k e => ?_
              have : b ≠ D := fun g => by rw [g, KindAt, dq] at e; cases e
              show (upd (upd H' q _) D _) b = _
              rw [upd_ne this]; exact e
            · show (upd (upd H' q _) D _) q = _
              rw [upd_ne qD, upd_same, Int.zero_add]
/-! ### table_of -/
def keyK (k : Int × Bool) : List Int := [k.1, if k.2 = true then 1 else 0]
def tabE (qs : List Addr) (y : Yd) : List Ent := List.zipWith (fun q k => (q, keyK k, V.int (numIn y k.1 k.2))) qs kinds
theorem keyK_nodup : (kinds.map keyK).Nodup := by decide
theorem tabE_keys {qs : List Addr} (h : qs.length = 14) (y : Yd) : (tabE qs y).map (fun x => x.2.1) = kinds.map keyK := by
  match qs, h with
  | [_, _, _, _, _, _, _, _, _, _, _, _, _, _], _ => rfl
theorem tabE_len {qs : List Addr} (h : qs.length = 14) (y : Yd) : (tabE qs y).length = 14 := by
  unfold tabE
  rw [List.length_zipWith, h]; rfl
theorem tabE_get {qs : List Addr} {y : Yd} {i : Nat} {q : Addr} {k : Int × Bool} (hq : qs[i]? = some q) (hk : kinds[i]? = some k) : (tabE qs y)[i]? = some (q, keyK k, V.int (numIn y k.1 k.2)) := by
  unfold tabE
  rw [List.getElem?_zipWith, hq, hk]
theorem kindAt_key {H : Hp} {q : Addr} {k : Int × Bool} (h : KindAt H q k) : KeyAt H q (keyK k) := ⟨by show 2 ≤ 8; decide, [.int k.1, .bl k.2], h, .cons (.int _) (.cons (.bl _) .nil)⟩
theorem zip_keysAt {H : Hp} (y : Yd) : ∀ {qs : List Addr} {ks : List (Int × Bool)}, Paired (KindAt H) qs ks → KeysAt H (List.zipWith (fun q k => (q, keyK k, V.int (numIn y k.1 k.2))) qs ks)
  | _, _, .nil => fun x hx => nomatch hx
  | _, _, .cons h t => fun x hx => by
    rw [List.zipWith_cons_cons] at hx
    rcases List.mem_cons.mp hx with e | e
    · subst e; exact kindAt_key h
    · exact zip_keysAt y t x e
theorem tabE_keysAt {H : Hp} {qs : List Addr} {y : Yd} (h : Paired (KindAt H) qs kinds) : KeysAt H (tabE qs y) := zip_keysAt y h
theorem not_in_take {α : Type} {l : List α} (nd : l.Nodup) {i : Nat} {x : α} (h : l[i]? = some x) : x ∉ l.take i := by
  intro hm
  obtain ⟨j, hj, e⟩ := List.mem_iff_getElem.mp hm
  rw [List.length_take] at hj
  rw [List.getElem_take] at e
  have hj2 : j < l.length := by omega
  have : j = i := (List.getElem?_inj hj2 nd).mp (by rw [h, List.getElem?_eq_getElem hj2, e])
  omega
def spChkY : Sp := fun vs H Q _ => ∃ (p : Addr) (y : Yd), vs = [.ref p] ∧ YAt H p y ∧ ∀ H', Same H H' → Q .non H'
def spTableOf (P : Program) (w : World) : Sp := fun vs H Q _ => ∃ (p : Addr) (y : Yd), vs = [.ref p] ∧ YAt H p y ∧ ∀ (H' : Hp) (D : Addr) (qs : List Addr), Same H H' → H D = none → Paired (KindAt H') qs kinds → H' D = some (KDo P w D (tabE qs y)) → Q (.ref D) H'
theorem scTableOf : FnScope ["yearly", "kind"] ["yearly"] (defScope sTableOf) := ⟨rfl, rfl, rfl, by decide +kernel, rfl, by decide +kernel, by decide +kernel⟩
theorem ok_tableof {f : Addr} {fd : FuncData} (F : Fun K "table_of" "table_of" sTableOf f fd) (T : Nm mg) (D_check_yearly : Df P w K mg base 4 "check_yearly" ["value"] [] spChkY) (D_all_kinds : Df P w K mg base 1 "all_kinds" [] [] spAllKinds) (D_number_in : Df P w K mg base 2 "number_in" ["yearly", "kind"] [] spNumIn) : FnOk P w K mg base CX0 7 f fd ["yearly"] (spTableOf P w) := by
  refine F.ok scTableOf (fun vs H Q E h => ?_) (fun cdv A outer s H vs Q E hr h => ?_)
  · obtain ⟨_, _, rfl, _⟩ := h
    rfl
  · obtain ⟨p, y, rfl, Y, k⟩ := h
    have nd := scTableOf.nd
    have hu := hr.units
    refine ⟨_, (pss_cons (ps_expr (pe_df D_check_yearly (hr.mono (by decide)) (pa_cons (pv 0) pa_nil)))
      (pss_one (ps_ret (pe_dcK (own := [("kind", 1)]) (g := (gName 1)) (tt := tYes) (lt8 hu) rfl nd (pi_list (pe_df0 D_all_kinds (hr.mono (by decide)))) (blkOk_by (N := ["yearly", "kind"]) (sc := defScope sTableOf) (by decide +kernel)) (fun _ _ _ _ _ => pg_name (i := 1) nd rfl (Or.inl rfl)) (fun _ _ _ _ _ => pts_nil) (fun _ _ _ _ _ => (pv 1)) (fun _ _ _ _ _ => (pe_df D_number_in (hr.mono (by decide)) (pa_cons (pv 0) (pa_cons (pv 1) pa_nil)))))))), ?_⟩
    walk_at "rd"
    refine ⟨p, y, rfl, Y, fun H1 S1 => ?_⟩
    have Y1 := Y.same S1
    walk_at "rd"
    refine fun H2 L qs S2 hL ks => ?_
    have Y2 := Y1.same S2
    have lq : qs.length = 14 := paired_len ks.at_
    have le := tabE_len lq y
    refine ⟨L, rfl, ⟨_, SqL.of ks.lst⟩, fun D hD => ⟨fun i m H' => i + m = 14 ∧ Same H2 H' ∧ H' D = some (KDo P w D ((tabE qs y).take i)), ⟨14, rfl, Same.new hD, by rw [upd_same]; rfl⟩, fun i m H3 w3 => ?_⟩⟩
    obtain ⟨e3, S3, d3⟩ := w3
    have hD0 : H D = none := by
      cases e : H D with
      | none => rfl
      | some o => rw [S2 _ _ (S1 _ _ e)] at hD; cases hD
    have sq3 : SqL K H3 L (qs.map V.ref) := SqL.of (S3 _ _ ks.lst)
    by_cases c : i = 14
    · subst c
      refine .inl ⟨⟨_, sq3, by rw [List.length_map]; omega⟩, k H3 D qs ((S1.trans S2).trans S3) hD0 (kinds_same ks.at_ S3) ?_⟩
      rw [d3, List.take_of_length_le (by omega)]
    · have hi : i < 14 := by omega
      obtain ⟨q, hq⟩ : ∃ q, qs[i]? = some q := ⟨_, List.getElem?_eq_getElem (by omega)⟩
      obtain ⟨kk, hk, kq⟩ := paired_get' (kinds_same ks.at_ S3) i q hq
      refine .inr ⟨⟨_, _, sq3, by rw [List.getElem?_map, hq]; rfl⟩, fun H' => i + 1 + (m - 1) = 14 ∧ Same H2 H' ∧ H' D = some (KDo P w D ((tabE qs y).take (i + 1))), fun H' w => ⟨m - 1, by omega, w⟩, fun x H' yy => ?_⟩
      obtain ⟨rfl, yy⟩ := yy
      have hx := yy _ sq3
      rw [List.getElem?_map, hq] at hx
      cases hx
      refine ⟨rfl, ?_⟩
      walk_at "yes"
      walk_at "rd"
      refine ⟨p, q, y, kk.1, kk.2, rfl, Y2.same S3, kq, fun H4 S4 => ?_⟩
      have d4 := S4 _ _ d3
      have ka : KeysAt H4 (tabE qs y) := tabE_keysAt (kinds_same ks.at_ (S3.trans S4))
      have g := tabE_get (y := y) hq hk
      refine ⟨(tabE qs y).take i, q, keyK kk, rfl, d4, fun x hx => ka x (List.mem_of_mem_take hx), Nat.lt_of_le_of_lt (List.length_take_le _ _) (Nat.lt_of_le_of_lt (Nat.le_of_lt hi) (by decide)), ka _ (List.mem_of_getElem? g), ?_, by omega, fun b o e => ?_, ?_⟩
      · rw [List.map_take, tabE_keys lq]
        exact not_in_take keyK_nodup (by rw [List.getElem?_map, hk]; rfl)
      · have : b ≠ D := fun z => by rw [z, hD] at e; cases e
        rw [upd_ne this]
        exact S4 _ _ (S3 _ _ e)
      · rw [upd_same, List.take_succ, g]; rfl
end
end Cf
namespace Cf
open PySem L2
set_option hygiene false
local macro_rules | `(tactic| walk_at "len") => `(tactic| repeat (first | (obtain ⟨e, _⟩ := h; subst e; rfl; done) | (obtain ⟨_, h⟩ := h)))
local macro_rules | `(tactic| walk_at "rd") => `(tactic| repeat (first | refine ⟨_, rfl, ?_⟩ | refine ⟨_, _, rfl, rfl, ?_⟩ | refine ⟨rfl, ?_⟩ | refine ⟨_, _, rfl, ?_⟩))
local macro_rules | `(tactic| walk_at "yes") => `(tactic| (dsimp only [tYes]; rw [if_pos rfl]))
set_option hygiene true
section
variable {P : Program} {w : World} {K : PySem.W.Frag} {mg : Str → Option Value} {base : Heap}
/-! ### first_year_apart -/
theorem for_rangeC {lo : Int} {n : Nat} {g : TG} {tb : TS} {D : Ends} {σ : L2.St} {H : Hp} (Pv : Nat → L2.St → Hp → Prop) (h0 : Pv 0 σ H)
    (hs : ∀ (i : Nat) (σ : L2.St) (H : Hp), i < n → Pv i σ H → g (V.int (lo + (i : Int))) σ H fun σ2 H2 => tb { nx := Pv (i + 1), rt := D.rt, bk := D.nx, ct := Pv (i + 1) } σ2 H2)
    (hd : ∀ (σ : L2.St) (H : Hp), Pv n σ H → D.nx σ H) :
    ∃ W : Nat → Nat → L2.St → Hp → Prop, (∃ m, W 0 m σ H) ∧ ∀ (i m : Nat) (σ : L2.St) (H : Hp), W i m σ H → (Itc lo 1 n).stop i H ∧ D.nx σ H ∨ (Itc lo 1 n).go i H ∧ ∃ N : L2.St → Hp → Prop, (∀ (σ' : L2.St) (H' : Hp), N σ' H' → ∃ m', m' < m ∧ W (i + 1) m' σ' H') ∧
      ∀ (x : V) (H' : Hp), (Itc lo 1 n).yld i H x H' → g x σ H' fun σ2 H2 => tb { nx := N, rt := D.rt, bk := D.nx, ct := N } σ2 H2 := by
  refine ⟨fun i m σ H => m = n - i ∧ i ≤ n ∧ Pv i σ H, ⟨n, rfl, Nat.zero_le n, h0⟩, fun i m σ H wv => ?_⟩
  obtain ⟨rfl, hi, p⟩ := wv
  by_cases c : i < n
  · refine .inr ⟨c, Pv (i + 1), fun σ' H' p' => ⟨n - (i + 1), by omega, rfl, c, p'⟩, fun x H' y => ?_⟩
    obtain ⟨rfl, rfl⟩ := y
    rw [Int.mul_one]
    exact hs i σ H' c p
  · have : i = n := by omega
    subst this
    exact .inl ⟨Nat.le_refl _, hd σ H p⟩
def optV : Option Int → V
  | .none => .non
  | .some z => .int z
def two (x1 x2 : Int) (j : Nat) : Int := if j = 0 then x1 else x2
def sS (x : Nat → Int) : Nat → Int → Bool
  | 0 => fun _ => false
  | j + 1 => fun z => sS x j z || decide (z = x j)
def sN (x : Nat → Int) : Nat → Nat
  | 0 => 0
  | j + 1 => if sS x j (x j) = true then sN x j else sN x j + 1
theorem sN_two (x1 x2 : Int) : sN (two x1 x2) 2 = if x1 = x2 then 1 else 2 := by
  by_cases c : x1 = x2
  · subst c; simp [sN, sS, two]
  · have : ¬ x2 = x1 := fun e => c e.symm
    simp [sN, sS, two, c, this]
theorem sN_le (x : Nat → Int) : ∀ j, sN x j ≤ j
  | 0 => Nat.le_refl 0
  | j + 1 => by
    have := sN_le x j
    unfold sN
    split <;> omega
theorem valK_get {k : List Int} {z : V} {q : Addr} : ∀ {xs : List Ent} {i : Nat}, (xs.map fun x => x.2.1).Nodup → xs[i]? = some (q, k, z) → valK xs k = some z
  | [], i, _, h => by simp at h
  | x :: xs, 0, _, h => by
    simp at h; subst h; unfold valK; simp
  | x :: xs, i + 1, nd, h => by
    rw [List.getElem?_cons_succ] at h
    rw [List.map_cons, List.nodup_cons] at nd
    have ne : ¬ x.2.1 = k := fun e => nd.1 (by rw [e]; exact List.mem_map.mpr ⟨_, List.mem_of_getElem? h, rfl⟩)
    have := valK_get nd.2 h
    unfold valK at this ⊢
    rw [List.find?_cons_of_neg (by simpa using ne)]
    exact this
theorem kinds_ix {f : Int} (l : Bool) (h0 : 0 ≤ f) (h7 : f < 7) : kinds[2 * f.toNat + l.toNat]? = some (f, l) := by
  have : f = 0 ∨ f = 1 ∨ f = 2 ∨ f = 3 ∨ f = 4 ∨ f = 5 ∨ f = 6 := by omega
  rcases this with h | h | h | h | h | h | h <;> subst h <;> cases l <;> rfl
theorem valK_tab {qs : List Addr} {y : Yd} {f : Int} {l : Bool} (lq : qs.length = 14) (h0 : 0 ≤ f) (h7 : f < 7) : valK (tabE qs y) (keyK (f, l)) = some (.int (numIn y f l)) := by
  have hk := kinds_ix l h0 h7
  obtain ⟨q, hq⟩ : ∃ q, qs[2 * f.toNat + l.toNat]? = some q := ⟨_, List.getElem?_eq_getElem (by rw [lq]; have := Bool.toNat_le l; omega)⟩
  exact valK_get (by rw [tabE_keys lq]; exact keyK_nodup) (tabE_get hq hk)
end
end Cf
namespace Cf
open PySem L2
set_option hygiene false
local macro_rules | `(tactic| walk_at "len") => `(tactic| repeat (first | (obtain ⟨e, _⟩ := h; subst e; rfl; done) | (obtain ⟨_, h⟩ := h)))
local macro_rules | `(tactic| walk_at "rd") => `(tactic| repeat (first | refine ⟨_, rfl, ?_⟩ | refine ⟨_, _, rfl, rfl, ?_⟩ | refine ⟨rfl, ?_⟩ | refine ⟨_, _, rfl, ?_⟩))
local macro_rules | `(tactic| walk_at "yes") => `(tactic| (dsimp only [tYes]; rw [if_pos rfl]))
set_option hygiene true
section
variable {P : Program} {w : World} {K : PySem.W.Frag} {mg : Str → Option Value} {base : Heap}
def spDayIn : Sp := fun vs H Q _ => ∃ (a : Addr) (p : Yd) (y : Int), vs = [.ref a, .int y] ∧ YAt H a p ∧ ∀ H', Same H H' → Q (.int (dayIn p y)) H'
theorem scDayIn : FnScope ["yearly", "year"] ["yearly", "year"] (defScope sDayIn) := ⟨rfl, rfl, rfl, by decide +kernel, rfl, by decide +kernel, by decide +kernel⟩
theorem ok_dayin {f : Addr} {fd : FuncData} (F : Fun K "day_in" "day_in" sDayIn f fd) (D_check_yearly : Df P w K mg base 4 "check_yearly" ["value"] [] spChkY) (D_check_number : Df P w K mg base 2 "check_number" ["value", "least"] [.non] spCheck) (D_year_start : Df P w K mg base 3 "year_start" ["year"] [] spYs) (D_number_in : Df P w K mg base 2 "number_in" ["yearly", "kind"] [] spNumIn) (D_kind_of : Df P w K mg base 4 "kind_of" ["year"] [] spKindOf) : FnOk P w K mg base CX0 7 f fd ["yearly", "year"] spDayIn := by
  refine F.ok scDayIn (fun vs H Q E h => ?_) (fun cdv A outer s H vs Q E hr h => ?_)
  · obtain ⟨_, _, _, rfl, _⟩ := h
    rfl
  · obtain ⟨a, p, y, rfl, Ya, k⟩ := h
    refine ⟨_, (pss_cons (ps_expr (pe_df D_check_yearly (hr.mono (by decide)) (pa_cons (pv 0) pa_nil)))
      (pss_cons (ps_expr (pe_df D_check_number (hr.mono (by decide)) (pa_cons (pv 1) pa_nil)))
      (pss_one (ps_ret (pe_op op_add (pe_df D_year_start (hr.mono (by decide)) (pa_cons (pv 1) pa_nil)) (pe_df D_number_in (hr.mono (by decide)) (pa_cons (pv 0) (pa_cons (pe_df D_kind_of (hr.mono (by decide)) (pa_cons (pv 1) pa_nil)) pa_nil)))))))), ?_⟩
    walk_at "rd"
    refine ⟨a, p, rfl, Ya, fun H1 S1 => ?_⟩
    walk_at "rd"
    refine fun H2 kq S2 nk hk => ?_
    walk_at "rd"
    exact ⟨a, kq, p, _, _, rfl, (Ya.same S1).same S2, hk, fun H3 S3 => ⟨_, _, rfl, rfl, k H3 ((S1.trans S2).trans S3)⟩⟩
/-! ### is_yearly, check_yearly -/
structure Gy (K : PySem.W.Frag) (w : World) (mg : Str → Option Value) (wd lf fu : Addr) : Prop where
  words : mg "WORDS" = some (.ref wd)
  kd : ∃ es n, KDict K w wd es n
  nth : ∃ t, PySem.W.nsIn K wd "nth" = some (some (.int 3 t))
  last : ∃ t, PySem.W.nsIn K wd "last" = some (some (.int 2 t))
  frm : ∃ t, PySem.W.nsIn K wd "from" = some (some (.int 3 t))
  unt : ∃ t, PySem.W.nsIn K wd "until" = some (some (.int 3 t))
  date : ∃ t, PySem.W.nsIn K wd "date" = some (some (.int 2 t))
  day : ∃ t, PySem.W.nsIn K wd "day" = some (some (.int 1 t))
  gl : mg "LAST_FROM" = some (.ref lf)
  gf : mg "FIRST_UNTIL" = some (.ref fu)
  lfq : ∀ H : Hp, SqT K H lf [.int 12, .int 25]
  fuq : ∀ H : Hp, SqT K H fu [.int 1, .int 7]
def Yd.word : Yd → Str
  | .nth .. => "nth"
  | .last .. => "last"
  | .frm .. => "from"
  | .unt .. => "until"
  | .date .. => "date"
  | .day .. => "day"
def Yd.nums : Yd → List Int
  | .nth m k w => [m, k, w]
  | .last m w => [m, w]
  | .frm m n w => [m, n, w]
  | .unt m n w => [m, n, w]
  | .date m n => [m, n]
  | .day n => [n]
theorem Yd.vals_eq (y : Yd) : y.vals = .str y.word :: y.nums.map V.int := by cases y <;> rfl
theorem ltL_two (a b c d : Int) : HT.lexLt [a, b] [c, d] = (decide (a < c) || (decide (a = c) && decide (b < d))) := by
  by_cases h1 : a < c
  · have h2 : ¬ a = c := by omega
    simp [HT.lexLt, h1, h2]
  · by_cases h2 : a = c
    · subst h2
      by_cases h3 : b < d
      · have h4 : ¬ b = d := by omega
        simp [HT.lexLt, h3, h4]
      · simp [HT.lexLt, h3]
    · simp [HT.lexLt, h1, h2]
def spInB (K : PySem.W.Frag) : Sp := fun vs H Q _ => ∃ (a : Addr) (y : Yd), vs = [.str y.word, .ref a] ∧ H a = some (.tup (y.nums.map V.int)) ∧ y.Ok ∧ ∀ H', Same H H' → Q (.bl true) H'
theorem scInBounds : FnScope ["word", "numbers"] ["word", "numbers"] (defScope sInBounds) := ⟨rfl, rfl, rfl, by decide +kernel, rfl, by decide +kernel, by decide +kernel⟩
theorem ok_inb {wd lf fu : Addr} {f : Addr} {fd : FuncData} (F : Fun K "in_bounds" "in_bounds" sInBounds f fd) (T : Nm mg) (G : Gy K w mg wd lf fu) (D_month_length : Df P w K mg base 1 "month_length" ["month", "leap"] [] spMlen) : FnOk P w K mg base CX0 2 f fd ["word", "numbers"] (spInB K) := by
  refine F.ok scInBounds (fun vs H Q E h => ?_) (fun cdv A outer s H vs Q E hr h => ?_)
  · obtain ⟨_, _, rfl, _⟩ := h
    rfl
  · obtain ⟨a, y, rfl, ha, ok, k⟩ := h
    have nd := scInBounds.nd
    have hu := hr.units
    refine ⟨_, (pss_cons (ps_if (pt_cmpR op_eq (pv 0) pe_str (nomark _))
        (pss_one (ps_ret (pe_chain op_le op_le pe_int (pe_ix ix_tup (pv 1) pe_int (fun _ _ => rfl)) pe_int)))
        pss_nil)
      (pss_cons (ps_if (pt_not (pt_chain op_le op_le pe_int (pe_ix ix_tup (pv 1) pe_int (fun _ _ => rfl)) pe_int))
        (pss_one (ps_ret pe_bl))
        pss_nil)
      (pss_cons (ps_if (PW.pt (pw_and (pt_cmpR op_eq (pv 0) pe_str (nomark _)) (pw_and1 (pt_not (pt_chain op_le op_le pe_int (pe_ix ix_tup (pv 1) pe_int (fun _ _ => rfl)) pe_int)))))
        (pss_one (ps_ret pe_bl))
        pss_nil)
      (pss_cons (ps_if (PW.pt (pw_and (pt_cmpR (show OpR _ _ (rIn K false) from op_in_seq) (pv 0) (pe_tup (pa_cons pe_str (pa_cons pe_str (pa_cons pe_str pa_nil)))) rfl) (pw_and1 (pt_not (pt_chain op_le op_le pe_int (pe_ix ix_tup (pv 1) pe_int (fun _ _ => rfl)) (pe_df D_month_length (hr.mono (by decide)) (pa_cons (pe_ix ix_tup (pv 1) pe_int (fun _ _ => rfl)) (pa_cons pe_bl pa_nil))))))))
        (pss_one (ps_ret pe_bl))
        pss_nil)
      (pss_cons (ps_if (PW.pt (pw_and (pt_cmpR op_eq (pv 0) pe_str (nomark _)) (pw_and1 (pt_cmpR (op_gtT (lt0 hu)) (pe_slice sl_tupA (pv 1) po_none (po_some pe_int)) (pe_glob (v := .ref lf) rfl G.gl rfl) (nomark _)))))
        (pss_one (ps_ret pe_bl))
        pss_nil)
      (pss_cons (ps_if (PW.pt (pw_and (pt_cmpR op_eq (pv 0) pe_str (nomark _)) (pw_and1 (pt_cmpR (op_ltT (lt0 hu)) (pe_slice sl_tupA (pv 1) po_none (po_some pe_int)) (pe_glob (v := .ref fu) rfl G.gf rfl) (nomark _)))))
        (pss_one (ps_ret pe_bl))
        pss_nil)
      (pss_one (ps_ret (pe_or (pe_cmpR op_eq (pv 0) pe_str (nomark _)) (pe_one (pe_chain op_le op_le pe_int (pe_ix ix_tup (pv 1) (pe_un un_neg pe_int) (fun _ _ => rfl)) pe_int))))))))))), ?_⟩
    cases y with
    | nth m n u =>
      have sq := SqT.of (K := K) ha
      walk_at "rd"
      refine ⟨a, _, _, _, rfl, rfl, sq, atI_nat (j := 0) rfl, ?_⟩
      walk_at "rd"
      refine iteTT (decide_eq_true ok.1) ?_
      walk_at "rd"
      refine iteFF (by rw [decide_eq_true ok.2.1]; rfl) ?_
      walk_at "rd"
      refine ⟨a, _, _, _, rfl, rfl, sq, atI_nat (j := 1) rfl, ?_⟩
      walk_at "rd"
      refine iteTT (decide_eq_true ok.2.2.1) ?_
      walk_at "rd"
      refine iteFF (by rw [decide_eq_true ok.2.2.2.1]; rfl) ?_
      walk_at "rd"
      refine ⟨by show 3 ≤ sizeLine; decide, fun t ht => ?_⟩
      have S1 := Same.new (o := .tup [.str ("from" : Str), .str ("until" : Str), .str ("date" : Str)]) ht
      have sq1 := SqT.of (K := K) (S1 _ _ ha)
      refine ⟨t, _, rfl, .inr (SqT.of (by rw [upd_same])), rfl, rfl, ?_⟩
      walk_at "rd"
      refine ⟨a, _, _, _, rfl, rfl, sq1, (by rfl), ?_⟩
      walk_at "rd"
      refine iteTT (decide_eq_true ok.2.2.2.2.1) ?_
      walk_at "rd"
      show Q (V.bl (decide (_ ≤ _))) _
      rw [decide_eq_true ok.2.2.2.2.2]
      exact k _ S1
    | last m u =>
      have sq := SqT.of (K := K) ha
      walk_at "rd"
      refine ⟨a, _, _, _, rfl, rfl, sq, atI_nat (j := 0) rfl, ?_⟩
      walk_at "rd"
      refine iteTT (decide_eq_true ok.1) ?_
      walk_at "rd"
      refine iteFF (by rw [decide_eq_true ok.2.1]; rfl) ?_
      walk_at "rd"
      refine ⟨by show 3 ≤ sizeLine; decide, fun t ht => ?_⟩
      have S1 := Same.new (o := .tup [.str ("from" : Str), .str ("until" : Str), .str ("date" : Str)]) ht
      have sq1 := SqT.of (K := K) (S1 _ _ ha)
      refine ⟨t, _, rfl, .inr (SqT.of (by rw [upd_same])), rfl, rfl, ?_⟩
      walk_at "rd"
      refine ⟨a, _, _, _, rfl, rfl, sq1, (by rfl), ?_⟩
      walk_at "rd"
      refine iteTT (decide_eq_true ok.2.2.1) ?_
      walk_at "rd"
      show Q (V.bl (decide (_ ≤ _))) _
      rw [decide_eq_true ok.2.2.2]
      exact k _ S1
    | frm m n u =>
      have sq := SqT.of (K := K) ha
      walk_at "rd"
      refine ⟨a, _, _, _, rfl, rfl, sq, atI_nat (j := 0) rfl, ?_⟩
      walk_at "rd"
      refine iteTT (decide_eq_true ok.1.1) ?_
      walk_at "rd"
      refine iteFF (by rw [decide_eq_true ok.1.2.1]; rfl) ?_
      walk_at "rd"
      refine ⟨by show 3 ≤ sizeLine; decide, fun t ht => ?_⟩
      have S1 := Same.new (o := .tup [.str ("from" : Str), .str ("until" : Str), .str ("date" : Str)]) ht
      have sq1 := SqT.of (K := K) (S1 _ _ ha)
      refine ⟨t, _, rfl, .inr (SqT.of (by rw [upd_same])), rfl, rfl, ?_⟩
      walk_at "rd"
      refine ⟨a, _, _, _, rfl, rfl, sq1, atI_nat (j := 1) rfl, ?_⟩
      walk_at "rd"
      refine iteTT (decide_eq_true ok.1.2.2.1) ?_
      walk_at "rd"
      refine ⟨a, _, _, _, rfl, rfl, sq1, atI_nat (j := 0) rfl, ?_⟩
      walk_at "rd"
      refine ⟨ok.1.1, ok.1.2.1, ?_⟩
      walk_at "rd"
      refine iteFF (by rw [decide_eq_true ok.1.2.2.2]; rfl) ?_
      walk_at "rd"
      refine ⟨a, _, rfl, sq1, fun e => absurd e (show ¬ (HT.sIx 3 0 none = 0 ∧ HT.sIx 3 3 (some 2) = 3) by decide), fun _ q2 hq2 => ?_⟩
      have S2 := Same.new (o := .tup [.int m, .int n]) hq2
      have sq2 := SqT.of (K := K) (S2 _ _ (S1 _ _ ha))
      walk_at "rd"
      refine ⟨q2, lf, [m, n], [12, 25], rfl, rfl, SqT.of (by rw [upd_same]; rfl), G.lfq _, ?_⟩
      refine ⟨_, rfl, iteFF (by rw [gtL_two]; have := ok.2.1; unfold LeDec at this; simp; omega) ?_⟩
      walk_at "rd"
      refine ⟨a, _, _, _, rfl, rfl, sq2, (by rfl), ?_⟩
      walk_at "rd"
      refine iteTT (decide_eq_true ok.2.2.1) ?_
      walk_at "rd"
      show Q (V.bl (decide (_ ≤ _))) _
      rw [decide_eq_true ok.2.2.2]
      exact k _ (S1.trans S2)
    | unt m n u =>
      have sq := SqT.of (K := K) ha
      walk_at "rd"
      refine ⟨a, _, _, _, rfl, rfl, sq, atI_nat (j := 0) rfl, ?_⟩
      walk_at "rd"
      refine iteTT (decide_eq_true ok.1.1) ?_
      walk_at "rd"
      refine iteFF (by rw [decide_eq_true ok.1.2.1]; rfl) ?_
      walk_at "rd"
      refine ⟨by show 3 ≤ sizeLine; decide, fun t ht => ?_⟩
      have S1 := Same.new (o := .tup [.str ("from" : Str), .str ("until" : Str), .str ("date" : Str)]) ht
      have sq1 := SqT.of (K := K) (S1 _ _ ha)
      refine ⟨t, _, rfl, .inr (SqT.of (by rw [upd_same])), rfl, rfl, ?_⟩
      walk_at "rd"
      refine ⟨a, _, _, _, rfl, rfl, sq1, atI_nat (j := 1) rfl, ?_⟩
      walk_at "rd"
      refine iteTT (decide_eq_true ok.1.2.2.1) ?_
      walk_at "rd"
      refine ⟨a, _, _, _, rfl, rfl, sq1, atI_nat (j := 0) rfl, ?_⟩
      walk_at "rd"
      refine ⟨ok.1.1, ok.1.2.1, ?_⟩
      walk_at "rd"
      refine iteFF (by rw [decide_eq_true ok.1.2.2.2]; rfl) ?_
      walk_at "rd"
      refine ⟨a, _, rfl, sq1, fun e => absurd e (show ¬ (HT.sIx 3 0 none = 0 ∧ HT.sIx 3 3 (some 2) = 3) by decide), fun _ q2 hq2 => ?_⟩
      have S2 := Same.new (o := .tup [.int m, .int n]) hq2
      have sq2 := SqT.of (K := K) (S2 _ _ (S1 _ _ ha))
      walk_at "rd"
      refine ⟨q2, fu, [m, n], [1, 7], rfl, rfl, SqT.of (by rw [upd_same]; rfl), G.fuq _, ?_⟩
      refine ⟨_, rfl, iteFF (by rw [ltL_two]; have := ok.2.1; unfold GeJan at this; simp; omega) ?_⟩
      walk_at "rd"
      refine ⟨a, _, _, _, rfl, rfl, sq2, (by rfl), ?_⟩
      walk_at "rd"
      refine iteTT (decide_eq_true ok.2.2.1) ?_
      walk_at "rd"
      show Q (V.bl (decide (_ ≤ _))) _
      rw [decide_eq_true ok.2.2.2]
      exact k _ (S1.trans S2)
    | date m n =>
      have sq := SqT.of (K := K) ha
      walk_at "rd"
      refine ⟨a, _, _, _, rfl, rfl, sq, atI_nat (j := 0) rfl, ?_⟩
      walk_at "rd"
      refine iteTT (decide_eq_true ok.1) ?_
      walk_at "rd"
      refine iteFF (by rw [decide_eq_true ok.2.1]; rfl) ?_
      walk_at "rd"
      refine ⟨by show 3 ≤ sizeLine; decide, fun t ht => ?_⟩
      have S1 := Same.new (o := .tup [.str ("from" : Str), .str ("until" : Str), .str ("date" : Str)]) ht
      have sq1 := SqT.of (K := K) (S1 _ _ ha)
      refine ⟨t, _, rfl, .inr (SqT.of (by rw [upd_same])), rfl, rfl, ?_⟩
      walk_at "rd"
      refine ⟨a, _, _, _, rfl, rfl, sq1, atI_nat (j := 1) rfl, ?_⟩
      walk_at "rd"
      refine iteTT (decide_eq_true ok.2.2.1) ?_
      walk_at "rd"
      refine ⟨a, _, _, _, rfl, rfl, sq1, atI_nat (j := 0) rfl, ?_⟩
      walk_at "rd"
      refine ⟨ok.1, ok.2.1, ?_⟩
      walk_at "rd"
      refine iteFF (by rw [decide_eq_true ok.2.2.2]; rfl) ?_
      walk_at "rd"
      exact k _ S1
    | day n =>
      have sq := SqT.of (K := K) ha
      walk_at "rd"
      refine ⟨a, _, _, _, rfl, rfl, sq, atI_nat (j := 0) rfl, ?_⟩
      walk_at "rd"
      refine iteTT (decide_eq_true ok.1) ?_
      walk_at "rd"
      show Q (V.bl (decide (_ ≤ _))) _
      rw [decide_eq_true ok.2]
      exact k _ (Same.refl _)
end
end Cf
namespace Cf
open PySem L2
set_option hygiene false
local macro_rules | `(tactic| walk_at "len") => `(tactic| repeat (first | (obtain ⟨e, _⟩ := h; subst e; rfl; done) | (obtain ⟨_, h⟩ := h)))
local macro_rules | `(tactic| walk_at "rd") => `(tactic| repeat (first | refine ⟨_, rfl, ?_⟩ | refine ⟨_, _, rfl, rfl, ?_⟩ | refine ⟨rfl, ?_⟩ | refine ⟨_, _, rfl, ?_⟩))
local macro_rules | `(tactic| walk_at "yes") => `(tactic| (dsimp only [tYes]; rw [if_pos rfl]))
set_option hygiene true
section
variable {P : Program} {w : World} {K : PySem.W.Frag} {mg : Str → Option Value} {base : Heap}
theorem Yd.nums_len (y : Yd) : y.nums.length ≤ 3 := by cases y <;> simp [Yd.nums]
theorem Gy.word {wd lf fu : Addr} (G : Gy K w mg wd lf fu) (y : Yd) : ∃ t, PySem.W.nsIn K wd y.word = some (some (.int (y.nums.length : Nat) t)) := by
  cases y
  · exact G.nth
  · exact G.last
  · exact G.frm
  · exact G.unt
  · exact G.date
  · exact G.day
def spIsY : Sp := fun vs H Q _ => ∃ (p : Addr) (y : Yd), vs = [.ref p] ∧ YAt H p y ∧ ∀ H', Same H H' → Q (.bl true) H'
theorem scIsYearly : FnScope ["value", "word", "numbers", "number"] ["value"] (defScope sIsYearly) := ⟨rfl, rfl, rfl, by decide +kernel, rfl, by decide +kernel, by decide +kernel⟩
theorem ok_isy {wd lf fu : Addr} {f : Addr} {fd : FuncData} (F : Fun K "is_yearly" "is_yearly" sIsYearly f fd) (T : Nm mg) (G : Gy K w mg wd lf fu) (D_is_number : Df P w K mg base 1 "is_number" ["value"] [] spIsNum) (D_in_bounds : Df P w K mg base 2 "in_bounds" ["word", "numbers"] [] (spInB K)) : FnOk P w K mg base CX0 3 f fd ["value"] spIsY := by
  refine F.ok scIsYearly (fun vs H Q E h => ?_) (fun cdv A outer s H vs Q E hr h => ?_)
  · obtain ⟨_, _, rfl, _⟩ := h
    rfl
  · obtain ⟨p, y, rfl, Y, k⟩ := h
    have nd := scIsYearly.nd
    have hu := hr.units
    obtain ⟨es, n, hkd⟩ := G.kd
    refine ⟨_, (pss_cons (ps_if (PW.pt (pw_or (pt_not (pt_val (pe_callB call_isi (by rfl) T.isinstance (by decide +kernel) (pa_cons (pv 0) (pa_cons (pe_bltn (v := .ty "tuple") (by rfl) T.tuple (by decide +kernel) rfl) pa_nil))))) (pw_or (pt_not (pt_truth (pv 0) (fun _ => rfl))) (pw_or1 (pt_not (pt_val (pe_callB call_isi (by rfl) T.isinstance (by decide +kernel) (pa_cons (pe_ix ix_tup (pv 0) pe_int (fun _ _ => rfl)) (pa_cons (pe_bltn (v := .ty "str") (by rfl) T.str (by decide +kernel) rfl) pa_nil)))))))))
        (pss_one (ps_ret pe_bl))
        pss_nil)
      (pss_cons (ps_asg (pv 0) (pg_star rfl (pgs_cons (pg_name (i := 1) nd rfl (Or.inl rfl)) (pgs_star (pgs_cons (pg_name (i := 2) nd rfl (Or.inl rfl)) pgs_nil)))))
      (pss_cons (ps_if (PW.pt (pw_or (pt_cmpR op_ne (pe_kget hkd (pe_glob (v := .ref wd) rfl G.words rfl) (pv 1) (by constructor <;> rfl)) (pe_callB call_len_seq (by rfl) T.len (by decide +kernel) (pa_cons (pv 2) pa_nil)) (nomark _)) (pw_or1 (pt_not (pt_val (pe_callB (cr_all rfl) (by rfl) T.all (by decide +kernel) (pa_cons (pe_lc (own := [("number", 3)]) (g := (gName 3)) (tt := tYes) rfl nd (pi_list (pv 2)) (blkOk_by (N := ["value", "word", "numbers", "number"]) (sc := defScope sIsYearly) (by decide +kernel)) (fun _ _ _ _ _ => pg_name (i := 3) nd rfl (Or.inl rfl)) (fun _ _ _ _ _ => pts_nil) (fun _ _ _ _ _ => (pe_df D_is_number (hr.mono (by decide)) (pa_cons (pv 3) pa_nil)))) pa_nil)))))))
        (pss_one (ps_ret pe_bl))
        pss_nil)
      (pss_one (ps_ret (pe_df D_in_bounds (hr.mono (by decide)) (pa_cons (pv 1) (pa_cons (pe_callTy call_tuple_of (by rfl) T.tuple (by decide +kernel) (pa_cons (pv 2) pa_nil)) pa_nil)))))))), ?_⟩
    walk_at "rd"
    refine ⟨_, _, _, _, true, rfl, .ty "tuple", .base (.tup Y.tup), kit_ty (by decide +kernel), ?_⟩
    walk_at "rd"
    have sq : SqT K H p (.str y.word :: y.nums.map V.int) := by rw [← Yd.vals_eq]; exact Y.sq
    refine ⟨true, .inr (.inl ⟨_, sq, rfl⟩), ?_⟩
    walk_at "rd"
    refine ⟨p, _, _, _, rfl, rfl, sq, atI_nat (j := 0) rfl, ?_⟩
    walk_at "rd"
    refine ⟨_, _, _, _, true, rfl, .ty "str", .base (.str _), kit_ty (by decide +kernel), ?_⟩
    walk_at "rd"
    refine ⟨p, _, rfl, sq, by show 1 ≤ (V.str y.word :: y.nums.map V.int).length; simp, fun L hL => ?_⟩
    walk_at "rd"
    obtain ⟨tw, gw⟩ := G.word y
    refine ⟨y.word, _, .int (y.nums.length : Nat), rfl, gw, ⟨tw, rfl⟩, ?_⟩
    walk_at "rd"
    have S1 : Same H (upd H L (.lst (y.nums.map V.int))) := Same.new hL
    refine ⟨L, y.nums.map V.int, rfl, .inl (SqL.of (by rw [upd_same]; rfl)), ?_⟩
    walk_at "rd"
    refine iteFF (by simp) ?_
    walk_at "rd"
    have hL1 : (upd H L (.lst (y.nums.map V.int))) L = some (.lst (y.nums.map V.int)) := by rw [upd_same]
    refine ⟨⟨y.nums.map V.int, SqL.of hL1⟩, fun D hD => ?_⟩
    have LD : L ≠ D := fun e => by rw [← e] at hD; exact nomatch hD.symm.trans hL1
    have hD2 : (upd H L (.lst (y.nums.map V.int))) D = none := hD
    refine lc_it (walk_list (K := K) (a := L) (xs := y.nums.map V.int)) (fun i H' => Same (upd H L (.lst (y.nums.map V.int))) H' ∧ H' D = some (.lst ((List.replicate i true).map V.bl))) ⟨Same.new hD2, upd_same⟩ (fun i H' _ ⟨s1, _⟩ => SqL.of (s1 _ _ hL1)) ?_ ?_
    · rintro i z H' H'' hil ⟨s1, hDl⟩ ⟨rfl, hi⟩
      rw [List.length_map] at hil
      obtain ⟨z, hz, rfl⟩ := ints_get hi
      walk_at "rd"
      refine acc_step s1 hD hDl (by rw [List.length_map, List.length_replicate]; have := y.nums_len; have : 3 < sizeLine := by decide
                                    omega) ?_
      rw [List.replicate_succ', List.map_append]; rfl
    · rintro H2 ⟨s1, hDl⟩
      rw [List.length_map] at hDl
      refine ⟨D, _, rfl, SqL.of hDl, ?_⟩
      have e : (List.replicate y.nums.length true).all id = true := by rw [List.all_eq_true]; intro x hx; exact List.eq_of_mem_replicate hx
      rw [e]
      walk_at "rd"
      refine ⟨L, y.nums.map V.int, rfl, .inl ⟨SqL.of (s1 _ _ hL1), fun q hq => ?_⟩⟩
      walk_at "rd"
      exact ⟨by rw [upd_same], Y.ok, fun H' S => k H' (((S1.trans s1).trans (Same.new hq)).trans S)⟩
theorem scCheckYearly : FnScope ["value"] ["value"] (defScope sCheckYearly) := ⟨rfl, rfl, rfl, by decide +kernel, rfl, by decide +kernel, by decide +kernel⟩
theorem ok_cky {f : Addr} {fd : FuncData} (F : Fun K "check_yearly" "check_yearly" sCheckYearly f fd) (D_is_yearly : Df P w K mg base 3 "is_yearly" ["value"] [] spIsY) : FnOk P w K mg base CX0 4 f fd ["value"] spChkY := by
  refine F.ok scCheckYearly (fun vs H Q E h => ?_) (fun cdv A outer s H vs Q E hr h => ?_)
  · obtain ⟨_, _, rfl, _⟩ := h
    rfl
  · obtain ⟨p, y, rfl, Y, k⟩ := h
    refine ⟨_, PSs.nox (pss_one (ps_if (pt_not (pt_val (pe_df D_is_yearly (hr.mono (by decide)) (pa_cons (pv 0) pa_nil))))
        (pss_one ps_never)
        pss_nil)), ?_⟩
    walk_at "rd"
    exact ⟨p, y, rfl, Y, fun H1 S1 => ⟨_, rfl, iteFF rfl (k H1 S1)⟩⟩
end
end Cf
namespace Cf
open PySem L2
set_option hygiene false
local macro_rules | `(tactic| walk_at "len") => `(tactic| repeat (first | (obtain ⟨e, _⟩ := h; subst e; rfl; done) | (obtain ⟨_, h⟩ := h)))
local macro_rules | `(tactic| walk_at "rd") => `(tactic| repeat (first | refine ⟨_, rfl, ?_⟩ | refine ⟨_, _, rfl, rfl, ?_⟩ | refine ⟨rfl, ?_⟩ | refine ⟨_, _, rfl, ?_⟩))
local macro_rules | `(tactic| walk_at "yes") => `(tactic| (dsimp only [tYes]; rw [if_pos rfl]))
set_option hygiene true
section
variable {P : Program} {w : World} {K : PySem.W.Frag} {mg : Str → Option Value} {base : Heap}
/-! ### the law's own calendar -/
def spNy : Sp := fun vs H Q _ => ∃ y : Int, vs = [.int y] ∧ Q (.int (ysOf y)) H
theorem scLawNewYear : FnScope ["one_year", "gone"] ["one_year"] (defScope sLawNewYear) := ⟨rfl, rfl, rfl, by decide +kernel, rfl, by decide +kernel, by decide +kernel⟩
theorem ok_ny {f : Addr} {fd : FuncData} (F : Fun K "_law_new_year" "_law_new_year" sLawNewYear f fd) : FnOk P w K mg base CX0 1 f fd ["one_year"] spNy := by
  refine F.ok scLawNewYear (fun vs H Q E h => ?_) (fun cdv A outer s H vs Q E hr h => ?_)
  · obtain ⟨n, rfl, _⟩ := h
    rfl
  · obtain ⟨y, rfl, k⟩ := h
    refine ⟨_, pss_cons (ps_set (i := 1) scLawNewYear.nd rfl (Or.inl rfl) (pe_op op_sub (pv 0) pe_int)) (pss_one (ps_ret (pe_op op_add (pe_op op_sub (pe_op op_add (pe_op op_mul pe_int (pv 1)) (pe_op op_fdiv (pe_op op_add (pv 1) pe_int) pe_int))
      (pe_op op_fdiv (pe_op op_add (pv 1) pe_int) pe_int)) (pe_op op_fdiv (pe_op op_add (pv 1) pe_int) pe_int)))), ?_⟩
    refine ⟨_, rfl, _, _, rfl, rfl, _, rfl, _, _, rfl, rfl, .inl ⟨by decide, by decide⟩, _, rfl, _, _, rfl, rfl, _, _, rfl, rfl, ⟨by decide, by decide⟩, _, _, rfl, rfl, _, rfl, _, _, rfl, rfl, _, _, rfl, rfl, ⟨by decide, by decide⟩, _, _, rfl, rfl,
      _, rfl, _, _, rfl, rfl, _, _, rfl, rfl, ⟨by decide, by decide⟩, _, _, rfl, rfl, ?_⟩
    rw [← lawNY_eq] at k
    exact k
def spLong : Sp := fun vs H Q _ => ∃ y : Int, vs = [.int y] ∧ Q (.bl (leapB y)) H
theorem scLawIsLong : FnScope ["one_year"] ["one_year"] (defScope sLawIsLong) := ⟨rfl, rfl, rfl, by decide +kernel, rfl, by decide +kernel, by decide +kernel⟩
theorem ok_long {f : Addr} {fd : FuncData} (F : Fun K "_law_is_long" "_law_is_long" sLawIsLong f fd) (T : Nm mg) : FnOk P w K mg base CX0 1 f fd ["one_year"] spLong := by
  refine F.ok scLawIsLong (fun vs H Q E h => ?_) (fun cdv A outer s H vs Q E hr h => ?_)
  · obtain ⟨n, rfl, _⟩ := h
    rfl
  · obtain ⟨y, rfl, k⟩ := h
    have k' := k
    rw [← isLong_eq] at k'
    unfold isLong at k'
    refine ⟨_, pss_one (ps_ret (pe_or (pe_cmpR op_eq (pe_op op_mod (pe_callTy call_int1 (by rfl) T.int (by decide +kernel) (pa_cons (pv 0) pa_nil)) pe_int) pe_int (nomark _))
      (pe_one (pe_and (pe_cmpR op_eq (pe_op op_mod (pe_callTy call_int1 (by rfl) T.int (by decide +kernel) (pa_cons (pv 0) pa_nil)) pe_int) pe_int (nomark _))
        (pe_one (pe_cmpR op_ne (pe_op op_mod (pe_callTy call_int1 (by rfl) T.int (by decide +kernel) (pa_cons (pv 0) pa_nil)) pe_int) pe_int (nomark _))))))), ?_⟩
    refine ⟨_, rfl, .inl ⟨_, rfl, _, _, rfl, rfl, (by show (0 : Int) < 400; decide), rfl, _, rfl, ?_⟩⟩
    rw [dec_int]
    by_cases c4 : y % 400 = 0
    · refine iteTT (by simpa using c4) ?_
      rw [decide_eq_true c4, Bool.true_or] at k'
      exact k'
    · refine iteFF (by simpa using c4) ?_
      rw [decide_eq_false c4, Bool.false_or] at k'
      refine ⟨_, rfl, .inl ⟨_, rfl, _, _, rfl, rfl, (by show (0 : Int) < 4; decide), rfl, _, rfl, ?_⟩⟩
      by_cases c1 : y % 4 = 0
      · refine iteTT (by rw [dec_int]; simpa using c1) ?_
        rw [decide_eq_true c1, Bool.true_and] at k'
        refine ⟨_, rfl, .inl ⟨_, rfl, _, _, rfl, rfl, (by show (0 : Int) < 100; decide), rfl, ?_⟩⟩
        rw [show (!decide (V.int (y % 100) = V.int 0)) = decide (y % 100 ≠ 0) by rw [dec_int]; by_cases q : y % 100 = 0 <;> simp [q]]
        exact k'
      · refine iteFF (by rw [dec_int]; simpa using c1) ?_
        rw [decide_eq_false c1, Bool.false_and] at k'
        exact k'
def spSize : Sp := fun vs H Q _ => ∃ y m : Int, vs = [.int y, .int m] ∧ 1 ≤ m ∧ m ≤ 12 ∧ ∀ H', Same H H' → Q (.int (mlen m (leapB y))) H'
theorem scLawSize : FnScope ["one_year", "month"] ["one_year", "month"] (defScope sLawSize) := ⟨rfl, rfl, rfl, by decide +kernel, rfl, by decide +kernel, by decide +kernel⟩
theorem ok_size {f : Addr} {fd : FuncData} (F : Fun K "_law_size" "_law_size" sLawSize f fd) (DI : Df P w K mg base 1 "_law_is_long" ["one_year"] [] spLong) : FnOk P w K mg base CX0 2 f fd ["one_year", "month"] spSize := by
  refine F.ok scLawSize (fun vs H Q E h => ?_) (fun cdv A outer s H vs Q E hr h => ?_)
  · obtain ⟨n, m, rfl, _⟩ := h
    rfl
  · obtain ⟨y, m, rfl, m1, m2, k⟩ := h
    refine ⟨_, pss_one (ps_ret (pe_ix ix_list (pe_lst (pa_cons pe_int (pa_cons (pe_ifExp (pt_val (pe_df DI hr (pa_cons (pv 0) pa_nil))) pe_int pe_int) (pa_cons pe_int (pa_cons pe_int (pa_cons pe_int (pa_cons pe_int (pa_cons pe_int (pa_cons pe_int (pa_cons pe_int (pa_cons pe_int (pa_cons pe_int (pa_cons pe_int pa_nil)))))))))))))
      (pe_op op_sub (pv 1) pe_int) (fun _ _ => rfl))), ?_⟩
    refine ⟨_, rfl, y, rfl, leapB y, rfl, ?_⟩
    have fin : ∀ l : Bool, l = leapB y → ∀ p : Addr, H p = none → tOp (rI0 fun i j => .int (i - j)) (tVar 1) (tC (.int 1)) [some (.int y), some (.int m)] (upd H p (.lst ((lawSizes l).map V.int))) (fun y1 H2 => rIxL K (.ref p) y1 H2 Q) := fun l hl p hp => by
      refine ⟨_, rfl, _, _, rfl, rfl, p, _, _, V.int (mlen m l), rfl, rfl, SqL.of upd_same, ?_, ?_⟩
      · refine at_of (j := (m - 1).toNat) (by omega) ?_
        rw [List.getElem?_map, lawSizes_get m1 m2]
        rfl
      · rw [hl]
        exact k _ (Same.new hp)
    cases e : leapB y with
    | true => exact iteT ⟨by show 12 ≤ sizeLine; decide, fun p hp => fin true e.symm p hp⟩
    | false => exact iteF ⟨by show 12 ≤ sizeLine; decide, fun p hp => fin false e.symm p hp⟩
def spMonth : Sp := fun vs H Q _ => ∃ y m : Int, vs = [.int y, .int m] ∧ 1 ≤ m ∧ m ≤ 13 ∧ ∀ H', Same H H' → Q (.int (ysOf y + mst m (leapB y))) H'
theorem scLawMonth : FnScope ["one_year", "month", "leap", "sizes"] ["one_year", "month"] (defScope sLawMonth) := ⟨rfl, rfl, rfl, by decide +kernel, rfl, by decide +kernel, by decide +kernel⟩
theorem cut12 {m : Int} (h1 : 1 ≤ m) (h2 : m ≤ 13) (a b c d e f g h i j k l : V) : cutV [a, b, c, d, e, f, g, h, i, j, k, l] none (some (m - 1)) = [a, b, c, d, e, f, g, h, i, j, k, l].take (m - 1).toNat := by
  rcases m13 h1 h2 with rfl | ⟨g1, g2⟩
  · rfl
  · rcases m12 g1 g2 with rfl | rfl | rfl | rfl | rfl | rfl | rfl | rfl | rfl | rfl | rfl | rfl <;> rfl
theorem lawMonth13 {y m : Int} (h1 : 1 ≤ m) (h2 : m ≤ 13) : ysOf y + (([31, 28 + (ysOf (y + 1) - ysOf y - 365), 31, 30, 31, 30, 31, 31, 30, 31, 30, 31] : List Int).take (m - 1).toNat).sum = ysOf y + mst m (leapB y) := by
  rcases m13 h1 h2 with rfl | ⟨g1, g2⟩
  · rw [mst_13]
    have := ys_succ y
    unfold leapI at this
    show ysOf y + (31 + ((28 + (ysOf (y + 1) - ysOf y - 365)) + (31 + (30 + (31 + (30 + (31 + (31 + (30 + (31 + (30 + (31 + 0)))))))))))) = _
    omega
  · have e := lawMonth_eq (y := y) g1 g2
    rw [lawNY_eq, lawNY_eq] at e
    exact e
theorem ok_month {f : Addr} {fd : FuncData} (F : Fun K "_law_month" "_law_month" sLawMonth f fd) (T : Nm mg) (DN : Df P w K mg base 1 "_law_new_year" ["one_year"] [] spNy) : FnOk P w K mg base CX0 2 f fd ["one_year", "month"] spMonth := by
  refine F.ok scLawMonth (fun vs H Q E h => ?_) (fun cdv A outer s H vs Q E hr h => ?_)
  · obtain ⟨n, m, rfl, _⟩ := h
    rfl
  · obtain ⟨y, m, rfl, m1, m2, k⟩ := h
    have nd := scLawMonth.nd
    refine ⟨_, pss_cons (ps_set (i := 2) nd rfl (Or.inl rfl) (pe_op op_sub (pe_op op_sub (pe_df DN hr (pa_cons (pe_op op_add (pv 0) pe_int) pa_nil)) (pe_df DN hr (pa_cons (pv 0) pa_nil))) pe_int))
      (pss_cons (ps_set (i := 3) nd rfl (Or.inl rfl) (pe_lst (pa_cons pe_int (pa_cons (pe_op op_add pe_int (pv 2)) (pa_cons pe_int (pa_cons pe_int (pa_cons pe_int (pa_cons pe_int (pa_cons pe_int (pa_cons pe_int (pa_cons pe_int (pa_cons pe_int (pa_cons pe_int (pa_cons pe_int pa_nil))))))))))))))
      (pss_one (ps_ret (pe_op op_add (pe_df DN hr (pa_cons (pv 0) pa_nil)) (pe_callB (cr_sum rfl) (by rfl) T.sum (by decide +kernel) (pa_cons (pe_slice sl_list (pv 3) po_none (po_some (pe_op op_sub (pv 1) pe_int))) pa_nil)))))), ?_⟩
    refine ⟨_, rfl, _, _, rfl, rfl, y + 1, rfl, _, rfl, y, rfl, _, _, rfl, rfl, _, _, rfl, rfl, _, rfl, _, _, rfl, rfl, (by show 12 ≤ sizeLine; decide), fun p hp => ?_⟩
    refine ⟨_, rfl, y, rfl, _, rfl, _, rfl, _, _, rfl, rfl, _, rfl, p, _, rfl, SqL.of upd_same, fun q hq => ?_⟩
    rw [cut12 m1 m2]
    have e := lawMonth13 (y := y) m1 m2
    refine ⟨q, ([31, 28 + (ysOf (y + 1) - ysOf y - 365), 31, 30, 31, 30, 31, 31, 30, 31, 30, 31] : List Int).take (m - 1).toNat, rfl, ?_, _, _, rfl, rfl, ?_⟩
    · refine SqL.of ?_
      rw [upd_same, List.map_take]
      rfl
    · show Q (.int (ysOf y + (([31, 28 + (ysOf (y + 1) - ysOf y - 365), 31, 30, 31, 30, 31, 31, 30, 31, 30, 31] : List Int).take (m - 1).toNat).sum)) _
      rw [e]
      exact k _ ((Same.new hp).step hq)
/-! ### _law_some_year -/
def spSome : Sp := fun vs H Q _ => ∃ (p a b : Addr) (n : Nat), vs = [.ref p] ∧ Stt p a b n H ∧ n ≤ 900000 ∧
  ∀ (y : Int) (H' : Hp), -(10 ^ 28) ≤ y → y ≤ 10 ^ 28 → Stt p a b (n + 20) H' → But p a H H' → Q (.int y) H'
theorem scLawSomeYear : FnScope ["state", "far", "turn", "ways"] ["state"] (defScope sLawSomeYear) := ⟨rfl, rfl, rfl, by decide +kernel, rfl, by decide +kernel, by decide +kernel⟩
theorem ok_some {f : Addr} {fd : FuncData} (F : Fun K "_law_some_year" "_law_some_year" sLawSomeYear f fd) (T : Nm mg) (DT : Df P w K mg base 2 "_law_take" ["state", "size"] [] spTake) : FnOk P w K mg base CX0 3 f fd ["state"] spSome := by
  refine F.ok scLawSomeYear (fun vs H Q E h => ?_) (fun cdv A outer s H vs Q E hr h => ?_)
  · obtain ⟨p, a, b, n, rfl, _⟩ := h
    rfl
  · obtain ⟨p, a, b, n, rfl, S, hn, k⟩ := h
    have nd := scLawSomeYear.nd
    have npa := S.pa
    have cp9 : CPow 10 9 := ⟨by decide, by decide, by decide⟩
    have cp6 : CPow 10 6 := ⟨by decide, by decide, by decide⟩
    refine ⟨_, pss_cons (ps_set (i := 1) nd rfl (Or.inl rfl) pe_int)
      (pss_cons (ps_for PassesOwn.never rfl (pi_range1 rfl T.range (pa_cons pe_int pa_nil)) (pg_name (i := 2) nd rfl (Or.inl rfl))
        (pss_one (ps_set (i := 1) nd rfl (Or.inl rfl) (pe_op op_add (pe_op op_mul (pv 1) (pe_op op_pow pe_int pe_int)) (pe_df DT hr (pa_cons (pv 0) (pa_cons (pe_op op_pow pe_int pe_int) pa_nil)))))))
      (pss_cons (ps_set (i := 3) nd rfl (Or.inl rfl) (pe_lst (pa_cons (pe_op op_add pe_int (pe_df DT hr (pa_cons (pv 0) (pa_cons pe_int pa_nil))))
        (pa_cons (pe_op op_sub (pe_op op_add (pe_op op_mul pe_int (pe_op op_sub (pe_df DT hr (pa_cons (pv 0) (pa_cons pe_int pa_nil))) pe_int)) (pe_df DT hr (pa_cons (pv 0) (pa_cons pe_int pa_nil)))) pe_int) pa_nil))))
      (pss_cons (ps_set (i := 3) nd rfl (Or.inl rfl) (pe_op op_cat (pv 3) (pe_lst (pa_cons (pe_op op_sub (pe_op op_add (pe_op op_mul pe_int (pe_op op_sub (pe_df DT hr (pa_cons (pv 0) (pa_cons (pe_op op_mul pe_int (pe_op op_pow pe_int pe_int)) pa_nil))) (pe_op op_pow pe_int pe_int)))
          (pe_df DT hr (pa_cons (pv 0) (pa_cons pe_int pa_nil)))) pe_int) (pa_cons (pv 1) (pa_cons (pe_op op_sub pe_int (pv 1)) pa_nil))))))
      (pss_one (ps_ret (pe_ix ix_list (pv 3) (pe_df DT hr (pa_cons (pv 0) (pa_cons pe_int pa_nil))) (fun _ _ => rfl))))))), ?_⟩
    refine ⟨3, rfl, by decide, by decide, for_range (n := 3) (fun i σ H' => Stt p a b (n + i) H' ∧ But p a H H' ∧ ∃ (fa : Int) (v : Option V), 0 ≤ fa ∧ fa < 10 ^ (9 * i) ∧ σ = [some (.ref p), some (.int fa), v, none]) ⟨S, But.refl, 0, none, by decide, by decide, rfl⟩ ?_ ?_⟩
    · rintro i σ H1 hi ⟨S1, B1, fa, v, f0, f1, rfl⟩
      refine ⟨_, rfl, _, _, rfl, rfl, cp9, _, _, rfl, rfl, .inr ⟨by decide, by decide⟩, _, rfl, _, _, rfl, rfl, cp9, p, a, b, n + i, _, rfl, S1, by omega, by decide, by decide, fun z H2 z0 z1 S2 B2 => ?_⟩
      refine ⟨_, _, rfl, rfl, S2, B1.trans B2, fa * 1000000000 + z, _, ?_, ?_, rfl⟩
      · have : z < 1000000000 := z1
        omega
      · have z1' : z < 1000000000 := z1
        have hi' : i = 0 ∨ i = 1 ∨ i = 2 := by omega
        rcases hi' with rfl | rfl | rfl
        · have e : (10 : Int) ^ (9 * 0) = 1 := by decide
          have e2 : (10 : Int) ^ (9 * (0 + 1)) = 1000000000 := by decide
          omega
        · have e : (10 : Int) ^ (9 * 1) = 1000000000 := by decide
          have e2 : (10 : Int) ^ (9 * (1 + 1)) = 1000000000000000000 := by decide
          omega
        · have e : (10 : Int) ^ (9 * 2) = 1000000000000000000 := by decide
          have e2 : (10 : Int) ^ (9 * (2 + 1)) = 1000000000000000000000000000 := by decide
          omega
    · rintro σ H1 ⟨S1, B1, fa, v, f0, f1, rfl⟩
      have f1' : fa < 1000000000000000000000000000 := f1
      have eB : (10 : Int) ^ 28 = 10000000000000000000000000000 := by decide
      -- ways = [..]
      refine ⟨_, rfl, p, a, b, n + 3, 60, rfl, S1, by omega, by decide, by decide, fun z1 H2 a1 b1 S2 B2 => ?_⟩
      refine ⟨_, _, rfl, rfl, _, rfl, p, a, b, _, 61, rfl, S2, by omega, by decide, by decide, fun z2 H3 a2 b2 S3 B3 => ?_⟩
      refine ⟨_, _, rfl, rfl, _, _, rfl, rfl, .inl ⟨by decide, by decide⟩, _, rfl, p, a, b, _, 3, rfl, S3, by omega, by decide, by decide, fun z3 H4 a3 b3 S4 B4 => ?_⟩
      refine ⟨_, _, rfl, rfl, _, _, rfl, rfl, (by show 2 ≤ sizeLine; decide), fun q hq => ?_⟩
      -- ways = ways + [..]
      have S5 := S4.same (Same.new (o := .lst [.int (1990 + z1), .int (100 * (z2 - 10) + z3 - 1)]) hq)
      refine ⟨_, rfl, _, rfl, _, _, rfl, rfl, cp6, _, _, rfl, rfl, .inl ⟨by decide, by decide⟩, p, a, b, _, _, rfl, S5, by omega, by decide, by decide, fun z4 H5 a4 b4 S6 B6 => ?_⟩
      refine ⟨_, _, rfl, rfl, cp6, _, _, rfl, rfl, _, _, rfl, rfl, .inl ⟨by decide, by decide⟩, _, rfl, p, a, b, _, 5, rfl, S6, by omega, by decide, by decide, fun z5 H6 a5 b5 S7 B7 => ?_⟩
      refine ⟨_, _, rfl, rfl, _, _, rfl, rfl, _, rfl, _, rfl, _, _, rfl, rfl, (by show 3 ≤ sizeLine; decide), fun q2 hq2 => ?_⟩
      have B5 : But p a H4 (upd H4 q (.lst [.int (1990 + z1), .int (100 * (z2 - 10) + z3 - 1)])) := But.of (Same.new hq)
      obtain ⟨u1, u2, u3, w1, w2, w3⟩ := S4.there
      have nqp : q ≠ p := (ne_of_none w1 hq).symm
      have nqa : q ≠ a := (ne_of_none w2 hq).symm
      have hq6 : H6 q = some (.lst [.int (1990 + z1), .int (100 * (z2 - 10) + z3 - 1)]) := B7 _ _ (B6 _ _ upd_same nqp nqa) nqp nqa
      have nq2 : q ≠ q2 := ne_of_none hq6 hq2
      refine ⟨q, q2, _, _, rfl, rfl, (upd_ne nq2).trans hq6, upd_same, (by show 5 ≤ sizeLine; decide), fun q3 hq3 => ?_⟩
      have S8 := (S7.same (Same.new hq2)).same (Same.new (o := .lst [.int (1990 + z1), .int (100 * (z2 - 10) + z3 - 1), .int (400 * (z4 - 10 ^ (6 : Int).toNat) + z5 - 2), .int fa, .int (0 - fa)]) hq3)
      refine ⟨_, rfl, _, rfl, p, a, b, _, 5, rfl, S8, by omega, by decide, by decide, fun z6 H7 a6 b6 S9 B9 => ?_⟩
      obtain ⟨x1, x2, x3, y1, y2, y3⟩ := (S7.same (Same.new hq2)).there
      have nqp3 : q3 ≠ p := (ne_of_none y1 hq3).symm
      have nqa3 : q3 ≠ a := (ne_of_none y2 hq3).symm
      have h7 := B9 q3 _ upd_same nqp3 nqa3
      have bb : But p a H H7 := ((B1.trans B2).trans (B3.trans B4)).trans ((B5.trans (B6.trans B7)).trans ((But.of (Same.new hq2)).trans ((But.of (Same.new hq3)).trans B9)))
      have fin : ∀ v : Int, -(10 ^ 28) ≤ v → v ≤ 10 ^ 28 → Q (.int v) H7 := fun v c1 c2 => k v H7 c1 c2 (S9.mono (by omega)) bb
      have z6' : z6 = 0 ∨ z6 = 1 ∨ z6 = 2 ∨ z6 = 3 ∨ z6 = 4 := by omega
      have e6 : (10 : Int) ^ (6 : Int).toNat = 1000000 := by decide
      rcases z6' with rfl | rfl | rfl | rfl | rfl
      · exact ⟨q3, _, 0, _, rfl, rfl, SqL.of h7, rfl, fin (1990 + z1) (by omega) (by omega)⟩
      · exact ⟨q3, _, 1, _, rfl, rfl, SqL.of h7, rfl, fin (100 * (z2 - 10) + z3 - 1) (by omega) (by omega)⟩
      · exact ⟨q3, _, 2, _, rfl, rfl, SqL.of h7, rfl, fin (400 * (z4 - 10 ^ (6 : Int).toNat) + z5 - 2) (by omega) (by omega)⟩
      · exact ⟨q3, _, 3, _, rfl, rfl, SqL.of h7, rfl, fin fa (by omega) (by omega)⟩
      · exact ⟨q3, _, 4, _, rfl, rfl, SqL.of h7, rfl, fin (0 - fa) (by omega) (by omega)⟩
/-! ### _law_pick -/
def spPick : Sp := fun vs H Q _ => ∃ (p a b l : Addr) (n : Nat) (xs : List V), vs = [.ref p, .ref l] ∧ Stt p a b n H ∧ n ≤ 1000000 ∧ H l = some (.lst xs) ∧ l ≠ p ∧ l ≠ a ∧ 0 < xs.length ∧ xs.length ≤ 1000 ∧
  ∀ (i : Nat) (v : V) (H' : Hp), xs[i]? = some v → Stt p a b (n + 1) H' → But p a H H' → Q v H'
theorem scLawPick : FnScope ["state", "some"] ["state", "some"] (defScope sLawPick) := ⟨rfl, rfl, rfl, by decide +kernel, rfl, by decide +kernel, by decide +kernel⟩
theorem ok_pick {f : Addr} {fd : FuncData} (F : Fun K "_law_pick" "_law_pick" sLawPick f fd) (T : Nm mg) (DT : Df P w K mg base 2 "_law_take" ["state", "size"] [] spTake) : FnOk P w K mg base CX0 3 f fd ["state", "some"] spPick := by
  refine F.ok scLawPick (fun vs H Q E h => ?_) (fun cdv A outer s H vs Q E hr h => ?_)
  · obtain ⟨p, a, b, l, n, xs, rfl, _⟩ := h
    rfl
  · obtain ⟨p, a, b, l, n, xs, rfl, S, hn, hl, n1, n2, l0, l1, k⟩ := h
    refine ⟨_, pss_one (ps_ret (pe_ix ix_list (pv 1) (pe_df DT hr (pa_cons (pv 0) (pa_cons (pe_callB call_len_seq (by rfl) T.len PySem.boot_len (pa_cons (pv 1) pa_nil)) pa_nil))) (fun _ _ => rfl))), ?_⟩
    refine ⟨_, rfl, _, rfl, _, rfl, l, xs, rfl, .inl (SqL.of hl), p, a, b, n, _, rfl, S, hn, by omega, by omega, fun z H' z0 z1 S' B' => ?_⟩
    have hlt : z.toNat < xs.length := by omega
    refine ⟨l, xs, z, xs[z.toNat], rfl, rfl, SqL.of (B' _ _ hl n1 n2), at_of (j := z.toNat) (by omega) (by simp [hlt]), ?_⟩
    exact k z.toNat _ H' (by simp [hlt]) S' B'
end
end Cf
namespace Cf
open PySem L2
set_option hygiene false
local macro_rules | `(tactic| walk_at "len") => `(tactic| repeat (first | (obtain ⟨e, _⟩ := h; subst e; rfl; done) | (obtain ⟨_, h⟩ := h)))
local macro_rules | `(tactic| walk_at "rd") => `(tactic| repeat (first | refine ⟨_, rfl, ?_⟩ | refine ⟨_, _, rfl, rfl, ?_⟩ | refine ⟨rfl, ?_⟩ | refine ⟨_, _, rfl, ?_⟩))
local macro_rules | `(tactic| walk_at "yes") => `(tactic| (dsimp only [tYes]; rw [if_pos rfl]))
set_option hygiene true
section
variable {P : Program} {w : World} {K : PySem.W.Frag} {mg : Str → Option Value} {base : Heap}
def spScan : Sp := fun vs H Q _ => ∃ (a : Addr) (p : Yd) (y : Int), vs = [.ref a, .int y] ∧ YAt H a p ∧ ∀ H', Same H H' → Q (.int (dayIn p y)) H'
/-! ### _law_scanned -/
theorem mdays_le (b : Int) (n : Nat) (w : Int) : (mdays b n w).length ≤ n := by
  unfold mdays
  exact Nat.le_trans (List.length_filter_le _ _) (by simp)
theorem sizeN (b s : Int) (h : 0 < s) : Builtin.Range.rangeSize b (b + s) 1 = (s.toNat : Nat) := by
  unfold Builtin.Range.rangeSize
  rw [if_pos (by decide), if_pos (by omega)]
  omega
theorem scLawScanned : FnScope ["named", "one_year", "begin", "size", "days", "day"] ["named", "one_year"] (defScope sLawScanned) := ⟨rfl, rfl, rfl, by decide +kernel, rfl, by decide +kernel, by decide +kernel⟩
theorem ok_scan {f : Addr} {fd : FuncData} (F : Fun K "_law_scanned" "_law_scanned" sLawScanned f fd) (T : Nm mg) (D_law_month : Df P w K mg base 2 "_law_month" ["one_year", "month"] [] spMonth) (D_law_size : Df P w K mg base 2 "_law_size" ["one_year", "month"] [] spSize) (D_law_new_year : Df P w K mg base 1 "_law_new_year" ["one_year"] [] spNy) : FnOk P w K mg base CX0 4 f fd ["named", "one_year"] spScan := by
  refine F.ok scLawScanned (fun vs H Q E h => ?_) (fun cdv A outer s H vs Q E hr h => ?_)
  · obtain ⟨_, _, _, rfl, _⟩ := h
    rfl
  · obtain ⟨a, p, y, rfl, Y, k⟩ := h
    have nd := scLawScanned.nd
    have hu := hr.units
    refine ⟨_, (pss_cons (ps_if (pt_cmpR (show OpR _ _ (rIn K false) from op_in_seq) (pe_ix ix_tup (pv 0) pe_int (fun _ _ => rfl)) (pe_tup (pa_cons pe_str (pa_cons pe_str pa_nil))) rfl)
        (pss_cons (ps_par (i := 2) (j := 3) (by rfl) nd rfl rfl (by decide) rfl rfl (pa_cons (pe_df D_law_month (hr.mono (by decide)) (pa_cons (pv 1) (pa_cons (pe_ix ix_tup (pv 0) pe_int (fun _ _ => rfl)) pa_nil))) (pa_cons (pe_df D_law_size (hr.mono (by decide)) (pa_cons (pv 1) (pa_cons (pe_ix ix_tup (pv 0) pe_int (fun _ _ => rfl)) pa_nil))) pa_nil)) (by rfl))
        (pss_cons (ps_setLc (i := 4) (own := [("day", 5)]) (g := (gName 5)) rfl nd rfl rfl (sw_true rfl rfl rfl (by decide +kernel)) (pi_range2W (by rfl) T.range (pa_cons (pv 2) (pa_cons (pe_op op_add (pv 2) (pv 3)) pa_nil))) (blkOk_by (N := ["named", "one_year", "begin", "size", "days", "day"]) (sc := defScope sLawScanned) (by decide +kernel)) (fun _ _ _ _ _ => pg_name (i := 5) nd rfl (Or.inl rfl)) (fun _ _ _ _ _ => (pts_one (pt_cmpR op_eq (pe_op op_mod (pe_callTy call_int1 (by rfl) T.int (by decide +kernel) (pa_cons (pe_op op_add (pv 5) pe_int) pa_nil)) pe_int) (pe_ix (show IxR _ (rIxT K) from ix_tup) (pv 0) (pe_un un_neg pe_int) (fun _ _ => rfl)) (nomark _)))) (fun _ _ _ _ _ => (pv 5)))
        (pss_one (ps_ret (pe_ifExp (pt_cmpR op_eq (pe_ix ix_tup (pv 0) pe_int (fun _ _ => rfl)) pe_str (nomark _)) (pe_ix ix_list (pv 4) (pe_op op_sub (pe_ix ix_tup (pv 0) pe_int (fun _ _ => rfl)) pe_int) (fun _ _ => rfl)) (pe_ix ix_list (pv 4) (pe_un un_neg pe_int) (fun _ _ => rfl)))))))
        pss_nil)
      (pss_cons (ps_if (pt_cmpR op_eq (pe_ix ix_tup (pv 0) pe_int (fun _ _ => rfl)) pe_str (nomark _))
        (pss_one (ps_ret (pe_op op_add (pe_df D_law_new_year (hr.mono (by decide)) (pa_cons (pv 1) pa_nil)) (pe_ix ix_tup (pv 0) pe_int (fun _ _ => rfl)))))
        pss_nil)
      (pss_cons (ps_set (i := 5) nd rfl (Or.inl rfl) (pe_op op_sub (pe_op op_add (pe_df D_law_month (hr.mono (by decide)) (pa_cons (pv 1) (pa_cons (pe_ix ix_tup (pv 0) pe_int (fun _ _ => rfl)) pa_nil))) (pe_ix ix_tup (pv 0) pe_int (fun _ _ => rfl))) pe_int))
      (pss_cons (ps_while PassesOwn.never (PW.pt (pw_and (pt_cmpR (show OpR _ _ (rIn K false) from op_in_seq) (pe_ix ix_tup (pv 0) pe_int (fun _ _ => rfl)) (pe_tup (pa_cons pe_str (pa_cons pe_str pa_nil))) rfl) (pw_and1 (pt_cmpR op_ne (pe_op op_mod (pe_callTy call_int1 (by rfl) T.int (by decide +kernel) (pa_cons (pe_op op_add (pv 5) pe_int) pa_nil)) pe_int) (pe_ix ix_tup (pv 0) pe_int (fun _ _ => rfl)) (nomark _)))))
        (pss_one (ps_set (i := 5) nd rfl (Or.inl rfl) (pe_op op_add (pv 5) (pe_ifExp (pt_cmpR op_eq (pe_ix ix_tup (pv 0) pe_int (fun _ _ => rfl)) pe_str (nomark _)) pe_int (pe_un un_neg pe_int))))))
      (pss_one (ps_ret (pv 5))))))), ?_⟩
    have sq : SqT K H a (.str p.word :: p.nums.map V.int) := by rw [← Yd.vals_eq]; exact Y.sq
    walk_at "rd"
    refine ⟨a, _, _, _, rfl, rfl, sq, atI_nat (j := 0) rfl, ?_⟩
    walk_at "rd"
    refine ⟨by show 2 ≤ sizeLine; decide, fun t ht => ?_⟩
    have S1 := Same.new (o := .tup [.str ("nth" : Str), .str ("last" : Str)]) ht
    refine ⟨t, _, rfl, .inr (SqT.of (by rw [upd_same])), rfl, rfl, ?_⟩
    have Y1 := Y.same S1
    have ht1 : (upd H t (.tup [.str ("nth" : Str), .str ("last" : Str)])) a = some (.tup p.vals) := Y1.tup
    generalize (upd H t (.tup [.str ("nth" : Str), .str ("last" : Str)])) = H1 at *
    obtain ⟨_, ok⟩ := Y
    cases p with
    | day n =>
      walk_at "rd"
      refine ⟨a, _, _, _, rfl, rfl, SqT.of ht1, atI_nat (j := 0) rfl, ?_⟩
      walk_at "rd"
      refine ⟨a, _, _, _, rfl, rfl, SqT.of ht1, atI_nat (j := 1) rfl, ?_⟩
      walk_at "rd"
      exact k H1 S1
    | date m n =>
      walk_at "rd"
      refine ⟨a, _, _, _, rfl, rfl, SqT.of ht1, atI_nat (j := 0) rfl, ?_⟩
      walk_at "rd"
      refine ⟨a, _, _, _, rfl, rfl, SqT.of ht1, atI_nat (j := 1) rfl, ?_⟩
      walk_at "rd"
      refine ⟨ok.1, by have := ok.2.1; omega, fun H2 S2 => ?_⟩
      have ht2 := S2 _ _ ht1
      walk_at "rd"
      refine ⟨a, _, _, _, rfl, rfl, SqT.of ht2, atI_nat (j := 2) rfl, ?_⟩
      walk_at "rd"
      refine ⟨fun _ σ H' => Same H2 H' ∧ σ = [some (.ref a), some (.int y), none, none, none, some (.int (ysOf y + mst m (leapB y) + n - 1))], ⟨0, Same.refl _, rfl⟩, fun mm σ H' wv => ?_⟩
      obtain ⟨S3, rfl⟩ := wv
      walk_at "rd"
      refine ⟨a, _, _, _, rfl, rfl, SqT.of (S3 _ _ ht2), atI_nat (j := 0) rfl, ?_⟩
      walk_at "rd"
      refine ⟨by show 2 ≤ sizeLine; decide, fun t2 hn2 => ?_⟩
      have S4 := Same.new (o := .tup [.str ("from" : Str), .str ("until" : Str)]) hn2
      refine ⟨t2, _, rfl, .inr (SqT.of (by rw [upd_same])), rfl, rfl, ?_⟩
      have ht4 := S4 _ _ (S3 _ _ ht2)
      have S5 := ((S1.trans S2).trans S3).trans S4
      walk_at "rd"
      have k5 := k _ S5
      rw [← date_day] at k5
      exact k5
    | frm m n u =>
      walk_at "rd"
      refine ⟨a, _, _, _, rfl, rfl, SqT.of ht1, atI_nat (j := 0) rfl, ?_⟩
      walk_at "rd"
      refine ⟨a, _, _, _, rfl, rfl, SqT.of ht1, atI_nat (j := 1) rfl, ?_⟩
      walk_at "rd"
      refine ⟨ok.1.1, by have := ok.1.2.1; omega, fun H2 S2 => ?_⟩
      have ht2 := S2 _ _ ht1
      walk_at "rd"
      refine ⟨a, _, _, _, rfl, rfl, SqT.of ht2, atI_nat (j := 2) rfl, ?_⟩
      walk_at "rd"
      refine ⟨fun mm σ H' => Same H2 H' ∧ ∃ d : Int, σ = [some (.ref a), some (.int y), none, none, none, some (.int d)] ∧ (ysOf y + mst m (leapB y) + n - 1) ≤ d ∧ d ≤ dayIn (.frm m n u) y ∧ mm = (dayIn (.frm m n u) y - d).toNat, ⟨_, Same.refl _, _, rfl, Int.le_refl _, from_first.1, rfl⟩, fun mm σ H' wv => ?_⟩
      obtain ⟨S3, d, rfl, d1, d2, rfl⟩ := wv
      walk_at "rd"
      refine ⟨a, _, _, _, rfl, rfl, SqT.of (S3 _ _ ht2), atI_nat (j := 0) rfl, ?_⟩
      walk_at "rd"
      refine ⟨by show 2 ≤ sizeLine; decide, fun t2 hn2 => ?_⟩
      have S4 := Same.new (o := .tup [.str ("from" : Str), .str ("until" : Str)]) hn2
      refine ⟨t2, _, rfl, .inr (SqT.of (by rw [upd_same])), rfl, rfl, ?_⟩
      have ht4 := S4 _ _ (S3 _ _ ht2)
      have S5 := ((S1.trans S2).trans S3).trans S4
      walk_at "rd"
      refine .inl ⟨_, rfl, ?_⟩
      walk_at "rd"
      refine ⟨by show (0 : Int) < 7; decide, ?_⟩
      walk_at "rd"
      refine ⟨a, _, _, _, rfl, rfl, SqT.of ht4, atI_nat (j := 3) rfl, ?_⟩
      walk_at "rd"
      have wd : WD u := ok.2.2
      by_cases cc : (d + 5) % 7 = u
      · refine iteFF (by rw [show ((fun i j : Int => V.int (i % j)) (d + 5) 7) = V.int u from congrArg V.int cc]; simp) ?_
        have e : d = dayIn (.frm m n u) y := from_step wd d1 d2 cc
        have k5 := k _ S5
        rw [← e] at k5
        exact ⟨_, rfl, k5⟩
      · have more := from_more wd d1 d2 cc
        refine iteTT (by simp [cc]) ⟨fun σ' H'' => Same H2 H'' ∧ σ' = [some (.ref a), some (.int y), none, none, none, some (.int (d + 1))], fun σ' H'' nx => ?_, ?_⟩
        · obtain ⟨S6, rfl⟩ := nx
          exact ⟨_, by have := @from_first u y m n; omega, S6, _, rfl, by omega, by omega, rfl⟩
        · walk_at "rd"
          refine ⟨a, _, _, _, rfl, rfl, SqT.of ht4, atI_nat (j := 0) rfl, ?_⟩
          walk_at "rd"
          exact ⟨S3.trans S4, rfl⟩
    | unt m n u =>
      walk_at "rd"
      refine ⟨a, _, _, _, rfl, rfl, SqT.of ht1, atI_nat (j := 0) rfl, ?_⟩
      walk_at "rd"
      refine ⟨a, _, _, _, rfl, rfl, SqT.of ht1, atI_nat (j := 1) rfl, ?_⟩
      walk_at "rd"
      refine ⟨ok.1.1, by have := ok.1.2.1; omega, fun H2 S2 => ?_⟩
      have ht2 := S2 _ _ ht1
      walk_at "rd"
      refine ⟨a, _, _, _, rfl, rfl, SqT.of ht2, atI_nat (j := 2) rfl, ?_⟩
      walk_at "rd"
      refine ⟨fun mm σ H' => Same H2 H' ∧ ∃ d : Int, σ = [some (.ref a), some (.int y), none, none, none, some (.int d)] ∧ dayIn (.unt m n u) y ≤ d ∧ d ≤ (ysOf y + mst m (leapB y) + n - 1) ∧ mm = (d - dayIn (.unt m n u) y).toNat, ⟨_, Same.refl _, _, rfl, until_first.1, Int.le_refl _, rfl⟩, fun mm σ H' wv => ?_⟩
      obtain ⟨S3, d, rfl, d1, d2, rfl⟩ := wv
      walk_at "rd"
      refine ⟨a, _, _, _, rfl, rfl, SqT.of (S3 _ _ ht2), atI_nat (j := 0) rfl, ?_⟩
      walk_at "rd"
      refine ⟨by show 2 ≤ sizeLine; decide, fun t2 hn2 => ?_⟩
      have S4 := Same.new (o := .tup [.str ("from" : Str), .str ("until" : Str)]) hn2
      refine ⟨t2, _, rfl, .inr (SqT.of (by rw [upd_same])), rfl, rfl, ?_⟩
      have ht4 := S4 _ _ (S3 _ _ ht2)
      have S5 := ((S1.trans S2).trans S3).trans S4
      walk_at "rd"
      refine .inl ⟨_, rfl, ?_⟩
      walk_at "rd"
      refine ⟨by show (0 : Int) < 7; decide, ?_⟩
      walk_at "rd"
      refine ⟨a, _, _, _, rfl, rfl, SqT.of ht4, atI_nat (j := 3) rfl, ?_⟩
      walk_at "rd"
      have wd : WD u := ok.2.2
      by_cases cc : (d + 5) % 7 = u
      · refine iteFF (by rw [show ((fun i j : Int => V.int (i % j)) (d + 5) 7) = V.int u from congrArg V.int cc]; simp) ?_
        have e : d = dayIn (.unt m n u) y := until_step wd d2 d1 cc
        have k5 := k _ S5
        rw [← e] at k5
        exact ⟨_, rfl, k5⟩
      · have more := until_more wd d2 d1 cc
        refine iteTT (by simp [cc]) ⟨fun σ' H'' => Same H2 H'' ∧ σ' = [some (.ref a), some (.int y), none, none, none, some (.int (d + -1))], fun σ' H'' nx => ?_, ?_⟩
        · obtain ⟨S6, rfl⟩ := nx
          exact ⟨_, by have := @until_first u y m n; omega, S6, _, rfl, by omega, by omega, rfl⟩
        · walk_at "rd"
          refine ⟨a, _, _, _, rfl, rfl, SqT.of ht4, atI_nat (j := 0) rfl, ?_⟩
          walk_at "rd"
          exact ⟨S3.trans S4, rfl⟩
    | nth m q u =>
      walk_at "rd"
      refine ⟨a, _, _, _, rfl, rfl, SqT.of ht1, atI_nat (j := 1) rfl, ?_⟩
      walk_at "rd"
      refine ⟨ok.1, by have := ok.2.1; omega, fun H2 S2 => ?_⟩
      have ht2 := S2 _ _ ht1
      walk_at "rd"
      refine ⟨a, _, _, _, rfl, rfl, SqT.of ht2, atI_nat (j := 1) rfl, ?_⟩
      walk_at "rd"
      refine ⟨ok.1, ok.2.1, fun H3 S3 => ?_⟩
      have ht3 := S3 _ _ ht2
      walk_at "rd"
      have wd : WD u := ok.2.2.2.2
      have mb := mlen_bd (m := m) ok.1 ok.2.1 (leapB y)
      refine ⟨_, _, (mlen m (leapB y)).toNat, rfl, sizeN _ _ (by omega), fun D hD => ⟨fun i mm H' => i + mm = (mlen m (leapB y)).toNat ∧ Same H3 H' ∧ H' D = some (.lst ((mdays (ysOf y + mst m (leapB y)) i u).map V.int)), ⟨_, Nat.zero_add _, Same.new hD, by rw [upd_same]; rfl⟩, fun i mm H' wv => ?_⟩⟩
      obtain ⟨e5, S5, d5⟩ := wv
      by_cases c : i = (mlen m (leapB y)).toNat
      · refine .inl ⟨Nat.le_of_eq c.symm, ?_⟩
        subst c
        walk_at "rd"
        refine ⟨a, _, _, _, rfl, rfl, SqT.of (S5 _ _ ht3), atI_nat (j := 0) rfl, ?_⟩
        walk_at "rd"
        refine ⟨a, _, _, _, rfl, rfl, SqT.of (S5 _ _ ht3), atI_nat (j := 2) rfl, ?_⟩
        walk_at "rd"
        refine ⟨D, _, _, .int (dayIn (.nth m q u) y), rfl, rfl, SqL.of d5, ?_, k H' (((S1.trans S2).trans S3).trans S5)⟩
        have q1 := ok.2.2.1
        have q4 := ok.2.2.2.1
        show atI _ (q - 1) = _
        rw [show q - 1 = (((q - 1).toNat : Nat) : Int) by omega]
        refine atI_nat ?_
        rw [List.getElem?_map, mdays_get wd (by omega) (by omega), ← nth_day ok]
        show some (V.int _) = some (V.int _)
        rw [show (((q - 1).toNat : Nat) : Int) = q - 1 by omega]
      · refine .inr ⟨by show i < _; omega, fun H' => i + 1 + (mm - 1) = (mlen m (leapB y)).toNat ∧ Same H3 H' ∧ H' D = some (.lst ((mdays (ysOf y + mst m (leapB y)) (i + 1) u).map V.int)), fun H' w => ⟨mm - 1, by omega, w⟩, fun x H'' yy => ?_⟩
        obtain ⟨rfl, rfl⟩ := yy
        rw [Int.mul_one]
        refine ⟨rfl, ?_⟩
        walk_at "rd"
        refine .inl ⟨_, rfl, ?_⟩
        walk_at "rd"
        refine ⟨by show (0 : Int) < 7; decide, ?_⟩
        walk_at "rd"
        refine ⟨a, _, _, _, rfl, rfl, SqT.of (S5 _ _ ht3), (by rfl), ?_⟩
        walk_at "rd"
        by_cases cc : (ysOf y + mst m (leapB y) + (i : Int) + 5) % 7 = u
        · refine iteTT (decide_eq_true (congrArg V.int cc)) ?_
          walk_at "rd"
          refine ⟨_, d5, by rw [List.length_map]; have := mdays_le (ysOf y + mst m (leapB y)) i u; exact szl (by omega), by omega, fun b o e => ?_, ?_⟩
          · have : b ≠ D := fun g => by rw [g, hD] at e; cases e
            rw [upd_ne this]
            exact S5 _ _ e
          · rw [upd_same, mdays_succ, if_pos cc, List.map_append]; rfl
        · refine iteFF (decide_eq_false fun z => cc (V.int.inj z)) ?_
          refine ⟨by omega, S5, ?_⟩
          rw [mdays_succ, if_neg cc, List.append_nil]
          exact d5
    | last m u =>
      walk_at "rd"
      refine ⟨a, _, _, _, rfl, rfl, SqT.of ht1, atI_nat (j := 1) rfl, ?_⟩
      walk_at "rd"
      refine ⟨ok.1, by have := ok.2.1; omega, fun H2 S2 => ?_⟩
      have ht2 := S2 _ _ ht1
      walk_at "rd"
      refine ⟨a, _, _, _, rfl, rfl, SqT.of ht2, atI_nat (j := 1) rfl, ?_⟩
      walk_at "rd"
      refine ⟨ok.1, ok.2.1, fun H3 S3 => ?_⟩
      have ht3 := S3 _ _ ht2
      walk_at "rd"
      have wd : WD u := ok.2.2
      have mb := mlen_bd (m := m) ok.1 ok.2.1 (leapB y)
      refine ⟨_, _, (mlen m (leapB y)).toNat, rfl, sizeN _ _ (by omega), fun D hD => ⟨fun i mm H' => i + mm = (mlen m (leapB y)).toNat ∧ Same H3 H' ∧ H' D = some (.lst ((mdays (ysOf y + mst m (leapB y)) i u).map V.int)), ⟨_, Nat.zero_add _, Same.new hD, by rw [upd_same]; rfl⟩, fun i mm H' wv => ?_⟩⟩
      obtain ⟨e5, S5, d5⟩ := wv
      by_cases c : i = (mlen m (leapB y)).toNat
      · refine .inl ⟨Nat.le_of_eq c.symm, ?_⟩
        subst c
        walk_at "rd"
        refine ⟨a, _, _, _, rfl, rfl, SqT.of (S5 _ _ ht3), atI_nat (j := 0) rfl, ?_⟩
        walk_at "rd"
        refine ⟨D, _, _, .int (dayIn (.last m u) y), rfl, rfl, SqL.of d5, ?_, k H' (((S1.trans S2).trans S3).trans S5)⟩
        have l4 := mdays_len (b := ysOf y + mst m (leapB y)) wd (n := (mlen m (leapB y)).toNat) (by omega)
        have ml := mdays_last (b := ysOf y + mst m (leapB y)) wd (n := (mlen m (leapB y)).toNat) (by omega)
        show atI _ (-1) = _
        rw [atI_neg (by decide) (by omega)]
        show some (V.int ((mdays _ _ u).getD (_ - 1) 0)) = _
        rw [List.getD, ml, ← last_day]
        show some (V.int (ysOf y + mst m (leapB y) + (((mlen m (leapB y)).toNat : Nat) : Int) - 1 - (ysOf y + mst m (leapB y) + (((mlen m (leapB y)).toNat : Nat) : Int) + 4 - u) % 7)) = _
        rw [show (((mlen m (leapB y)).toNat : Nat) : Int) = mlen m (leapB y) by omega]
      · refine .inr ⟨by show i < _; omega, fun H' => i + 1 + (mm - 1) = (mlen m (leapB y)).toNat ∧ Same H3 H' ∧ H' D = some (.lst ((mdays (ysOf y + mst m (leapB y)) (i + 1) u).map V.int)), fun H' w => ⟨mm - 1, by omega, w⟩, fun x H'' yy => ?_⟩
        obtain ⟨rfl, rfl⟩ := yy
        rw [Int.mul_one]
        refine ⟨rfl, ?_⟩
        walk_at "rd"
        refine .inl ⟨_, rfl, ?_⟩
        walk_at "rd"
        refine ⟨by show (0 : Int) < 7; decide, ?_⟩
        walk_at "rd"
        refine ⟨a, _, _, _, rfl, rfl, SqT.of (S5 _ _ ht3), (by rfl), ?_⟩
        walk_at "rd"
        by_cases cc : (ysOf y + mst m (leapB y) + (i : Int) + 5) % 7 = u
        · refine iteTT (decide_eq_true (congrArg V.int cc)) ?_
          walk_at "rd"
          refine ⟨_, d5, by rw [List.length_map]; have := mdays_le (ysOf y + mst m (leapB y)) i u; exact szl (by omega), by omega, fun b o e => ?_, ?_⟩
          · have : b ≠ D := fun g => by rw [g, hD] at e; cases e
            rw [upd_ne this]
            exact S5 _ _ e
          · rw [upd_same, mdays_succ, if_pos cc, List.map_append]; rfl
        · refine iteFF (decide_eq_false fun z => cc (V.int.inj z)) ?_
          refine ⟨by omega, S5, ?_⟩
          rw [mdays_succ, if_neg cc, List.append_nil]
          exact d5
end
end Cf
namespace Cf
open PySem L2
set_option hygiene false
local macro_rules | `(tactic| walk_at "len") => `(tactic| repeat (first | (obtain ⟨e, _⟩ := h; subst e; rfl; done) | (obtain ⟨_, h⟩ := h)))
local macro_rules | `(tactic| walk_at "rd") => `(tactic| repeat (first | refine ⟨_, rfl, ?_⟩ | refine ⟨_, _, rfl, rfl, ?_⟩ | refine ⟨rfl, ?_⟩ | refine ⟨_, _, rfl, ?_⟩))
local macro_rules | `(tactic| walk_at "yes") => `(tactic| (dsimp only [tYes]; rw [if_pos rfl]))
set_option hygiene true
section
variable {P : Program} {w : World} {K : PySem.W.Frag} {mg : Str → Option Value} {base : Heap}
/-! ### _law_any_yearly -/
def spAnyY : Sp := fun vs H Q _ => ∃ (p a b : Addr) (n : Nat), vs = [.ref p] ∧ Stt p a b n H ∧ n ≤ 900000 ∧
  ∀ (t : Addr) (y : Yd) (H' : Hp), YAt H' t y → Stt p a b (n + 20) H' → But p a H H' → Q (.ref t) H'
theorem scLawAnyYearly : FnScope ["state", "kind", "month", "dayname", "day"] ["state"] (defScope sLawAnyYearly) := ⟨rfl, rfl, rfl, by decide +kernel, rfl, by decide +kernel, by decide +kernel⟩
theorem ok_anyy {f : Addr} {fd : FuncData} (F : Fun K "_law_any_yearly" "_law_any_yearly" sLawAnyYearly f fd) (T : Nm mg) (D_law_take : Df P w K mg base 2 "_law_take" ["state", "size"] [] spTake) (D_law_pick : Df P w K mg base 3 "_law_pick" ["state", "some"] [] spPick) (D_law_size : Df P w K mg base 2 "_law_size" ["one_year", "month"] [] spSize) : FnOk P w K mg base CX0 4 f fd ["state"] spAnyY := by
  refine F.ok scLawAnyYearly (fun vs H Q E h => ?_) (fun cdv A outer s H vs Q E hr h => ?_)
  · obtain ⟨_, _, _, _, rfl, _⟩ := h
    rfl
  · obtain ⟨p, a, b, n, rfl, S, hn, k⟩ := h
    have nd := scLawAnyYearly.nd
    have hu := hr.units
    refine ⟨_, (pss_cons (ps_par3 (i := 1) (j := 2) (l := 3) (by rfl) nd rfl rfl rfl (by decide) (by decide) (by decide) rfl rfl rfl (pa_cons (pe_df D_law_take (hr.mono (by decide)) (pa_cons (pv 0) (pa_cons pe_int pa_nil))) (pa_cons (pe_op op_add pe_int (pe_df D_law_take (hr.mono (by decide)) (pa_cons (pv 0) (pa_cons pe_int pa_nil)))) (pa_cons (pe_df D_law_take (hr.mono (by decide)) (pa_cons (pv 0) (pa_cons pe_int pa_nil))) pa_nil))) (by rfl))
      (pss_cons (ps_set (i := 4) nd rfl (Or.inl rfl) (pe_op op_add pe_int (pe_df D_law_pick (hr.mono (by decide)) (pa_cons (pv 0) (pa_cons (pe_lst (pa_cons pe_int (pa_cons (pe_op op_sub (pe_df D_law_size (hr.mono (by decide)) (pa_cons pe_int (pa_cons (pv 2) pa_nil))) pe_int) (pa_cons (pe_df D_law_take (hr.mono (by decide)) (pa_cons (pv 0) (pa_cons (pe_df D_law_size (hr.mono (by decide)) (pa_cons pe_int (pa_cons (pv 2) pa_nil))) pa_nil))) pa_nil)))) pa_nil)))))
      (pss_cons (ps_if (pt_cmpR op_eq (pv 1) pe_int (nomark _))
        (pss_one (ps_ret (pe_tup (pa_cons pe_str (pa_cons (pv 2) (pa_cons (pe_op op_add pe_int (pe_df D_law_take (hr.mono (by decide)) (pa_cons (pv 0) (pa_cons pe_int pa_nil)))) (pa_cons (pv 3) pa_nil)))))))
        pss_nil)
      (pss_cons (ps_if (pt_cmpR op_eq (pv 1) pe_int (nomark _))
        (pss_one (ps_ret (pe_tup (pa_cons pe_str (pa_cons (pv 2) (pa_cons (pv 3) pa_nil))))))
        pss_nil)
      (pss_cons (ps_if (pt_cmpR op_eq (pv 1) pe_int (nomark _))
        (pss_one (ps_ret (pe_op op_catA (pe_op op_catA (pe_tup (pa_cons pe_str pa_nil)) (pe_callB (cr_minT rfl (lt8 hu)) (by rfl) T.min (by decide +kernel) (pa_cons (pe_tup (pa_cons (pv 2) (pa_cons (pv 4) pa_nil))) (pa_cons (pe_tup (pa_cons pe_int (pa_cons pe_int pa_nil))) pa_nil)))) (pe_tup (pa_cons (pv 3) pa_nil)))))
        pss_nil)
      (pss_cons (ps_if (pt_cmpR op_eq (pv 1) pe_int (nomark _))
        (pss_one (ps_ret (pe_op op_catA (pe_op op_catA (pe_tup (pa_cons pe_str pa_nil)) (pe_callB (cr_maxT rfl (lt8 hu)) (by rfl) T.max (by decide +kernel) (pa_cons (pe_tup (pa_cons (pv 2) (pa_cons (pv 4) pa_nil))) (pa_cons (pe_tup (pa_cons pe_int (pa_cons pe_int pa_nil))) pa_nil)))) (pe_tup (pa_cons (pv 3) pa_nil)))))
        pss_nil)
      (pss_one (ps_ret (pe_ifExp (pt_cmpR op_eq (pv 1) pe_int (nomark _)) (pe_tup (pa_cons pe_str (pa_cons (pv 2) (pa_cons (pv 4) pa_nil)))) (pe_tup (pa_cons pe_str (pa_cons (pe_df D_law_pick (hr.mono (by decide)) (pa_cons (pv 0) (pa_cons (pe_lst (pa_cons pe_int (pa_cons pe_int (pa_cons pe_int (pa_cons pe_int (pa_cons pe_int (pa_cons (pe_df D_law_take (hr.mono (by decide)) (pa_cons (pv 0) (pa_cons pe_int pa_nil))) pa_nil))))))) pa_nil))) pa_nil)))))))))))), ?_⟩
    walk_at "rd"
    refine ⟨p, a, b, n, _, rfl, S, by omega, by decide, by decide, fun kd H1 kd0 kd1 S1 B1 => ?_⟩
    walk_at "rd"
    refine ⟨p, a, b, n + 1, _, rfl, S1, by omega, by decide, by decide, fun mo H2 mo0 mo1 S2 B2 => ?_⟩
    walk_at "rd"
    refine ⟨p, a, b, n + 1 + 1, _, rfl, S2, by omega, by decide, by decide, fun dn H3 dn0 dn1 S3 B3 => ?_⟩
    have B123 := (B1.trans B2).trans B3
    walk_at "rd"
    refine ⟨_, _, _, rfl, ?_⟩
    walk_at "rd"
    refine ⟨by omega, by omega, fun H4 E4 => ?_⟩
    have S4 := S3.same E4
    walk_at "rd"
    refine ⟨by omega, by omega, fun H5 E5 => ?_⟩
    have S5 := S4.same E5
    have mb := mlen_bd (m := 1 + mo) (by omega) (by omega) (leapB 2001)
    walk_at "rd"
    refine ⟨p, a, b, n + 1 + 1 + 1, _, rfl, S5, by omega, by omega, by omega, fun zz H6 z0 z1 S6 B6 => ?_⟩
    have B16 := ((B123.trans (But.of E4)).trans (But.of E5)).trans B6
    walk_at "rd"
    refine ⟨by show 3 ≤ sizeLine; decide, fun l hl => ?_⟩
    have Sl := Same.new (o := .lst [.int 0, .int (mlen (1 + mo) (leapB 2001) - 1), .int zz]) hl
    obtain ⟨u1, u2, u3, p6, a6, b6⟩ := S6.there
    have lp : l ≠ p := fun e => by rw [e, p6] at hl; cases hl
    have la : l ≠ a := fun e => by rw [e, a6] at hl; cases hl
    have S6l := S6.same Sl
    walk_at "rd"
    refine ⟨p, a, b, l, _, _, rfl, S6l, by omega, upd_same, lp, la, by show 0 < 3; decide, by show 3 ≤ 1000; decide, fun i v H7 hv S7 B7 => ?_⟩
    have B17 := (B16.trans (But.of Sl)).trans B7
    have vd : ∃ d : Int, v = .int d ∧ 0 ≤ d ∧ d < mlen (1 + mo) false := by
      have e1 : leapB 2001 = false := by decide
      rw [e1] at hv z1
      rw [e1] at mb
      have i3 : i = 0 ∨ i = 1 ∨ i = 2 := by
        have := (List.getElem?_eq_some_iff.mp hv).1
        have : i < 3 := this
        omega
      rcases i3 with g | g | g <;> subst g <;> (have hv' := (Option.some.inj hv).symm; subst hv'; exact ⟨_, rfl, by omega, by omega⟩)
    obtain ⟨d, rfl, d0, d1⟩ := vd
    have MDok : MD (1 + mo) (1 + d) := ⟨by omega, by omega, by omega, by omega⟩
    have WDok : WD dn := ⟨dn0, by omega⟩
    have kds : kd = 0 ∨ kd = 1 ∨ kd = 2 ∨ kd = 3 ∨ kd = 4 ∨ kd = 5 := by omega
    rcases kds with g | g | g | g | g | g <;> subst g
    · walk_at "rd"
      refine ⟨p, a, b, _, _, rfl, S7, by omega, by decide, by decide, fun q H8 q0 q1 S8 B8 => ?_⟩
      walk_at "rd"
      refine ⟨by show 4 ≤ sizeLine; decide, fun t ht => ?_⟩
      exact k t (.nth (1 + mo) (1 + q) dn) _ ⟨by rw [upd_same]; rfl, by omega, by omega, by omega, by omega, WDok⟩ ((S8.same (Same.new ht)).mono (by omega)) ((B17.trans B8).trans (But.of (Same.new ht)))
    · walk_at "rd"
      refine ⟨by show 3 ≤ sizeLine; decide, fun t ht => ?_⟩
      exact k t (.last (1 + mo) dn) _ ⟨by rw [upd_same]; rfl, by omega, by omega, WDok⟩ ((S7.same (Same.new ht)).mono (by omega)) (B17.trans (But.of (Same.new ht)))
    · walk_at "rd"
      refine iteTT (by decide) ?_
      walk_at "rd"
      refine ⟨by show 1 ≤ sizeLine; decide, fun t1 ht1 => ?_⟩
      have G1 := Same.new (o := .tup [.str ("from" : Str)]) ht1
      have g1 : (upd H7 t1 (.tup [.str ("from" : Str)])) t1 = some (.tup [.str ("from" : Str)]) := by rw [upd_same]
      walk_at "rd"
      refine ⟨by show 2 ≤ sizeLine; decide, fun t2 ht2 => ?_⟩
      generalize (upd H7 t1 (.tup [.str ("from" : Str)])) = J1 at *
      have G2 := Same.new (o := .tup [.int (1 + mo), .int (1 + d)]) ht2
      have g2 : (upd J1 t2 (.tup [.int (1 + mo), .int (1 + d)])) t2 = some (.tup [.int (1 + mo), .int (1 + d)]) := by rw [upd_same]
      walk_at "rd"
      refine ⟨by show 2 ≤ sizeLine; decide, fun t3 ht3 => ?_⟩
      have ht3' : (upd J1 t2 (.tup [.int (1 + mo), .int (1 + d)])) t3 = none := ht3
      have G3 := Same.new (o := .tup [.int 12, .int 25]) ht3'
      have g3 : (upd (upd J1 t2 (.tup [.int (1 + mo), .int (1 + d)])) t3 (.tup [.int 12, .int 25])) t3 = some (.tup [.int 12, .int 25]) := by rw [upd_same]
      walk_at "rd"
      have g2' := G3 _ _ g2
      have g1' := G3 _ _ (G2 _ _ g1)
      refine ⟨t2, t3, [1 + mo, 1 + d], [12, 25], rfl, SqT.of g2', SqT.of g3, ?_⟩
      have ch : ∃ (c : Addr) (m' n' : Int), (if HT.lexLt [12, 25] [1 + mo, 1 + d] = true then t3 else t2) = c ∧ (upd (upd J1 t2 (.tup [.int (1 + mo), .int (1 + d)])) t3 (.tup [.int 12, .int 25])) c = some (.tup [.int m', .int n']) ∧ MD m' n' ∧ LeDec m' n' := by
        rw [ltL_two]
        by_cases cc : (12 < 1 + mo ∨ (12 = 1 + mo ∧ 25 < 1 + d))
        · exact ⟨t3, 12, 25, by simp [cc], g3, ⟨by decide, by decide, by decide, by decide⟩, by unfold LeDec; omega⟩
        · refine ⟨t2, 1 + mo, 1 + d, ?_, g2', MDok, by unfold LeDec; omega⟩
          rw [if_neg]
          simp; omega
      obtain ⟨c, m', n', ec, gc, mdc, ldc⟩ := ch
      rw [ec]
      have G13 : Same H7 (upd (upd J1 t2 (.tup [.int (1 + mo), .int (1 + d)])) t3 (.tup [.int 12, .int 25])) := (G1.trans G2).trans G3
      generalize (upd (upd J1 t2 (.tup [.int (1 + mo), .int (1 + d)])) t3 (.tup [.int 12, .int 25])) = J3 at *
      refine ⟨t1, c, _, _, rfl, rfl, SqT.of g1', SqT.of gc, by show 3 ≤ sizeLine; decide, fun z => (nomatch z), fun _ z => (nomatch z), fun _ _ t4 ht4 => ?_⟩
      have G4 := Same.new (o := .tup [.str ("from" : Str), .int m', .int n']) ht4
      have g4 : (upd J3 t4 (.tup [.str ("from" : Str), .int m', .int n'])) t4 = some (.tup [.str ("from" : Str), .int m', .int n']) := by rw [upd_same]
      walk_at "rd"
      refine ⟨by show 1 ≤ sizeLine; decide, fun t5 ht5 => ?_⟩
      have ht5' : (upd J3 t4 (.tup [.str ("from" : Str), .int m', .int n'])) t5 = none := ht5
      have G5 := Same.new (o := .tup [.int dn]) ht5'
      have g5 : (upd (upd J3 t4 (.tup [.str ("from" : Str), .int m', .int n'])) t5 (.tup [.int dn])) t5 = some (.tup [.int dn]) := by rw [upd_same]
      refine ⟨t4, t5, _, _, rfl, rfl, SqT.of (G5 _ _ g4), SqT.of g5, by show 4 ≤ sizeLine; decide, fun z => (nomatch z), fun _ z => (nomatch z), fun _ _ t6 ht6 => ?_⟩
      have G6 := ((G13.trans G4).trans G5).trans (Same.new (o := .tup [.str ("from" : Str), .int m', .int n', .int dn]) ht6)
      exact k t6 (.frm m' n' dn) _ ⟨by rw [upd_same]; rfl, mdc, ldc, WDok⟩ ((S7.same G6).mono (by omega)) (B17.trans (But.of G6))
    · walk_at "rd"
      refine iteTT (by decide) ?_
      walk_at "rd"
      refine ⟨by show 1 ≤ sizeLine; decide, fun t1 ht1 => ?_⟩
      have G1 := Same.new (o := .tup [.str ("until" : Str)]) ht1
      have g1 : (upd H7 t1 (.tup [.str ("until" : Str)])) t1 = some (.tup [.str ("until" : Str)]) := by rw [upd_same]
      walk_at "rd"
      refine ⟨by show 2 ≤ sizeLine; decide, fun t2 ht2 => ?_⟩
      generalize (upd H7 t1 (.tup [.str ("until" : Str)])) = J1 at *
      have G2 := Same.new (o := .tup [.int (1 + mo), .int (1 + d)]) ht2
      have g2 : (upd J1 t2 (.tup [.int (1 + mo), .int (1 + d)])) t2 = some (.tup [.int (1 + mo), .int (1 + d)]) := by rw [upd_same]
      walk_at "rd"
      refine ⟨by show 2 ≤ sizeLine; decide, fun t3 ht3 => ?_⟩
      have ht3' : (upd J1 t2 (.tup [.int (1 + mo), .int (1 + d)])) t3 = none := ht3
      have G3 := Same.new (o := .tup [.int 1, .int 7]) ht3'
      have g3 : (upd (upd J1 t2 (.tup [.int (1 + mo), .int (1 + d)])) t3 (.tup [.int 1, .int 7])) t3 = some (.tup [.int 1, .int 7]) := by rw [upd_same]
      walk_at "rd"
      have g2' := G3 _ _ g2
      have g1' := G3 _ _ (G2 _ _ g1)
      refine ⟨t2, t3, [1 + mo, 1 + d], [1, 7], rfl, SqT.of g2', SqT.of g3, ?_⟩
      have ch : ∃ (c : Addr) (m' n' : Int), (if gtL [1, 7] [1 + mo, 1 + d] = true then t3 else t2) = c ∧ (upd (upd J1 t2 (.tup [.int (1 + mo), .int (1 + d)])) t3 (.tup [.int 1, .int 7])) c = some (.tup [.int m', .int n']) ∧ MD m' n' ∧ GeJan m' n' := by
        rw [gtL_two]
        by_cases cc : (1 + mo < 1 ∨ (1 = 1 + mo ∧ 1 + d < 7))
        · exact ⟨t3, 1, 7, by simp [cc], g3, ⟨by decide, by decide, by decide, by decide⟩, by unfold GeJan; omega⟩
        · refine ⟨t2, 1 + mo, 1 + d, ?_, g2', MDok, by unfold GeJan; omega⟩
          rw [if_neg]
          simp; omega
      obtain ⟨c, m', n', ec, gc, mdc, ldc⟩ := ch
      rw [ec]
      have G13 : Same H7 (upd (upd J1 t2 (.tup [.int (1 + mo), .int (1 + d)])) t3 (.tup [.int 1, .int 7])) := (G1.trans G2).trans G3
      generalize (upd (upd J1 t2 (.tup [.int (1 + mo), .int (1 + d)])) t3 (.tup [.int 1, .int 7])) = J3 at *
      refine ⟨t1, c, _, _, rfl, rfl, SqT.of g1', SqT.of gc, by show 3 ≤ sizeLine; decide, fun z => (nomatch z), fun _ z => (nomatch z), fun _ _ t4 ht4 => ?_⟩
      have G4 := Same.new (o := .tup [.str ("until" : Str), .int m', .int n']) ht4
      have g4 : (upd J3 t4 (.tup [.str ("until" : Str), .int m', .int n'])) t4 = some (.tup [.str ("until" : Str), .int m', .int n']) := by rw [upd_same]
      walk_at "rd"
      refine ⟨by show 1 ≤ sizeLine; decide, fun t5 ht5 => ?_⟩
      have ht5' : (upd J3 t4 (.tup [.str ("until" : Str), .int m', .int n'])) t5 = none := ht5
      have G5 := Same.new (o := .tup [.int dn]) ht5'
      have g5 : (upd (upd J3 t4 (.tup [.str ("until" : Str), .int m', .int n'])) t5 (.tup [.int dn])) t5 = some (.tup [.int dn]) := by rw [upd_same]
      refine ⟨t4, t5, _, _, rfl, rfl, SqT.of (G5 _ _ g4), SqT.of g5, by show 4 ≤ sizeLine; decide, fun z => (nomatch z), fun _ z => (nomatch z), fun _ _ t6 ht6 => ?_⟩
      have G6 := ((G13.trans G4).trans G5).trans (Same.new (o := .tup [.str ("until" : Str), .int m', .int n', .int dn]) ht6)
      exact k t6 (.unt m' n' dn) _ ⟨by rw [upd_same]; rfl, mdc, ldc, WDok⟩ ((S7.same G6).mono (by omega)) (B17.trans (But.of G6))
    · walk_at "rd"
      refine ⟨by show 3 ≤ sizeLine; decide, fun t ht => ?_⟩
      exact k t (.date (1 + mo) (1 + d)) _ ⟨by rw [upd_same]; rfl, MDok⟩ ((S7.same (Same.new ht)).mono (by omega)) (B17.trans (But.of (Same.new ht)))
    · walk_at "rd"
      refine ⟨p, a, b, _, _, rfl, S7, by omega, by decide, by decide, fun z H8 y0 y1 S8 B8 => ?_⟩
      walk_at "rd"
      refine ⟨by show 6 ≤ sizeLine; decide, fun l2 hl2 => ?_⟩
      have Sl2 := Same.new (o := .lst [.int 0, .int 364, .int 58, .int 59, .int 60, .int z]) hl2
      obtain ⟨u4, u5, u6, p8, a8, b8⟩ := S8.there
      have lp2 : l2 ≠ p := fun e => by rw [e, p8] at hl2; cases hl2
      have la2 : l2 ≠ a := fun e => by rw [e, a8] at hl2; cases hl2
      walk_at "rd"
      refine ⟨p, a, b, l2, _, _, rfl, S8.same Sl2, by omega, upd_same, lp2, la2, by show 0 < 6; decide, by show 6 ≤ 1000; decide, fun i v H9 hv S9 B9 => ?_⟩
      have vd : ∃ e : Int, v = .int e ∧ 0 ≤ e ∧ e ≤ 364 := by
        have i6 : i = 0 ∨ i = 1 ∨ i = 2 ∨ i = 3 ∨ i = 4 ∨ i = 5 := by
          have := (List.getElem?_eq_some_iff.mp hv).1
          have : i < 6 := this
          omega
        rcases i6 with g | g | g | g | g | g <;> subst g <;> (have hv' := (Option.some.inj hv).symm; subst hv'; exact ⟨_, rfl, by omega, by omega⟩)
      obtain ⟨e, rfl, e0, e1⟩ := vd
      walk_at "rd"
      refine ⟨by show 2 ≤ sizeLine; decide, fun t ht => ?_⟩
      exact k t (.day e) _ ⟨by rw [upd_same]; rfl, e0, e1⟩ ((S9.same (Same.new ht)).mono (by omega)) ((((B17.trans B8).trans (But.of Sl2)).trans B9).trans (But.of (Same.new ht)))
end
end Cf
namespace Cf
open PySem L2
set_option hygiene false
local macro_rules | `(tactic| walk_at "len") => `(tactic| repeat (first | (obtain ⟨e, _⟩ := h; subst e; rfl; done) | (obtain ⟨_, h⟩ := h)))
local macro_rules | `(tactic| walk_at "rd") => `(tactic| repeat (first | refine ⟨_, rfl, ?_⟩ | refine ⟨_, _, rfl, rfl, ?_⟩ | refine ⟨rfl, ?_⟩ | refine ⟨_, _, rfl, ?_⟩))
local macro_rules | `(tactic| walk_at "yes") => `(tactic| (dsimp only [tYes]; rw [if_pos rfl]))
set_option hygiene true
section
variable {P : Program} {w : World} {K : PySem.W.Frag} {mg : Str → Option Value} {base : Heap}
/-! ### _law_sample -/
def ys1 (l : Bool) (i : Nat) : List Int := ((List.range i).map fun j : Nat => (2000 : Int) + (j : Int)).filter fun y => decide (leapB y = l)
theorem ys1_succ (l : Bool) (i : Nat) : ys1 l (i + 1) = ys1 l i ++ (if leapB (2000 + (i : Int)) = l then [2000 + (i : Int)] else []) := by
  unfold ys1
  rw [List.range_succ, List.map_append, List.filter_append]
  congr 1
  by_cases h : leapB (2000 + (i : Int)) = l <;> simp [h]
theorem ys1_le (l : Bool) (i : Nat) : (ys1 l i).length ≤ i := by
  unfold ys1
  exact Nat.le_trans (List.length_filter_le _ _) (by simp)
theorem ys1_mem {l : Bool} {i : Nat} {y : Int} : y ∈ ys1 l i ↔ (2000 ≤ y ∧ y < 2000 + i) ∧ leapB y = l := by
  unfold ys1
  rw [List.mem_filter, List.mem_map]
  constructor
  · rintro ⟨⟨j, hj, rfl⟩, h⟩
    have := List.mem_range.mp hj
    exact ⟨⟨by omega, by omega⟩, by simpa using h⟩
  · rintro ⟨⟨h1, h2⟩, h⟩
    exact ⟨⟨(y - 2000).toNat, List.mem_range.mpr (by omega), by omega⟩, by simpa using h⟩
def ys2 (f : Int) (ys : List Int) (i : Nat) : List Int := (ys.take i).filter fun y => decide (k1 y = f)
theorem ys2_succ {f : Int} {ys : List Int} {i : Nat} {y : Int} (h : ys[i]? = some y) : ys2 f ys (i + 1) = ys2 f ys i ++ (if k1 y = f then [y] else []) := by
  unfold ys2
  rw [List.take_succ, h, List.filter_append]
  congr 1
  by_cases h : k1 y = f <;> simp [h]
theorem ys2_le {f : Int} {ys : List Int} (i : Nat) : (ys2 f ys i).length ≤ ys.length := by
  unfold ys2
  exact Nat.le_trans (List.length_filter_le _ _) (by simp; omega)
theorem ys2_get {f : Int} {l : Bool} (h0 : 0 ≤ f) (h7 : f < 7) {n : Nat} (hn : (ys1 l 400).length ≤ n) : ∃ y, (ys2 f (ys1 l 400) n)[0]? = some y ∧ 2000 ≤ y ∧ y < 2400 ∧ k1 y = f ∧ leapB y = l := by
  obtain ⟨y, y1, y2, yf, yl⟩ := kind_comes 2000 f l h0 h7
  have e : ys2 f (ys1 l 400) n = (ys1 l 400).filter fun y => decide (k1 y = f) := by
    unfold ys2
    rw [List.take_of_length_le hn]
  have hm : y ∈ ys2 f (ys1 l 400) n := by
    rw [e]
    exact List.mem_filter.mpr ⟨ys1_mem.mpr ⟨⟨y1, by omega⟩, yl⟩, by simpa using yf⟩
  cases g : ys2 f (ys1 l 400) n with
  | nil => rw [g] at hm; cases hm
  | cons z zs =>
    have hz : z ∈ (ys1 l 400).filter fun y => decide (k1 y = f) := by rw [← e, g]; exact List.mem_cons_self
    obtain ⟨h1, h2⟩ := List.mem_filter.mp hz
    obtain ⟨⟨q1, q2⟩, q3⟩ := ys1_mem.mp h1
    exact ⟨z, rfl, q1, by omega, by simpa using h2, q3⟩
def spSample : Sp := fun vs H Q _ => ∃ (f : Int) (l : Bool), vs = [.int f, .bl l] ∧ 0 ≤ f ∧ f < 7 ∧ ∀ (H' : Hp) (y : Int), Same H H' → 2000 ≤ y → y < 2400 → k1 y = f → leapB y = l → Q (.int y) H'
theorem scLawSample : FnScope ["first", "is_long", "years", "one_year"] ["first", "is_long"] (defScope sLawSample) := ⟨rfl, rfl, rfl, by decide +kernel, rfl, by decide +kernel, by decide +kernel⟩
theorem ok_sample {f : Addr} {fd : FuncData} (F : Fun K "_law_sample" "_law_sample" sLawSample f fd) (T : Nm mg) (D_law_is_long : Df P w K mg base 1 "_law_is_long" ["one_year"] [] spLong) (D_law_new_year : Df P w K mg base 1 "_law_new_year" ["one_year"] [] spNy) : FnOk P w K mg base CX0 2 f fd ["first", "is_long"] spSample := by
  refine F.ok scLawSample (fun vs H Q E h => ?_) (fun cdv A outer s H vs Q E hr h => ?_)
  · obtain ⟨_, _, rfl, _⟩ := h
    rfl
  · obtain ⟨f0, l, rfl, f1, f2, k⟩ := h
    have nd := scLawSample.nd
    have hu := hr.units
    refine ⟨_, (pss_cons (ps_setLc (i := 2) (own := [("one_year", 3)]) (g := (gName 3)) rfl nd rfl rfl (sw_true rfl rfl rfl (by decide +kernel)) (pi_range2W (by rfl) T.range (pa_cons pe_int (pa_cons pe_int pa_nil))) (blkOk_by (N := ["first", "is_long", "years", "one_year"]) (sc := defScope sLawSample) (by decide +kernel)) (fun _ _ _ _ _ => pg_name (i := 3) nd rfl (Or.inl rfl)) (fun _ _ _ _ _ => (pts_one (pt_cmpR op_eq (pe_df D_law_is_long (hr.mono (by decide)) (pa_cons (pv 3) pa_nil)) (pv 1) (nomark _)))) (fun _ _ _ _ _ => (pv 3)))
      (pss_one (ps_ret (pe_ix ix_list (pe_lc (own := [("one_year", 3)]) (g := (gName 3)) rfl nd (pi_list (pv 2)) (blkOk_by (N := ["first", "is_long", "years", "one_year"]) (sc := defScope sLawSample) (by decide +kernel)) (fun _ _ _ _ _ => pg_name (i := 3) nd rfl (Or.inl rfl)) (fun _ _ _ _ _ => (pts_one (pt_cmpR op_eq (pe_op op_mod (pe_callTy call_int1 (by rfl) T.int (by decide +kernel) (pa_cons (pe_op op_add (pe_df D_law_new_year (hr.mono (by decide)) (pa_cons (pv 3) pa_nil)) pe_int) pa_nil)) pe_int) (pv 0) (nomark _)))) (fun _ _ _ _ _ => (pv 3))) pe_int (fun _ _ => rfl))))), ?_⟩
    walk_at "rd"
    refine ⟨_, _, 400, rfl, rfl, fun D hD => ⟨fun i m H' => i + m = 400 ∧ Same H H' ∧ H' D = some (.lst ((ys1 l i).map V.int)), ⟨400, rfl, Same.new hD, by rw [upd_same]; rfl⟩, fun i m H3 w3 => ?_⟩⟩
    obtain ⟨e3, S3, d3⟩ := w3
    by_cases c : i = 400
    · subst c
      refine .inl ⟨Nat.le_refl _, ?_⟩
      walk_at "rd"
      have LL := ys1_le l 400
      refine ⟨⟨_, SqL.of d3⟩, fun D2 hD2 => ?_⟩
      have DD : D ≠ D2 := fun e => by rw [← e, d3] at hD2; cases hD2
      refine ⟨fun i m H' => i + m = (ys1 l 400).length ∧ Same H3 H' ∧ H' D2 = some (.lst ((ys2 f0 (ys1 l 400) i).map V.int)), ⟨(ys1 l 400).length, by omega, Same.new hD2, by rw [upd_same]; rfl⟩, fun i m H4 w4 => ?_⟩
      obtain ⟨e4, S4, d4⟩ := w4
      have sq4 : SqL K H4 D ((ys1 l 400).map V.int) := SqL.of (S4 _ _ d3)
      by_cases c : i = (ys1 l 400).length
      · refine .inl ⟨⟨_, sq4, by rw [List.length_map]; omega⟩, ?_⟩
        walk_at "rd"
        obtain ⟨y, gy, y0, y1, yf, yl⟩ := ys2_get (l := l) f1 f2 (n := i) (by omega)
        refine ⟨D2, _, _, .int y, rfl, rfl, SqL.of d4, atI_nat (j := 0) (by rw [List.getElem?_map, gy]; rfl), ?_⟩
        exact k H4 y (S3.trans S4) y0 y1 yf yl
      · have hi : i < (ys1 l 400).length := by omega
        have hy : (ys1 l 400)[i]? = some ((ys1 l 400)[i]) := List.getElem?_eq_getElem hi
        refine .inr ⟨⟨_, _, sq4, by rw [List.getElem?_map, hy]; rfl⟩, fun H' => i + 1 + (m - 1) = (ys1 l 400).length ∧ Same H3 H' ∧ H' D2 = some (.lst ((ys2 f0 (ys1 l 400) (i + 1)).map V.int)), fun H' w => ⟨m - 1, by omega, w⟩, fun x H' yy => ?_⟩
        obtain ⟨rfl, yy⟩ := yy
        have hx := yy _ sq4
        rw [List.getElem?_map, hy] at hx
        cases hx
        refine ⟨rfl, ?_⟩
        walk_at "rd"
        refine .inl ⟨_, rfl, ?_⟩
        walk_at "rd"
        refine ⟨by show (0 : Int) < 7; decide, ?_⟩
        walk_at "rd"
        have l2 := ys2_le (f := f0) (ys := ys1 l 400) i
        by_cases cc : k1 ((ys1 l 400)[i]) = f0
        · refine iteTT (decide_eq_true (congrArg V.int cc)) ?_
          walk_at "rd"
          refine ⟨_, d4, by rw [List.length_map]; exact szl (by omega), by omega, fun b o e => ?_, ?_⟩
          · have : b ≠ D2 := fun g => by rw [g, hD2] at e; cases e
            rw [upd_ne this]
            exact S4 _ _ e
          · rw [upd_same, ys2_succ hy, if_pos cc, List.map_append]; rfl
        · refine iteFF (decide_eq_false fun z => cc (V.int.inj z)) ?_
          refine ⟨by omega, S4, ?_⟩
          rw [ys2_succ hy, if_neg cc, List.append_nil]
          exact d4
    · refine .inr ⟨by show i < 400; omega, fun H' => i + 1 + (m - 1) = 400 ∧ Same H H' ∧ H' D = some (.lst ((ys1 l (i + 1)).map V.int)), fun H' w => ⟨m - 1, by omega, w⟩, fun x H'' yy => ?_⟩
      obtain ⟨rfl, rfl⟩ := yy
      rw [Int.mul_one]
      refine ⟨rfl, ?_⟩
      walk_at "rd"
      have l1 := ys1_le l i
      by_cases cc : leapB (2000 + (i : Int)) = l
      · refine iteTT (decide_eq_true (congrArg V.bl cc)) ?_
        walk_at "rd"
        refine ⟨_, d3, by rw [List.length_map]; exact szl (by omega), by omega, fun b o e => ?_, ?_⟩
        · have : b ≠ D := fun g => by rw [g, hD] at e; cases e
          rw [upd_ne this]
          exact S3 _ _ e
        · rw [upd_same, ys1_succ, if_pos cc, List.map_append]; rfl
      · refine iteFF (decide_eq_false fun z => cc (V.bl.inj z)) ?_
        refine ⟨by omega, S3, ?_⟩
        rw [ys1_succ, if_neg cc, List.append_nil]
        exact d3
end
end Cf
namespace Cf
open PySem L2
set_option hygiene false
local macro_rules | `(tactic| walk_at "len") => `(tactic| repeat (first | (obtain ⟨e, _⟩ := h; subst e; rfl; done) | (obtain ⟨_, h⟩ := h)))
local macro_rules | `(tactic| walk_at "rd") => `(tactic| repeat (first | refine ⟨_, rfl, ?_⟩ | refine ⟨_, _, rfl, rfl, ?_⟩ | refine ⟨rfl, ?_⟩ | refine ⟨_, _, rfl, ?_⟩))
local macro_rules | `(tactic| walk_at "yes") => `(tactic| (dsimp only [tYes]; rw [if_pos rfl]))
set_option hygiene true
section
variable {P : Program} {w : World} {K : PySem.W.Frag} {mg : Str → Option Value} {base : Heap}
/-! ### _law_table_right -/
def id1 : List V → List V := fun l => [l.getD 0 .non]
def yf (y : Yd) : Int × Bool → Int := fun k => numIn y k.1 k.2
structure DueAt (H0 H : Hp) (L : Addr) (m : Nat) (y : Yd) : Prop where
  same : Same H0 H
  at_ : ∃ ts qs, H L = some (.lst (ts.map V.ref)) ∧ Paired (KTup H) qs (kinds.take m) ∧ Paired (PairTold H) ts (kEnts qs (kinds.take m) (yf y))
theorem ne_same {x : V} : (!decide (x = x)) = false := by rw [decide_eq_true rfl]; rfl
theorem paired_imp {α β : Type} {R S : α → β → Prop} (h : ∀ a b, R a b → S a b) : ∀ {xs : List α} {ys : List β}, Paired R xs ys → Paired S xs ys
  | _, _, .nil => .nil
  | _, _, .cons r rs => .cons (h _ _ r) (paired_imp h rs)
theorem DueAt.keep {H0 H H' : Hp} {L : Addr} {m : Nat} {y : Yd} (d : DueAt H0 H L m y) (s : Same H H') : DueAt H0 H' L m y := by
  obtain ⟨ts, qs, h1, h2, h3⟩ := d.at_
  exact ⟨d.same.trans s, ts, qs, s _ _ h1, paired_imp (fun a b r => s _ _ r) h2, paired_imp (fun a b r => s _ _ r) h3⟩
theorem kents_snoc {qs : List Addr} {kk : List (Int × Bool)} {f : Int × Bool → Int} {q : Addr} {k : Int × Bool} (h : qs.length = kk.length) : kEnts (qs ++ [q]) (kk ++ [k]) f = kEnts qs kk f ++ [(q, [k.1, if k.2 = true then 1 else 0], V.int (f k))] := by
  unfold kEnts
  rw [List.zipWith_append h]
  rfl
theorem kents_vals {qs : List Addr} (h : qs.length = 14) (y : Yd) : (kEnts qs kinds (yf y)).map (fun x => x.2.1) = kinds.map keyK := by
  match qs, h with
  | [_, _, _, _, _, _, _, _, _, _, _, _, _, _], _ => rfl
/-- one pair more -/
theorem DueAt.add {H0 H : Hp} {L : Addr} {m : Nat} {y : Yd} {ts qs : List Addr} {q t : Addr} {k : Int × Bool} (same : Same H0 H) (hn : H0 L = none) (h1 : H L = some (.lst (ts.map V.ref))) (h2 : Paired (KTup H) qs (kinds.take m)) (h3 : Paired (PairTold H) ts (kEnts qs (kinds.take m) (yf y)))
    (hk : kinds[m]? = some k) (hq : H q = some (.tup [.int k.1, .bl k.2])) (ht : H t = some (.tup [.ref q, .int (yf y k)])) : DueAt H0 (upd H L (.lst (ts.map V.ref ++ [.ref t]))) L (m + 1) y := by
  have ne : ∀ (b : Addr) (vs : List V), H b = some (.tup vs) → (upd H L (.lst (ts.map V.ref ++ [.ref t]))) b = some (.tup vs) := fun b vs e => by
    have : b ≠ L := fun g => by rw [g, h1] at e; cases e
    rw [upd_ne this]; exact e
  have et : kinds.take (m + 1) = kinds.take m ++ [k] := by rw [List.take_succ, hk]; rfl
  refine ⟨fun b o e => ?_, ts ++ [t], qs ++ [q], by rw [upd_same, List.map_append]; rfl, ?_, ?_⟩
  · have : b ≠ L := fun g => by rw [g, hn] at e; cases e
    rw [upd_ne this]
    exact same _ _ e
  · rw [et]
    exact paired_snoc (paired_imp (fun a b r => ne _ _ r) h2) (ne _ _ hq)
  · rw [et, kents_snoc (by rw [h2.length])]
    exact paired_snoc (paired_imp (fun a b r => ne _ _ r) h3) (ne _ _ ht)
def spTabR : Sp := fun vs H Q _ => ∃ (p : Addr) (y : Yd), vs = [.ref p] ∧ YAt H p y ∧ ∀ H', Same H H' → Q (.bl true) H'
theorem scLawTableRight : FnScope ["named", "due", "first", "is_long", "one_year", "told"] ["named"] (defScope sLawTableRight) := ⟨rfl, rfl, rfl, by decide +kernel, rfl, by decide +kernel, by decide +kernel⟩
set_option maxHeartbeats 1000000 in
theorem ok_tabr {f : Addr} {fd : FuncData} (F : Fun K "_law_table_right" "_law_table_right" sLawTableRight f fd) (T : Nm mg) (hdict : mg "dict" = none) (D_law_sample : Df P w K mg base 2 "_law_sample" ["first", "is_long"] [] spSample) (D_law_scanned : Df P w K mg base 4 "_law_scanned" ["named", "one_year"] [] spScan) (D_law_new_year : Df P w K mg base 1 "_law_new_year" ["one_year"] [] spNy) (D_table_of : Df P w K mg base 7 "table_of" ["yearly"] [] (spTableOf P w)) (K_table_of : Dk P w K mg base 7 "table_of" ["yearly"] ["yearly"] id1 (spTableOf P w)) : FnG P w K mg base CX0 8 f fd ["named"] spTabR := by
  refine funG F scLawTableRight (fun vs H Q E h => ?_) (fun cdv A gd outer s H vs Q E hr h => ?_)
  · obtain ⟨_, _, rfl, _⟩ := h
    rfl
  · obtain ⟨p, y, rfl, Y, k⟩ := h
    have nd := scLawTableRight.nd
    have hu := hr.units
    refine ⟨_, (pss_cons (ps_set (i := 1) nd rfl (Or.inl rfl) (pe_lst pa_nil))
      (pss_cons (ps_for PassesOwn.never rfl (pi_range1 (by rfl) T.range (pa_cons pe_int pa_nil)) (pg_name (i := 2) nd rfl (Or.inl rfl))
        (pss_one (ps_for PassesOwn.never rfl (pi_list (pe_lst (pa_cons pe_bl (pa_cons pe_bl pa_nil)))) (pg_name (i := 3) nd rfl (Or.inl rfl))
          (pss_cons (ps_set (i := 4) nd rfl (Or.inl rfl) (pe_df D_law_sample (hr.mono (by decide)) (pa_cons (pv 2) (pa_cons (pv 3) pa_nil))))
          (pss_one (ps_expr (pe_bm PySem.F.plainAttrs_list PySem.F.slot_list_append PySem.F.type_list_append mt_append (pv 1) (pa_cons (pe_tup (pa_cons (pe_tup (pa_cons (pv 2) (pa_cons (pv 3) pa_nil))) (pa_cons (pe_op op_sub (pe_df D_law_scanned (hr.mono (by decide)) (pa_cons (pv 0) (pa_cons (pv 4) pa_nil))) (pe_df D_law_new_year (hr.mono (by decide)) (pa_cons (pv 4) pa_nil))) pa_nil))) pa_nil))))))))
      (pss_cons (ps_set (i := 5) nd rfl (Or.inl rfl) (pe_df D_table_of (hr.mono (by decide)) (pa_cons (pv 0) pa_nil)))
      (pss_cons (ps_if (pt_cmpR op_ne (pe_callB (call_reprK gd hu) (by rfl) T.repr (by decide +kernel) (pa_cons (pv 5) pa_nil)) (pe_callB (call_reprK gd hu) (by rfl) T.repr (by decide +kernel) (pa_cons (pe_callTy (call_dictK rfl (lt12 hu)) (by rfl) hdict (by decide +kernel) (pa_cons (pv 1) pa_nil)) pa_nil)) (nomark _))
        (pss_one (ps_ret pe_bl))
        pss_nil)
      (pss_cons (ps_expr (pe_clearK (pv 5)))
      (pss_one (ps_ret (pe_cmpR op_eq (pe_callB (call_reprK gd hu) (by rfl) T.repr (by decide +kernel) (pa_cons (pe_dk K_table_of (hr.mono (by decide)) (pk_cons (pv 0) pk_nil)) pa_nil)) (pe_callB (call_reprK gd hu) (by rfl) T.repr (by decide +kernel) (pa_cons (pe_callTy (call_dictK rfl (lt12 hu)) (by rfl) hdict (by decide +kernel) (pa_cons (pv 1) pa_nil)) pa_nil)) (nomark _))))))))), ?_⟩
    walk_at "rd"
    refine ⟨by show 0 ≤ sizeLine; decide, fun L hL => ?_⟩
    have S0 := Same.new (o := .lst []) hL
    walk_at "rd"
    refine ⟨by decide, by decide, for_range (n := 7) (fun i σ H' => DueAt H H' L (2 * i) y ∧ ∃ v2 v3 v4 v5 : Option V, σ = [some (.ref p), some (.ref L), v2, v3, v4, v5]) ⟨⟨S0, [], [], upd_same, .nil, .nil⟩, none, none, none, none, rfl⟩ ?_ ?_⟩
    · rintro i σ H2 hi ⟨d2, v2, v3, v4, v5, rfl⟩
      walk_at "rd"
      refine ⟨by show 2 ≤ sizeLine; decide, fun B hB => ?_⟩
      have LB : B ≠ L := fun g => by
        obtain ⟨_, _, h1, _⟩ := d2.at_
        rw [g, h1] at hB; cases hB
      have S3 := Same.new (o := .lst [.bl false, .bl true]) hB
      have hB3 : (upd H2 B (.lst [.bl false, .bl true])) B = some (.lst [.bl false, .bl true]) := upd_same
      refine ⟨B, rfl, ⟨_, SqL.of hB3⟩, for_list (K := K) (a := B) (xs := [.bl false, .bl true]) (fun j σ H' => (DueAt H H' L (2 * i + j) y ∧ H' B = some (.lst [.bl false, .bl true])) ∧ ∃ v3 v4 v5 : Option V, σ = [some (.ref p), some (.ref L), some (.int (0 + (i : Int))), v3, v4, v5])
        ⟨⟨d2.keep S3, hB3⟩, v3, v4, v5, rfl⟩ (fun j σ H' hj inv => SqL.of inv.1.2) (fun j x σ H4 hx inv => ?_) fun σ H4 inv => ?_⟩
      · obtain ⟨⟨d4, hB4⟩, v3, v4, v5, rfl⟩ := inv
        have hj : j < 2 := (List.getElem?_eq_some_iff.mp hx).1
        have kk := kinds_at i hi j hj
        have ex : x = .bl (decide (j = 1)) := by
          have j2 : j = 0 ∨ j = 1 := by omega
          rcases j2 with g | g <;> subst g <;> exact (Option.some.inj hx).symm
        subst ex
        walk_at "rd"
        refine ⟨by omega, by omega, fun H5 yr S5 y0 y1 hf hl => ?_⟩
        have d5 := d4.keep S5
        have Y5 := Y.same d5.same
        have tyL : tyV K "list" (.ref L) H5 := by
          obtain ⟨ts, qs, h1, _⟩ := d5.at_
          exact .inl ⟨rfl, _, SqL.of h1⟩
        refine ⟨_, rfl, tyL, ?_⟩
        walk_at "rd"
        refine ⟨by show 2 ≤ sizeLine; decide, fun q hq => ?_⟩
        have S6 := Same.new (o := .tup [.int (0 + (i : Int)), .bl (decide (j = 1))]) hq
        have g6 : (upd H5 q (.tup [.int (0 + (i : Int)), .bl (decide (j = 1))])) q = some (.tup [.int (0 + (i : Int)), .bl (decide (j = 1))]) := upd_same
        have d6 := d5.keep S6
        have hB6 := S6 _ _ (S5 _ _ hB4)
        generalize (upd H5 q (.tup [.int (0 + (i : Int)), .bl (decide (j = 1))])) = H6 at *
        walk_at "rd"
        refine ⟨p, y, yr, rfl, Y5.same S6, fun H7 S7 => ?_⟩
        have d7 := d6.keep S7
        have g7 := S7 _ _ g6
        have hB7 := S7 _ _ hB6
        walk_at "rd"
        refine ⟨by show 2 ≤ sizeLine; decide, fun t ht => ?_⟩
        have S8 := Same.new (o := .tup [.ref q, .int (dayIn y yr - ysOf yr)]) ht
        have g8 : (upd H7 t (.tup [.ref q, .int (dayIn y yr - ysOf yr)])) t = some (.tup [.ref q, .int (dayIn y yr - ysOf yr)]) := upd_same
        have d8 := d7.keep S8
        have gq := S8 _ _ g7
        have hB8 := S8 _ _ hB7
        generalize (upd H7 t (.tup [.ref q, .int (dayIn y yr - ysOf yr)])) = H8 at *
        obtain ⟨ts, qs, h1, h2, h3⟩ := d8.at_
        have e8 : dayIn y yr - ysOf yr = yf y ((i : Int), decide (j = 1)) := by
          unfold dayIn yf
          rw [hf, hl, Int.zero_add]
          show ysOf yr + numIn y i (decide (j = 1)) - ysOf yr = numIn y i (decide (j = 1))
          omega
        rw [Int.zero_add] at gq
        rw [e8] at g8
        walk_at "rd"
        refine ⟨L, _, _, rfl, rfl, h1, ?_, ?_⟩
        · have := h3.length
          have e9 := h2.length
          rw [List.length_map, this]
          unfold kEnts
          rw [List.length_zipWith, e9]
          exact szl (by have := List.length_take_le (2 * i + j) kinds; have : kinds.length = 14 := rfl; omega)
        · walk_at "rd"
          exact ⟨⟨DueAt.add d8.same hL h1 h2 h3 kk gq g8, by rw [upd_ne LB]; exact hB8⟩, _, _, _, rfl⟩
      · obtain ⟨⟨d4, hB4⟩, v3, v4, v5, rfl⟩ := inv
        exact ⟨d4, _, _, _, _, rfl⟩
    · rintro σ H2 ⟨d2, v2, v3, v4, v5, rfl⟩
      walk_at "rd"
      refine ⟨p, y, rfl, Y.same d2.same, fun H3 D1 qs1 S3 n1 ks1 e1 => ?_⟩
      obtain ⟨ts, qs, h1, h2, h3⟩ := d2.at_
      have bd : ∀ k ∈ kinds, 0 ≤ k.1 ∧ k.1 < 4096 ∧ 0 ≤ yf y k ∧ yf y k < 4096 := fun k hk => by
        obtain ⟨a, b⟩ := kinds_mem (f := k.1) (l := k.2) hk
        obtain ⟨c, d⟩ := numIn_bd Y.ok k.1 k.2
        exact ⟨a, by omega, c, by show numIn y k.1 k.2 < 4096; omega⟩
      have l1 : qs.length = 14 := h2.length
      walk_at "rd"
      have le : kinds.length ≤ 100 := by decide
      obtain ⟨txt, etxt⟩ : ∃ txt, txt = (kData kinds (yf y)).shown := ⟨_, rfl⟩
      refine ⟨D1, qs1, kinds, yf y, rfl, ks1, e1, le, bd, ?_⟩
      rw [← etxt]
      walk_at "rd"
      have d3 := d2.keep S3
      have KA := kents_keys (f := yf y) h2
      have nk : ((kEnts qs kinds (yf y)).map fun x => x.2.1).Nodup := by rw [kents_vals l1]; exact keyK_nodup
      have lk : (kEnts qs kinds (yf y)).length ≤ sizeLine := by
        unfold kEnts
        rw [List.length_zipWith, l1]
        exact szl (by decide)
      have h1' := S3 _ _ h1
      have h2' : Paired (KTup H3) qs kinds := paired_imp (fun a b r => S3 _ _ r) h2
      have h3' : Paired (PairTold H3) ts (kEnts qs kinds (yf y)) := paired_imp (fun a b r => S3 _ _ r) h3
      have KA' : KeysAt H3 (kEnts qs kinds (yf y)) := KA.same S3
      refine ⟨L, ts, kEnts qs kinds (yf y), rfl, h1', h3', KA', nk, lk, fun D2 n2 => ?_⟩
      walk_at "rd"
      have S4 := Same.new (o := KDo P w D2 (kEnts qs kinds (yf y))) n2
      refine ⟨D2, qs, kinds, yf y, rfl, paired_imp (fun a b r => S4 _ _ r) h2', upd_same, le, bd, ?_⟩
      rw [← etxt]
      walk_at "rd"
      refine iteFF ne_same ?_
      have Sa : Same H (upd H3 D2 (KDo P w D2 (kEnts qs kinds (yf y)))) := (d2.same.trans S3).trans S4
      have e1' := S4 _ _ e1
      have ks1' : Paired (KindAt (upd H3 D2 (KDo P w D2 (kEnts qs kinds (yf y))))) qs1 kinds := kinds_same ks1 S4
      have n1' : H D1 = none := by
        cases e : H D1 with
        | none => rfl
        | some o => rw [d2.same _ _ e] at n1; cases n1
      have Sb : Same H2 (upd H3 D2 (KDo P w D2 (kEnts qs kinds (yf y)))) := S3.trans S4
      walk_at "rd"
      refine ⟨D1, kEnts qs1 kinds (yf y), rfl, e1', kents_keys ks1', ?_⟩
      have Sc : Same H (upd (upd H3 D2 (KDo P w D2 (kEnts qs kinds (yf y)))) D1 (KDo P w D1 [])) := Sa.wr n1'
      have Sd : Same H2 (upd (upd H3 D2 (KDo P w D2 (kEnts qs kinds (yf y)))) D1 (KDo P w D1 [])) := Sb.wr n1
      walk_at "rd"
      refine ⟨p, y, rfl, Y.same Sc, fun H6 D3 qs3 S6 n3 ks3 e3 => ?_⟩
      walk_at "rd"
      refine ⟨D3, qs3, kinds, yf y, rfl, ks3, e3, le, bd, ?_⟩
      rw [← etxt]
      have S26 := Sd.trans S6
      have h1'' := S26 _ _ h1
      have h2'' : Paired (KTup H6) qs kinds := paired_imp (fun a b r => S26 _ _ r) h2
      have h3'' : Paired (PairTold H6) ts (kEnts qs kinds (yf y)) := paired_imp (fun a b r => S26 _ _ r) h3
      walk_at "rd"
      refine ⟨L, ts, kEnts qs kinds (yf y), rfl, h1'', h3'', KA.same S26, nk, lk, fun D4 n4 => ?_⟩
      walk_at "rd"
      have S7 := Same.new (o := KDo P w D4 (kEnts qs kinds (yf y))) n4
      refine ⟨D4, qs, kinds, yf y, rfl, paired_imp (fun a b r => S7 _ _ r) h2'', upd_same, le, bd, ?_⟩
      rw [← etxt]
      have S8 := (Sc.trans S6).trans S7
      walk_at "rd"
      show Q (V.bl (decide (V.str txt = V.str txt))) _
      rw [decide_eq_true rfl]
      exact k _ S8
end
end Cf
namespace Cf
open PySem L2
set_option hygiene false
local macro_rules | `(tactic| walk_at "len") => `(tactic| repeat (first | (obtain ⟨e, _⟩ := h; subst e; rfl; done) | (obtain ⟨_, h⟩ := h)))
local macro_rules | `(tactic| walk_at "rd") => `(tactic| repeat (first | refine ⟨_, rfl, ?_⟩ | refine ⟨_, _, rfl, rfl, ?_⟩ | refine ⟨rfl, ?_⟩ | refine ⟨_, _, rfl, ?_⟩))
local macro_rules | `(tactic| walk_at "yes") => `(tactic| (dsimp only [tYes]; rw [if_pos rfl]))
set_option hygiene true
section
variable {P : Program} {w : World} {K : PySem.W.Frag} {mg : Str → Option Value} {base : Heap}
/-! ### the law -/
theorem YAt.but {p a b : Addr} {n : Nat} {H H' : Hp} {t : Addr} {y : Yd} (Y : YAt H t y) (S : Stt p a b n H) (B : But p a H H') : YAt H' t y := by
  obtain ⟨_, _, _, pj, aj, _⟩ := S.there
  exact ⟨B _ _ Y.tup (fun g => by have e := Y.tup; rw [g, pj] at e; cases e) (fun g => by have e := Y.tup; rw [g, aj] at e; cases e), Y.ok⟩
theorem log_year {i : Int} (h0 : -(10 ^ 32) ≤ i) (h1 : i ≤ 10 ^ 32) : i.natAbs.log2 < 1920 := by
  by_cases z : i.natAbs = 0
  · rw [z]; decide
  · have e : (10 : Int) ^ 32 = 100000000000000000000000000000000 := by decide
    refine (Nat.log2_lt z).mpr (Nat.lt_of_le_of_lt (show i.natAbs ≤ 100000000000000000000000000000000 by omega) (by decide +kernel))
def gV2 : List V → List V := fun vs => [vs.getD 1 .non, vs.getD 0 .non]
def spLaw (K : PySem.W.Frag) : Sp := fun vs H Q _ => ∃ (l : Addr) (ns : List Int), vs = [.ref l] ∧ SqL K H l (ns.map V.int) ∧ ns.length ≤ 63 ∧ ∀ H', Q (.bl true) H'
theorem scLaw : FnScope ["script", "state", "turn", "named", "table", "again", "one_year", "due", "place"] ["script"] (defScope sLaw) := ⟨rfl, rfl, rfl, by decide +kernel, rfl, by decide +kernel, by decide +kernel⟩
set_option maxHeartbeats 4000000 in
theorem ok_law {f : Addr} {fd : FuncData} (F : Fun K "law" "law" sLaw f fd) (T : Nm mg) (D_law_begun : Df P w K mg base 1 "_law_begun" ["script"] [] (spBegun K)) (D_law_any_yearly : Df P w K mg base 4 "_law_any_yearly" ["state"] [] spAnyY) (D_is_yearly : Df P w K mg base 3 "is_yearly" ["value"] [] spIsY)
    (D_law_table_right : Dg P w K mg base 8 "_law_table_right" ["named"] [] spTabR) (D_law_some_year : Df P w K mg base 3 "_law_some_year" ["state"] [] spSome) (D_law_scanned : Df P w K mg base 4 "_law_scanned" ["named", "one_year"] [] spScan) (D_law_new_year : Df P w K mg base 1 "_law_new_year" ["one_year"] [] spNy)
    (D_table_of : Df P w K mg base 7 "table_of" ["yearly"] [] (spTableOf P w)) (D_day_in : Df P w K mg base 7 "day_in" ["yearly", "year"] [] spDayIn) (K_day_in : Dk P w K mg base 7 "day_in" ["yearly", "year"] ["year", "yearly"] gV2 spDayIn) (D_kind_of : Df P w K mg base 4 "kind_of" ["year"] [] spKindOf) :
    FnG P w K mg base CX0 9 f fd ["script"] (spLaw K) := by
  refine funG F scLaw (fun vs H Q E h => ?_) (fun cdv A gd outer s H vs Q E hr h => ?_)
  · obtain ⟨_, _, rfl, _⟩ := h
    rfl
  · obtain ⟨l, ns, rfl, hS, hlen, k⟩ := h
    have nd := scLaw.nd
    have hu := hr.units
    refine ⟨_, (pss_cons (ps_set (i := 1) nd rfl (Or.inl rfl) (pe_df D_law_begun (hr.mono (by decide)) (pa_cons (pv 0) pa_nil)))
      (pss_cons (ps_for PassesOwn.never rfl (pi_range1 (by rfl) T.range (pa_cons (pe_op op_add pe_int (pe_callB (call_min2 rfl) (by rfl) T.min (by decide +kernel) (pa_cons (pe_callB call_len_seq (by rfl) T.len (by decide +kernel) (pa_cons (pv 0) pa_nil)) (pa_cons pe_int pa_nil)))) pa_nil)) (pg_name (i := 2) nd rfl (Or.inl rfl))
        (pss_cons (ps_set (i := 3) nd rfl (Or.inl rfl) (pe_df D_law_any_yearly (hr.mono (by decide)) (pa_cons (pv 1) pa_nil)))
        (pss_cons (ps_if (PW.pt (pw_or (pt_cmpR op_isnotB (pe_df D_is_yearly (hr.mono (by decide)) (pa_cons (pv 3) pa_nil)) pe_bl (nomark _)) (pw_or1 (pt_not (pt_val (pe_dg D_law_table_right gd (hr.mono (by decide)) (pa_cons (pv 3) pa_nil)))))))
          (pss_one (ps_ret pe_bl))
          pss_nil)
        (pss_cons (ps_set (i := 4) nd rfl (Or.inl rfl) (pe_df D_table_of (hr.mono (by decide)) (pa_cons (pv 3) pa_nil)))
        (pss_one (ps_for PassesOwn.never rfl (pi_range1 (by rfl) T.range (pa_cons pe_int pa_nil)) (pg_name (i := 5) nd rfl (Or.inl rfl))
          (pss_cons (ps_set (i := 6) nd rfl (Or.inl rfl) (pe_df D_law_some_year (hr.mono (by decide)) (pa_cons (pv 1) pa_nil)))
          (pss_cons (ps_set (i := 7) nd rfl (Or.inl rfl) (pe_df D_law_scanned (hr.mono (by decide)) (pa_cons (pv 3) (pa_cons (pv 6) pa_nil))))
          (pss_cons (ps_if (PW.pt (pw_or (pt_cmpR op_ne (pe_callB call_repr_i (by rfl) T.repr (by decide +kernel) (pa_cons (pe_df D_day_in (hr.mono (by decide)) (pa_cons (pv 3) (pa_cons (pv 6) pa_nil))) pa_nil)) (pe_callB call_repr_i (by rfl) T.repr (by decide +kernel) (pa_cons (pv 7) pa_nil)) (nomark _)) (pw_or1 (pt_cmpR op_ne (pe_dk K_day_in (hr.mono (by decide)) (pk_cons (pv 6) (pk_cons (pv 3) pk_nil))) (pv 7) (nomark _)))))
            (pss_one (ps_ret pe_bl))
            pss_nil)
          (pss_cons (ps_set (i := 8) nd rfl (Or.inl rfl) (pe_op op_sub (pv 7) (pe_df D_law_new_year (hr.mono (by decide)) (pa_cons (pv 6) pa_nil))))
          (pss_one (ps_if (PW.pt (pw_or (pt_cmpR op_ne (pv 8) (pe_dgetK (lt10 hu) (pv 4) (pe_df D_kind_of (hr.mono (by decide)) (pa_cons (pv 6) pa_nil)) (fun _ _ => rfl)) (nomark _)) (pw_or1 (pt_not (pt_chain op_le op_lt pe_int (pv 8) pe_int)))))
            (pss_one (ps_ret pe_bl))
            pss_nil))))))))))))
      (pss_one (ps_ret pe_bl)))), ?_⟩
    walk_at "rd"
    refine ⟨l, ns, rfl, hS, hlen, fun H1 p a b p0 a0 b0 S1 St1 => ?_⟩
    walk_at "rd"
    refine ⟨l, _, rfl, .inl (S1.seq hS), _, _, rfl, _, _, rfl, rfl, _, rfl, ?_, ?_, ?_⟩
    · rw [List.length_map]
      split <;> omega
    · rw [List.length_map]
      split <;> omega
    refine for_range (fun i σ H' => Stt p a b (200 * i) H' ∧ ∃ v2 v3 v4 v5 v6 v7 v8 : Option V, σ = [some (.ref l), some (.ref p), v2, v3, v4, v5, v6, v7, v8]) ⟨St1, none, none, none, none, none, none, none, rfl⟩ ?_ ?_
    · rintro i σ H2 hi ⟨St2, v2, v3, v4, v5, v6, v7, v8, rfl⟩
      have hi2 : i ≤ 100 := by
        rw [List.length_map] at hi
        split at hi <;> omega
      walk_at "rd"
      refine ⟨p, a, b, _, rfl, St2, by omega, fun t1 y1 H3 Y1 St3 B3 => ?_⟩
      walk_at "rd"
      refine ⟨t1, y1, rfl, Y1, fun H4 S4 => ?_⟩
      walk_at "rd"
      refine ⟨t1, y1, rfl, Y1.same S4, fun H5 S5 => ⟨true, rfl, ?_⟩⟩
      walk_at "rd"
      have S35 := S4.trans S5
      refine ⟨t1, y1, rfl, Y1.same S35, fun H6 D qs S6 n1 ks e1 => ?_⟩
      have lq : qs.length = 14 := paired_len ks
      have Y6 := (Y1.same S35).same S6
      have St6 := (St3.same S35).same S6
      walk_at "rd"
      refine ⟨by decide, by decide, for_range (n := 4) (fun j σ H' => Stt p a b (200 * i + 25 + 25 * j) H' ∧ YAt H' t1 y1 ∧ H' D = some (KDo P w D (tabE qs y1)) ∧ Paired (KindAt H') qs kinds ∧ ∃ v5 v6 v7 v8 : Option V, σ = [some (.ref l), some (.ref p), some (.int (0 + (i : Int))), some (.ref t1), some (.ref D), v5, v6, v7, v8])
        ⟨St6.mono (by omega), Y6, e1, ks, _, _, _, _, rfl⟩ ?_ ?_⟩
      · rintro j σ H7 hj ⟨St7, Y7, e7, ks7, v5, v6, v7, v8, rfl⟩
        walk_at "rd"
        refine ⟨p, a, b, _, rfl, St7, by omega, fun yr H8 yr0 yr1 St8 B8 => ?_⟩
        obtain ⟨_, _, _, pj, aj, _⟩ := St7.there
        have Y8 := Y7.but St7 B8
        have e8 : H8 D = some (KDo P w D (tabE qs y1)) := B8 _ _ e7 (fun g => by rw [g, pj] at e7; cases e7) (fun g => by rw [g, aj] at e7; cases e7)
        have ks8 : Paired (KindAt H8) qs kinds := paired_imp (fun x z r => B8 _ _ r (fun g => by have r' := r; unfold KindAt at r'; rw [g, pj] at r'; cases r') (fun g => by have r' := r; unfold KindAt at r'; rw [g, aj] at r'; cases r')) ks7
        walk_at "rd"
        refine ⟨t1, y1, yr, rfl, Y8, fun H9 S9 => ?_⟩
        have lg : (dayIn y1 yr).natAbs.log2 < 1920 := by
          have nb := numIn_bd Y8.ok (k1 yr) (leapB yr)
          have e28 : (10 : Int) ^ 28 = 10000000000000000000000000000 := by decide
          have e32 : (10 : Int) ^ 32 = 100000000000000000000000000000000 := by decide
          rw [e28] at yr0 yr1
          refine log_year ?_ ?_ <;> (rw [e32]; unfold dayIn ysOf lyb; omega)
        have Y9 := Y8.same S9
        walk_at "rd"
        refine ⟨t1, y1, yr, rfl, Y9, fun H10 S10 => ?_⟩
        walk_at "rd"
        refine ⟨lg, ?_⟩
        walk_at "rd"
        refine ⟨lg, ?_⟩
        walk_at "rd"
        refine iteFF ne_same ?_
        have Y10 := Y9.same S10
        walk_at "rd"
        refine ⟨t1, y1, yr, rfl, Y10, fun H11 S11 => ?_⟩
        walk_at "rd"
        refine iteFF ne_same ?_
        walk_at "rd"
        refine fun H12 kq S12 nq hq => ?_
        have S812 := (S9.trans S10).trans (S11.trans S12)
        have ky := kindAt_key (q := kq) (k := (k1 yr, leapB yr)) hq
        have kb := k1_bd yr
        have ks12 := kinds_same ks8 S812
        have ep : dayIn y1 yr - ysOf yr = numIn y1 (k1 yr) (leapB yr) := by unfold dayIn; omega
        have ep' : (fun i j : Int => V.int (i - j)) (dayIn y1 yr) (ysOf yr) = V.int (numIn y1 (k1 yr) (leapB yr)) := congrArg V.int ep
        rw [ep']
        refine ⟨D, tabE qs y1, kq, keyK (k1 yr, leapB yr), _, rfl, rfl, S812 _ _ e8, tabE_keysAt ks12, ky, valK_tab lq kb.1 kb.2, ?_⟩
        walk_at "rd"
        refine iteFF ne_same ?_
        have nb := numIn_bd Y8.ok (k1 yr) (leapB yr)
        walk_at "rd"
        refine iteTT (decide_eq_true nb.1) ?_
        walk_at "rd"
        refine iteFF (by rw [decide_eq_true nb.2]; rfl) ?_
        walk_at "rd"
        exact ⟨(St8.same S812).mono (by omega), Y8.same S812, S812 _ _ e8, ks12, _, _, _, _, rfl⟩
      · rintro σ H7 ⟨St7, Y7, e7, ks7, v5, v6, v7, v8, rfl⟩
        walk_at "rd"
        exact ⟨St7.mono (by omega), _, _, _, _, _, _, _, rfl⟩
    · rintro σ H2 ⟨St2, v2, v3, v4, v5, v6, v7, v8, rfl⟩
      walk_at "rd"
      exact k _
end
end Cf
/-! The end of a law whose def is promised where no repr is under way. -/
namespace Cf
open PySem PySem.Spec PyProof.Rows L2
section
variable {P : Program} {w : World} {K : PySem.W.Frag} {mg mb : Str → Option Value} {k : Nat} {fa a : Addr} {fd : FuncData} {x : Str} {sp : Sp} {st : Shared} {vs : List Value} {ns : List Int}
/-- the script's own object -/
def scrO (vs : List Value) : Obj := { cls := .type "list", data := .seq vs.toArray }
/-- nothing is tracked but the script, where it is none of the module's own objects -/
noncomputable def scrH (K : PySem.W.Frag) (a : Addr) (vs : List Value) (ns : List Int) : Hp := fun b =>
  open Classical in if b = a ∧ K.lookup a = none then some (.frz (scrO vs) (.lst (ns.map V.int))) else none
theorem scrH_some {b : Addr} {u : HO} (h : scrH K a vs ns b = some u) : b = a ∧ K.lookup a = none ∧ u = .frz (scrO vs) (.lst (ns.map V.int)) := by
  unfold scrH at h
  split at h
  · rename_i c
    exact ⟨c.1, c.2, (Option.some.inj h).symm⟩
  · cases h
theorem scrH_at (h : K.lookup a = none) : scrH K a vs ns a = some (.frz (scrO vs) (.lst (ns.map V.int))) := by
  unfold scrH
  exact if_pos ⟨rfl, h⟩
theorem scrH_no (h : ∀ o, K.lookup a = some o → True) {b : Addr} (hb : b ≠ a ∨ K.lookup a ≠ none) : scrH K a vs ns b = none := by
  unfold scrH
  refine if_neg fun c => ?_
  rcases hb with z | z
  · exact z c.1
  · exact z c.2
theorem law_g (KX : K.In st.heap) (hns : st.heap.Ns mainGlobals mg) (hb : st.heap.Ns builtinsNs mb) (hbb : ∀ x : Str, x ≠ "__name__" → mb x = bootBuiltins x) (lim : st.heap.NoLimit) (hg : st.gens = #[])
    (ha : st.heap.get? a = some (scrO vs)) (hi : IntsAre vs ns) (hl : ns.length ≤ sizeLine) (room : Room k callerA)
    (F : ∀ base : Heap, K.In base → base.Ns mainGlobals mg → FnG P w K mg base CX0 k fa fd [x] sp) (hbind : ∀ (s : Shared) (u : Value), BindsTo s fd ⟨[u], []⟩ [(x, u)])
    (hsp : ∀ H : Hp, SqL K H a (ns.map V.int) → sp [.ref a] H (fun v _ => v = .bl true) fun _ _ _ => False) :
    codeAny (model P w) callerA (.call (.ref fa) ⟨[.ref a], []⟩) (fun r s' => r = .ok (.ret (.bool true)) ∧ OldK st.heap s'.heap ∧ s'.os = st.os ∧ AllBare s'.gens) st := by
  have vals := vals_ints hi
  have len := hi.length
  have inH : SqL K (scrH K a vs ns) a (ns.map V.int) := by
    cases q : K.lookup a with
    | none => exact Or.inl (Or.inr ⟨_, scrH_at q⟩)
    | some o =>
      have e := KX a o q
      rw [ha] at e
      cases e
      refine Or.inr ⟨_, vs.toArray, _, q, rfl, rfl, rfl, ?_, ?_⟩
      · rw [List.size_toArray]; omega
      · simpa using vals
  have held : HOk P w (scrH K a vs ns) st.heap := by
    intro b u e
    obtain ⟨rfl, _, rfl⟩ := scrH_some e
    refine ⟨ha, ?_, vs, _, vals, ha⟩
    rw [List.length_map]
    exact hl
  -- what is not the script stands in the base
  have put : ∀ {b : Addr} {o : Obj}, st.heap.get? b = some o → scrH K a vs ns b = none → (hidT st.heap (scrH K a vs ns)).get? b = some o := fun e n => hidT_get e n
  have names : ∀ {b : Addr} {m : Str → Option Value}, st.heap.Ns b m → (hidT st.heap (scrH K a vs ns)).Ns b m := by
    rintro b m ⟨o, es, ep, e, d, r⟩
    refine ⟨o, es, ep, put e ?_, d, r⟩
    cases q : scrH K a vs ns b with
    | none => rfl
    | some u =>
      obtain ⟨rfl, _, _⟩ := scrH_some q
      rw [ha] at e
      cases e
      cases (show Data.seq vs.toArray _ = Data.dict es ep from d)
  have inB : K.In (hidT st.heap (scrH K a vs ns)) := by
    intro b o e
    refine put (KX b o e) ?_
    cases q : scrH K a vs ns b with
    | none => rfl
    | some u =>
      obtain ⟨rfl, z, _⟩ := scrH_some q
      rw [z] at e
      cases e
  have md : Mod K mg (hidT st.heap (scrH K a vs ns)) := by
    obtain ⟨mc, l1, l2⟩ := lim
    exact { kin := inB, glob := names hns, blt := ⟨mb, names hb, hbb⟩, nolimit := ⟨mc, names l1, l2⟩ }
  have env : Env0 P w K mg (hidT st.heap (scrH K a vs ns)) callerA [] st (scrH K a vs ns) :=
    { frames := rfl, mod := md, bs := fun _ _ e => of_hidT e, bsz := Nat.le_of_eq (hidT_size _ _), funs := trivial, frf := fun b hb => (by cases hb), hok := held, bare := .of_eq hg }
  refine codeAny_mono ((F _ inB (names hns)).go callerA rfl [] st (scrH K a vs ns) ⟨[.ref a], []⟩ [.ref a] [.ref a] _ _ room env (hbind st (.ref a)) (.cons rfl .nil) (hsp _ inH)) ?_
  intro r s' h
  match r, h with
  | .error e, h => exact (h : False).elim
  | .ok .next, h => exact (h : False).elim
  | .ok .brk, h => exact (h : False).elim
  | .ok .cont, h => exact (h : False).elim
  | .ok (.ret u), ⟨v, H', os, bare, un, hok', rv, q⟩ =>
    subst q
    cases (show u = Value.bool true from rv)
    refine ⟨rfl, OldK.of_keep fun b o e => ?_, os, bare⟩
    cases q : scrH K a vs ns b with
    | none => exact un.keep b o e q (by intro z; cases z) (by intro z; cases z)
    | some u =>
      obtain ⟨rfl, _, rfl⟩ := scrH_some q
      have z := un.frzs b _ _ q
      obtain ⟨e2, _⟩ := hok' b _ z
      rw [ha] at e
      cases e
      exact e2
end
theorem walk_g {l : PySem.W.OpenLaw} {n k : Nat} {q : Program} {loose : List Str} {XP : (Str → Option Value) → Heap → Prop} {YP : World → Heap → Prop} {d : DefRec} {K : Params → PySem.W.Frag} {sp : PySem.W.Frag → Sp} {x : Str}
    (most : l.most = some n) (n2 : n ≤ sizeLine) (dflt : d.params.defaults = []) (room : Room k callerA) (hY : ∀ (w : World) (h : Heap), YP w h → (K w.params).In h)
    (F : ∀ (w : World) (mg : Str → Option Value) (fa : Addr) (h : Heap), (K w.params).In h → h.Ns mainGlobals mg → mg d.name = some (.ref fa) →
      ∃ fd : FuncData, (∀ (s : Shared) (u : Value), BindsTo s fd ⟨[u], []⟩ [(x, u)]) ∧ ∀ base : Heap, (K w.params).In base → base.Ns mainGlobals mg → FnG l.prog w (K w.params) mg base CX0 k fa fd [x] (sp (K w.params)))
    (hsp : ∀ (K : PySem.W.Frag) (H : Hp) (a : Addr) (ns : List Int), ns.length ≤ n → SqL K H a (ns.map V.int) → sp K [.ref a] H (fun v _ => v = .bl true) fun _ _ _ => False) :
    PySem.W.WalkO q loose XP YP l.row.toRowW d [] (fun f vs => PySem.call f vs) := by
  apply Att.attach_call most dflt
  intro w s0 s1 mg mb fa o pm cd doc a vs ns G Y ho hd hcd hmg hobj hints hlen hg
  have inK := hY w _ Y
  obtain ⟨fd, hb, hF⟩ := F w mg fa _ inK G.T.g hmg
  exact law_g inK G.T.g G.T.b G.T.builtins G.T.nolimit hg hobj hints (Nat.le_trans hlen n2) room hF hb fun H hS => hsp _ H a ns hlen hS
end Cf
namespace Cf
open PySem L2
theorem getD_rel : ∀ {vs : List V} {us : List Value} (i : Nat), Vals vs us → RelV (vs.getD i .non) (us.getD i .none)
  | _, _, _, .nil => rfl
  | _, _, 0, .cons r _ => r
  | _, _, i + 1, .cons _ t => getD_rel i t

set_option maxHeartbeats 4000000 in
theorem all_mk {l : PySem.W.OpenLaw} {w : World} {K : PySem.W.Frag} {h : Heap} {mg : Str → Option Value} {fa : Addr} (X : K.In h) (G : h.Ns mainGlobals mg) (hfa : mg "law" = some (.ref fa))
    {f0 : Addr} {od0 an0 : Option Addr} {sl0 : Array (Option Value)} {oc0 kV0 dc0 pm0 cd0 ct0 : Value}
    {f1 : Addr} {od1 an1 : Option Addr} {sl1 : Array (Option Value)} {oc1 kV1 dc1 pm1 cd1 ct1 : Value}
    {T1 : Addr} {oT1 : Value} {dT1 : Option Addr} {nT1 : Nat} {sT1 : Array (Option Value)}
    {f2 : Addr} {od2 an2 : Option Addr} {sl2 : Array (Option Value)} {oc2 kV2 dc2 pm2 cd2 ct2 : Value}
    {f3 : Addr} {od3 an3 : Option Addr} {sl3 : Array (Option Value)} {oc3 kV3 dc3 pm3 cd3 ct3 : Value}
    {f4 : Addr} {od4 an4 : Option Addr} {sl4 : Array (Option Value)} {oc4 kV4 dc4 pm4 cd4 ct4 : Value}
    {f5 : Addr} {od5 an5 : Option Addr} {sl5 : Array (Option Value)} {oc5 kV5 dc5 pm5 cd5 ct5 : Value}
    {f6 : Addr} {od6 an6 : Option Addr} {sl6 : Array (Option Value)} {oc6 kV6 dc6 pm6 cd6 ct6 : Value}
    {f7 : Addr} {od7 an7 : Option Addr} {sl7 : Array (Option Value)} {oc7 kV7 dc7 pm7 cd7 ct7 : Value}
    {f8 : Addr} {od8 an8 : Option Addr} {sl8 : Array (Option Value)} {oc8 kV8 dc8 pm8 cd8 ct8 : Value}
    {f9 : Addr} {od9 an9 : Option Addr} {sl9 : Array (Option Value)} {oc9 kV9 dc9 pm9 cd9 ct9 : Value}
    {f10 : Addr} {od10 an10 : Option Addr} {sl10 : Array (Option Value)} {oc10 kV10 dc10 pm10 cd10 ct10 : Value}
    {f11 : Addr} {od11 an11 : Option Addr} {sl11 : Array (Option Value)} {oc11 kV11 dc11 pm11 cd11 ct11 : Value}
    {f12 : Addr} {od12 an12 : Option Addr} {sl12 : Array (Option Value)} {oc12 kV12 dc12 pm12 cd12 ct12 : Value}
    {f13 : Addr} {od13 an13 : Option Addr} {sl13 : Array (Option Value)} {oc13 kV13 dc13 pm13 cd13 ct13 : Value}
    {f14 : Addr} {od14 an14 : Option Addr} {sl14 : Array (Option Value)} {oc14 kV14 dc14 pm14 cd14 ct14 : Value}
    {f15 : Addr} {od15 an15 : Option Addr} {sl15 : Array (Option Value)} {oc15 kV15 dc15 pm15 cd15 ct15 : Value}
    {f16 : Addr} {od16 an16 : Option Addr} {sl16 : Array (Option Value)} {oc16 kV16 dc16 pm16 cd16 ct16 : Value}
    {f17 : Addr} {od17 an17 : Option Addr} {sl17 : Array (Option Value)} {oc17 kV17 dc17 pm17 cd17 ct17 : Value}
    {f18 : Addr} {od18 an18 : Option Addr} {sl18 : Array (Option Value)} {oc18 kV18 dc18 pm18 cd18 ct18 : Value}
    {f19 : Addr} {od19 an19 : Option Addr} {sl19 : Array (Option Value)} {oc19 kV19 dc19 pm19 cd19 ct19 : Value}
    {f20 : Addr} {od20 an20 : Option Addr} {sl20 : Array (Option Value)} {oc20 kV20 dc20 pm20 cd20 ct20 : Value}
    {f21 : Addr} {od21 an21 : Option Addr} {sl21 : Array (Option Value)} {oc21 kV21 dc21 pm21 cd21 ct21 : Value}
    {f22 : Addr} {od22 an22 : Option Addr} {sl22 : Array (Option Value)} {oc22 kV22 dc22 pm22 cd22 ct22 : Value}
    {f23 : Addr} {od23 an23 : Option Addr} {sl23 : Array (Option Value)} {oc23 kV23 dc23 pm23 cd23 ct23 : Value}
    {f24 : Addr} {od24 an24 : Option Addr} {sl24 : Array (Option Value)} {oc24 kV24 dc24 pm24 cd24 ct24 : Value}
    {f25 : Addr} {od25 an25 : Option Addr} {sl25 : Array (Option Value)} {oc25 kV25 dc25 pm25 cd25 ct25 : Value}
    {f26 : Addr} {od26 an26 : Option Addr} {sl26 : Array (Option Value)} {oc26 kV26 dc26 pm26 cd26 ct26 : Value}
    {f27 : Addr} {od27 an27 : Option Addr} {sl27 : Array (Option Value)} {oc27 kV27 dc27 pm27 cd27 ct27 : Value}
    {f28 : Addr} {od28 an28 : Option Addr} {sl28 : Array (Option Value)} {oc28 kV28 dc28 pm28 cd28 ct28 : Value}
    {f29 : Addr} {od29 an29 : Option Addr} {sl29 : Array (Option Value)} {oc29 kV29 dc29 pm29 cd29 ct29 : Value}
    {f30 : Addr} {od30 an30 : Option Addr} {sl30 : Array (Option Value)} {oc30 kV30 dc30 pm30 cd30 ct30 : Value}
    {f31 : Addr} {od31 an31 : Option Addr} {sl31 : Array (Option Value)} {oc31 kV31 dc31 pm31 cd31 ct31 : Value}
    {tp : Addr} {ddM : Option Addr} {nM : Nat} {slM : Array (Option Value)} {w0 w1 w2 w3 w4 w5 w6 w7 w8 w9 w10 w11 : Tok}
    {wd lf fu : Addr} {eW : Array DictEntry} {nW nL nF : Nat} {ddL ddF : Option Addr} {slL slF : Array (Option Value)} {q0 q1 q2 q3 t_nth t_last t_from t_until t_date t_day : Tok}
    (a0 : PySem.W.nsIn K mainGlobals "is_number" = some (some (.ref f0)))
    (l0 : K.lookup f0 = some ⟨oc0, od0, .func (PySem.W.fnOf "is_number" "is_number" (defArgs sIsNumber) (defBody sIsNumber) (defScope sIsNumber) .none kV0 dc0 pm0 an0 cd0 ct0), sl0⟩)
    (c0 : PySem.W.codeIn K cd0 "is_number" = true)
    (k0 : PySem.W.keepIn K (.ref f0) = true)
    (a1 : PySem.W.nsIn K mainGlobals "check_number" = some (some (.ref f1)))
    (l1 : K.lookup f1 = some ⟨oc1, od1, .func (PySem.W.fnOf "check_number" "check_number" (defArgs sCheckNumber) (defBody sCheckNumber) (defScope sCheckNumber) (.ref T1) kV1 dc1 pm1 an1 cd1 ct1), sl1⟩)
    (c1 : PySem.W.codeIn K cd1 "check_number" = true)
    (k1 : PySem.W.keepIn K (.ref f1) = true)
    (lT1 : K.lookup T1 = some ⟨oT1, dT1, .seq #[.none] nT1, sT1⟩)
    (a2 : PySem.W.nsIn K mainGlobals "is_leap" = some (some (.ref f2)))
    (l2 : K.lookup f2 = some ⟨oc2, od2, .func (PySem.W.fnOf "is_leap" "is_leap" (defArgs sIsLeap) (defBody sIsLeap) (defScope sIsLeap) .none kV2 dc2 pm2 an2 cd2 ct2), sl2⟩)
    (c2 : PySem.W.codeIn K cd2 "is_leap" = true)
    (k2 : PySem.W.keepIn K (.ref f2) = true)
    (a3 : PySem.W.nsIn K mainGlobals "leap_years_before" = some (some (.ref f3)))
    (l3 : K.lookup f3 = some ⟨oc3, od3, .func (PySem.W.fnOf "leap_years_before" "leap_years_before" (defArgs sLeapYearsBefore) (defBody sLeapYearsBefore) (defScope sLeapYearsBefore) .none kV3 dc3 pm3 an3 cd3 ct3), sl3⟩)
    (c3 : PySem.W.codeIn K cd3 "leap_years_before" = true)
    (k3 : PySem.W.keepIn K (.ref f3) = true)
    (a4 : PySem.W.nsIn K mainGlobals "year_start" = some (some (.ref f4)))
    (l4 : K.lookup f4 = some ⟨oc4, od4, .func (PySem.W.fnOf "year_start" "year_start" (defArgs sYearStart) (defBody sYearStart) (defScope sYearStart) .none kV4 dc4 pm4 an4 cd4 ct4), sl4⟩)
    (c4 : PySem.W.codeIn K cd4 "year_start" = true)
    (k4 : PySem.W.keepIn K (.ref f4) = true)
    (a5 : PySem.W.nsIn K mainGlobals "month_length" = some (some (.ref f5)))
    (l5 : K.lookup f5 = some ⟨oc5, od5, .func (PySem.W.fnOf "month_length" "month_length" (defArgs sMonthLength) (defBody sMonthLength) (defScope sMonthLength) .none kV5 dc5 pm5 an5 cd5 ct5), sl5⟩)
    (c5 : PySem.W.codeIn K cd5 "month_length" = true)
    (k5 : PySem.W.keepIn K (.ref f5) = true)
    (a6 : PySem.W.nsIn K mainGlobals "month_start" = some (some (.ref f6)))
    (l6 : K.lookup f6 = some ⟨oc6, od6, .func (PySem.W.fnOf "month_start" "month_start" (defArgs sMonthStart) (defBody sMonthStart) (defScope sMonthStart) .none kV6 dc6 pm6 an6 cd6 ct6), sl6⟩)
    (c6 : PySem.W.codeIn K cd6 "month_start" = true)
    (k6 : PySem.W.keepIn K (.ref f6) = true)
    (a7 : PySem.W.nsIn K mainGlobals "weekday" = some (some (.ref f7)))
    (l7 : K.lookup f7 = some ⟨oc7, od7, .func (PySem.W.fnOf "weekday" "weekday" (defArgs sWeekday) (defBody sWeekday) (defScope sWeekday) .none kV7 dc7 pm7 an7 cd7 ct7), sl7⟩)
    (c7 : PySem.W.codeIn K cd7 "weekday" = true)
    (k7 : PySem.W.keepIn K (.ref f7) = true)
    (a8 : PySem.W.nsIn K mainGlobals "on_or_after" = some (some (.ref f8)))
    (l8 : K.lookup f8 = some ⟨oc8, od8, .func (PySem.W.fnOf "on_or_after" "on_or_after" (defArgs sOnOrAfter) (defBody sOnOrAfter) (defScope sOnOrAfter) .none kV8 dc8 pm8 an8 cd8 ct8), sl8⟩)
    (c8 : PySem.W.codeIn K cd8 "on_or_after" = true)
    (k8 : PySem.W.keepIn K (.ref f8) = true)
    (a9 : PySem.W.nsIn K mainGlobals "on_or_before" = some (some (.ref f9)))
    (l9 : K.lookup f9 = some ⟨oc9, od9, .func (PySem.W.fnOf "on_or_before" "on_or_before" (defArgs sOnOrBefore) (defBody sOnOrBefore) (defScope sOnOrBefore) .none kV9 dc9 pm9 an9 cd9 ct9), sl9⟩)
    (c9 : PySem.W.codeIn K cd9 "on_or_before" = true)
    (k9 : PySem.W.keepIn K (.ref f9) = true)
    (a10 : PySem.W.nsIn K mainGlobals "number_in" = some (some (.ref f10)))
    (l10 : K.lookup f10 = some ⟨oc10, od10, .func (PySem.W.fnOf "number_in" "number_in" (defArgs sNumberIn) (defBody sNumberIn) (defScope sNumberIn) .none kV10 dc10 pm10 an10 cd10 ct10), sl10⟩)
    (c10 : PySem.W.codeIn K cd10 "number_in" = true)
    (k10 : PySem.W.keepIn K (.ref f10) = true)
    (a11 : PySem.W.nsIn K mainGlobals "kind_of" = some (some (.ref f11)))
    (l11 : K.lookup f11 = some ⟨oc11, od11, .func (PySem.W.fnOf "kind_of" "kind_of" (defArgs sKindOf) (defBody sKindOf) (defScope sKindOf) .none kV11 dc11 pm11 an11 cd11 ct11), sl11⟩)
    (c11 : PySem.W.codeIn K cd11 "kind_of" = true)
    (k11 : PySem.W.keepIn K (.ref f11) = true)
    (a12 : PySem.W.nsIn K mainGlobals "all_kinds" = some (some (.ref f12)))
    (l12 : K.lookup f12 = some ⟨oc12, od12, .func (PySem.W.fnOf "all_kinds" "all_kinds" (defArgs sAllKinds) (defBody sAllKinds) (defScope sAllKinds) .none kV12 dc12 pm12 an12 cd12 ct12), sl12⟩)
    (c12 : PySem.W.codeIn K cd12 "all_kinds" = true)
    (k12 : PySem.W.keepIn K (.ref f12) = true)
    (a13 : PySem.W.nsIn K mainGlobals "in_bounds" = some (some (.ref f13)))
    (l13 : K.lookup f13 = some ⟨oc13, od13, .func (PySem.W.fnOf "in_bounds" "in_bounds" (defArgs sInBounds) (defBody sInBounds) (defScope sInBounds) .none kV13 dc13 pm13 an13 cd13 ct13), sl13⟩)
    (c13 : PySem.W.codeIn K cd13 "in_bounds" = true)
    (k13 : PySem.W.keepIn K (.ref f13) = true)
    (a14 : PySem.W.nsIn K mainGlobals "is_yearly" = some (some (.ref f14)))
    (l14 : K.lookup f14 = some ⟨oc14, od14, .func (PySem.W.fnOf "is_yearly" "is_yearly" (defArgs sIsYearly) (defBody sIsYearly) (defScope sIsYearly) .none kV14 dc14 pm14 an14 cd14 ct14), sl14⟩)
    (c14 : PySem.W.codeIn K cd14 "is_yearly" = true)
    (k14 : PySem.W.keepIn K (.ref f14) = true)
    (a15 : PySem.W.nsIn K mainGlobals "check_yearly" = some (some (.ref f15)))
    (l15 : K.lookup f15 = some ⟨oc15, od15, .func (PySem.W.fnOf "check_yearly" "check_yearly" (defArgs sCheckYearly) (defBody sCheckYearly) (defScope sCheckYearly) .none kV15 dc15 pm15 an15 cd15 ct15), sl15⟩)
    (c15 : PySem.W.codeIn K cd15 "check_yearly" = true)
    (k15 : PySem.W.keepIn K (.ref f15) = true)
    (a16 : PySem.W.nsIn K mainGlobals "table_of" = some (some (.ref f16)))
    (l16 : K.lookup f16 = some ⟨oc16, od16, .func (PySem.W.fnOf "table_of" "table_of" (defArgs sTableOf) (defBody sTableOf) (defScope sTableOf) .none kV16 dc16 pm16 an16 cd16 ct16), sl16⟩)
    (c16 : PySem.W.codeIn K cd16 "table_of" = true)
    (k16 : PySem.W.keepIn K (.ref f16) = true)
    (a17 : PySem.W.nsIn K mainGlobals "day_in" = some (some (.ref f17)))
    (l17 : K.lookup f17 = some ⟨oc17, od17, .func (PySem.W.fnOf "day_in" "day_in" (defArgs sDayIn) (defBody sDayIn) (defScope sDayIn) .none kV17 dc17 pm17 an17 cd17 ct17), sl17⟩)
    (c17 : PySem.W.codeIn K cd17 "day_in" = true)
    (k17 : PySem.W.keepIn K (.ref f17) = true)
    (a18 : PySem.W.nsIn K mainGlobals "_law_begun" = some (some (.ref f18)))
    (l18 : K.lookup f18 = some ⟨oc18, od18, .func (PySem.W.fnOf "_law_begun" "_law_begun" (defArgs sLawBegun) (defBody sLawBegun) (defScope sLawBegun) .none kV18 dc18 pm18 an18 cd18 ct18), sl18⟩)
    (c18 : PySem.W.codeIn K cd18 "_law_begun" = true)
    (k18 : PySem.W.keepIn K (.ref f18) = true)
    (a19 : PySem.W.nsIn K mainGlobals "_law_mixed" = some (some (.ref f19)))
    (l19 : K.lookup f19 = some ⟨oc19, od19, .func (PySem.W.fnOf "_law_mixed" "_law_mixed" (defArgs sLawMixed) (defBody sLawMixed) (defScope sLawMixed) .none kV19 dc19 pm19 an19 cd19 ct19), sl19⟩)
    (c19 : PySem.W.codeIn K cd19 "_law_mixed" = true)
    (k19 : PySem.W.keepIn K (.ref f19) = true)
    (a20 : PySem.W.nsIn K mainGlobals "_law_take" = some (some (.ref f20)))
    (l20 : K.lookup f20 = some ⟨oc20, od20, .func (PySem.W.fnOf "_law_take" "_law_take" (defArgs sLawTake) (defBody sLawTake) (defScope sLawTake) .none kV20 dc20 pm20 an20 cd20 ct20), sl20⟩)
    (c20 : PySem.W.codeIn K cd20 "_law_take" = true)
    (k20 : PySem.W.keepIn K (.ref f20) = true)
    (a21 : PySem.W.nsIn K mainGlobals "_law_pick" = some (some (.ref f21)))
    (l21 : K.lookup f21 = some ⟨oc21, od21, .func (PySem.W.fnOf "_law_pick" "_law_pick" (defArgs sLawPick) (defBody sLawPick) (defScope sLawPick) .none kV21 dc21 pm21 an21 cd21 ct21), sl21⟩)
    (c21 : PySem.W.codeIn K cd21 "_law_pick" = true)
    (k21 : PySem.W.keepIn K (.ref f21) = true)
    (a22 : PySem.W.nsIn K mainGlobals "_law_new_year" = some (some (.ref f22)))
    (l22 : K.lookup f22 = some ⟨oc22, od22, .func (PySem.W.fnOf "_law_new_year" "_law_new_year" (defArgs sLawNewYear) (defBody sLawNewYear) (defScope sLawNewYear) .none kV22 dc22 pm22 an22 cd22 ct22), sl22⟩)
    (c22 : PySem.W.codeIn K cd22 "_law_new_year" = true)
    (k22 : PySem.W.keepIn K (.ref f22) = true)
    (a23 : PySem.W.nsIn K mainGlobals "_law_month" = some (some (.ref f23)))
    (l23 : K.lookup f23 = some ⟨oc23, od23, .func (PySem.W.fnOf "_law_month" "_law_month" (defArgs sLawMonth) (defBody sLawMonth) (defScope sLawMonth) .none kV23 dc23 pm23 an23 cd23 ct23), sl23⟩)
    (c23 : PySem.W.codeIn K cd23 "_law_month" = true)
    (k23 : PySem.W.keepIn K (.ref f23) = true)
    (a24 : PySem.W.nsIn K mainGlobals "_law_is_long" = some (some (.ref f24)))
    (l24 : K.lookup f24 = some ⟨oc24, od24, .func (PySem.W.fnOf "_law_is_long" "_law_is_long" (defArgs sLawIsLong) (defBody sLawIsLong) (defScope sLawIsLong) .none kV24 dc24 pm24 an24 cd24 ct24), sl24⟩)
    (c24 : PySem.W.codeIn K cd24 "_law_is_long" = true)
    (k24 : PySem.W.keepIn K (.ref f24) = true)
    (a25 : PySem.W.nsIn K mainGlobals "_law_size" = some (some (.ref f25)))
    (l25 : K.lookup f25 = some ⟨oc25, od25, .func (PySem.W.fnOf "_law_size" "_law_size" (defArgs sLawSize) (defBody sLawSize) (defScope sLawSize) .none kV25 dc25 pm25 an25 cd25 ct25), sl25⟩)
    (c25 : PySem.W.codeIn K cd25 "_law_size" = true)
    (k25 : PySem.W.keepIn K (.ref f25) = true)
    (a26 : PySem.W.nsIn K mainGlobals "_law_some_year" = some (some (.ref f26)))
    (l26 : K.lookup f26 = some ⟨oc26, od26, .func (PySem.W.fnOf "_law_some_year" "_law_some_year" (defArgs sLawSomeYear) (defBody sLawSomeYear) (defScope sLawSomeYear) .none kV26 dc26 pm26 an26 cd26 ct26), sl26⟩)
    (c26 : PySem.W.codeIn K cd26 "_law_some_year" = true)
    (k26 : PySem.W.keepIn K (.ref f26) = true)
    (a27 : PySem.W.nsIn K mainGlobals "_law_scanned" = some (some (.ref f27)))
    (l27 : K.lookup f27 = some ⟨oc27, od27, .func (PySem.W.fnOf "_law_scanned" "_law_scanned" (defArgs sLawScanned) (defBody sLawScanned) (defScope sLawScanned) .none kV27 dc27 pm27 an27 cd27 ct27), sl27⟩)
    (c27 : PySem.W.codeIn K cd27 "_law_scanned" = true)
    (k27 : PySem.W.keepIn K (.ref f27) = true)
    (a28 : PySem.W.nsIn K mainGlobals "_law_any_yearly" = some (some (.ref f28)))
    (l28 : K.lookup f28 = some ⟨oc28, od28, .func (PySem.W.fnOf "_law_any_yearly" "_law_any_yearly" (defArgs sLawAnyYearly) (defBody sLawAnyYearly) (defScope sLawAnyYearly) .none kV28 dc28 pm28 an28 cd28 ct28), sl28⟩)
    (c28 : PySem.W.codeIn K cd28 "_law_any_yearly" = true)
    (k28 : PySem.W.keepIn K (.ref f28) = true)
    (a29 : PySem.W.nsIn K mainGlobals "_law_sample" = some (some (.ref f29)))
    (l29 : K.lookup f29 = some ⟨oc29, od29, .func (PySem.W.fnOf "_law_sample" "_law_sample" (defArgs sLawSample) (defBody sLawSample) (defScope sLawSample) .none kV29 dc29 pm29 an29 cd29 ct29), sl29⟩)
    (c29 : PySem.W.codeIn K cd29 "_law_sample" = true)
    (k29 : PySem.W.keepIn K (.ref f29) = true)
    (a30 : PySem.W.nsIn K mainGlobals "_law_table_right" = some (some (.ref f30)))
    (l30 : K.lookup f30 = some ⟨oc30, od30, .func (PySem.W.fnOf "_law_table_right" "_law_table_right" (defArgs sLawTableRight) (defBody sLawTableRight) (defScope sLawTableRight) .none kV30 dc30 pm30 an30 cd30 ct30), sl30⟩)
    (c30 : PySem.W.codeIn K cd30 "_law_table_right" = true)
    (k30 : PySem.W.keepIn K (.ref f30) = true)
    (a31 : PySem.W.nsIn K mainGlobals "law" = some (some (.ref f31)))
    (l31 : K.lookup f31 = some ⟨oc31, od31, .func (PySem.W.fnOf "law" "law" (defArgs sLaw) (defBody sLaw) (defScope sLaw) .none kV31 dc31 pm31 an31 cd31 ct31), sl31⟩)
    (c31 : PySem.W.codeIn K cd31 "law" = true)
    (k31 : PySem.W.keepIn K (.ref f31) = true)
    (z_abs : PySem.W.nsIn K mainGlobals "abs" = some none)
    (z_int : PySem.W.nsIn K mainGlobals "int" = some none)
    (z_bool : PySem.W.nsIn K mainGlobals "bool" = some none)
    (z_isinstance : PySem.W.nsIn K mainGlobals "isinstance" = some none)
    (z_sum : PySem.W.nsIn K mainGlobals "sum" = some none)
    (z_divmod : PySem.W.nsIn K mainGlobals "divmod" = some none)
    (z_min : PySem.W.nsIn K mainGlobals "min" = some none)
    (z_len : PySem.W.nsIn K mainGlobals "len" = some none)
    (z_range : PySem.W.nsIn K mainGlobals "range" = some none)
    (z_repr : PySem.W.nsIn K mainGlobals "repr" = some none)
    (z_max : PySem.W.nsIn K mainGlobals "max" = some none)
    (z_tuple : PySem.W.nsIn K mainGlobals "tuple" = some none)
    (z_str : PySem.W.nsIn K mainGlobals "str" = some none)
    (z_all : PySem.W.nsIn K mainGlobals "all" = some none)
    (aM : PySem.W.nsIn K mainGlobals "MONTH_LENGTHS" = some (some (.ref tp)))
    (lM : K.lookup tp = some ⟨.type "tuple", ddM, .seq #[.int 31 w0, .int 28 w1, .int 31 w2, .int 30 w3, .int 31 w4, .int 30 w5, .int 31 w6, .int 31 w7, .int 30 w8, .int 31 w9, .int 30 w10, .int 31 w11] nM, slM⟩)
    (aW : PySem.W.nsIn K mainGlobals "WORDS" = some (some (.ref wd)))
    (lW : K.lookup wd = some ⟨.type "dict", none, .dict eW nW, #[]⟩)
    (kW : PySem.W.KeysLit w.params eW.toList)
    (sW : (wd == sysModules) = false)
    (w_nth : PySem.W.nsIn K wd "nth" = some (some (.int 3 t_nth)))
    (w_last : PySem.W.nsIn K wd "last" = some (some (.int 2 t_last)))
    (w_from : PySem.W.nsIn K wd "from" = some (some (.int 3 t_from)))
    (w_until : PySem.W.nsIn K wd "until" = some (some (.int 3 t_until)))
    (w_date : PySem.W.nsIn K wd "date" = some (some (.int 2 t_date)))
    (w_day : PySem.W.nsIn K wd "day" = some (some (.int 1 t_day)))
    (aLf : PySem.W.nsIn K mainGlobals "LAST_FROM" = some (some (.ref lf)))
    (lLf : K.lookup lf = some ⟨.type "tuple", ddL, .seq #[.int 12 q0, .int 25 q1] nL, slL⟩)
    (aFu : PySem.W.nsIn K mainGlobals "FIRST_UNTIL" = some (some (.ref fu)))
    (lFu : K.lookup fu = some ⟨.type "tuple", ddF, .seq #[.int 1 q2, .int 7 q3] nF, slF⟩)
    (zD : PySem.W.nsIn K mainGlobals "dict" = some none)
    : ∃ fd : FuncData, (∀ (s : Shared) (v : Value), BindsTo s fd ⟨[v], []⟩ [("script", v)]) ∧ ∀ base : Heap, K.In base → base.Ns mainGlobals mg → FnG l.prog w K mg base CX0 9 fa fd ["script"] (spLaw K) := by
  have e := hfa.symm.trans (PySem.W.mg_of X G a31)
  cases e
  refine ⟨PySem.W.fnOf "law" "law" (defArgs sLaw) (defBody sLaw) (defScope sLaw) .none kV31 dc31 pm31 an31 cd31 ct31, fun s v => .of_eq rfl, fun base _ _ => ?_⟩
  have T : Nm mg := { abs := PySem.W.mg_none_of X G z_abs, int := PySem.W.mg_none_of X G z_int, bool := PySem.W.mg_none_of X G z_bool, isinstance := PySem.W.mg_none_of X G z_isinstance, sum := PySem.W.mg_none_of X G z_sum, divmod := PySem.W.mg_none_of X G z_divmod, min := PySem.W.mg_none_of X G z_min, len := PySem.W.mg_none_of X G z_len, range := PySem.W.mg_none_of X G z_range, repr := PySem.W.mg_none_of X G z_repr, max := PySem.W.mg_none_of X G z_max, tuple := PySem.W.mg_none_of X G z_tuple, str := PySem.W.mg_none_of X G z_str, all := PySem.W.mg_none_of X G z_all }
  have M : Cm K mg tp := ⟨PySem.W.mg_of X G aM, fun H => .inr ⟨_, _, _, lM, rfl, rfl, (by show 12 ≤ sizeLine; decide), .cons ⟨_, rfl⟩ (.cons ⟨_, rfl⟩ (.cons ⟨_, rfl⟩ (.cons ⟨_, rfl⟩ (.cons ⟨_, rfl⟩ (.cons ⟨_, rfl⟩ (.cons ⟨_, rfl⟩ (.cons ⟨_, rfl⟩ (.cons ⟨_, rfl⟩ (.cons ⟨_, rfl⟩ (.cons ⟨_, rfl⟩ (.cons ⟨_, rfl⟩ (.nil))))))))))))⟩⟩
  have GY : Gy K w mg wd lf fu := ⟨PySem.W.mg_of X G aW, ⟨_, _, lW, kW, sW⟩, ⟨_, w_nth⟩, ⟨_, w_last⟩, ⟨_, w_from⟩, ⟨_, w_until⟩, ⟨_, w_date⟩, ⟨_, w_day⟩, PySem.W.mg_of X G aLf, PySem.W.mg_of X G aFu, fun H => .inr ⟨_, _, _, lLf, rfl, rfl, (by show 2 ≤ sizeLine; decide), .cons ⟨_, rfl⟩ (.cons ⟨_, rfl⟩ .nil)⟩, fun H => .inr ⟨_, _, _, lFu, rfl, rfl, (by show 2 ≤ sizeLine; decide), .cons ⟨_, rfl⟩ (.cons ⟨_, rfl⟩ .nil)⟩⟩
  have HD : mg "dict" = none := PySem.W.mg_none_of X G zD
  have F_is_number := fun_mk (st := sIsNumber) l0 c0 k0
  have b_is_number := F_is_number.binds (ps := ["value"]) fun _ _ _ _ _ _ us hl => match us, hl with | [_], _ => rfl
  have G_is_number : FnOk l.prog w K mg base CX0 1 f0 _ ["value"] spIsNum := ok_isnum F_is_number T
  have D_is_number : Df l.prog w K mg base 1 "is_number" ["value"] [] spIsNum := ⟨⟨_, _, [], G_is_number, PySem.W.mg_of X G a0, k0, .nil, b_is_number⟩⟩
  have F_check_number : FunD K "check_number" "check_number" (defArgs sCheckNumber) (defBody sCheckNumber) (defScope sCheckNumber) [.non] [] f1 _ := ⟨⟨_, _, _, _, _, _, _, _, _, _, rfl, l1, c1, .inr ⟨by simp, _, _, [.none], _, rfl, lT1, rfl, .cons rfl .nil⟩, .inl rfl⟩, k1⟩
  obtain ⟨ds1, v1, b1⟩ := F_check_number.binds1 (ps := ["value", "least"]) 1 0 (by simp) (by rfl) (fun T kV doc pm an cdv ct us its h1 h2 => match us, its, h1, h2 with | [_], [_], _, _ => ⟨_, rfl, rfl⟩)
  have D_check_number : Df l.prog w K mg base 2 "check_number" ["value", "least"] [.non] spCheck := ⟨⟨_, _, ds1, ok_check F_check_number D_is_number, PySem.W.mg_of X G a1, k1, v1, b1⟩⟩
  have F_is_leap := fun_mk (st := sIsLeap) l2 c2 k2
  have b_is_leap := F_is_leap.binds (ps := ["year"]) fun _ _ _ _ _ _ us hl => match us, hl with | [_], _ => rfl
  have G_is_leap : FnOk l.prog w K mg base CX0 3 f2 _ ["year"] spLeap := ok_leap F_is_leap D_check_number
  have D_is_leap : Df l.prog w K mg base 3 "is_leap" ["year"] [] spLeap := ⟨⟨_, _, [], G_is_leap, PySem.W.mg_of X G a2, k2, .nil, b_is_leap⟩⟩
  have F_leap_years_before := fun_mk (st := sLeapYearsBefore) l3 c3 k3
  have b_leap_years_before := F_leap_years_before.binds (ps := ["year"]) fun _ _ _ _ _ _ us hl => match us, hl with | [_], _ => rfl
  have G_leap_years_before : FnOk l.prog w K mg base CX0 1 f3 _ ["year"] spLyb := ok_lyb F_leap_years_before
  have D_leap_years_before : Df l.prog w K mg base 1 "leap_years_before" ["year"] [] spLyb := ⟨⟨_, _, [], G_leap_years_before, PySem.W.mg_of X G a3, k3, .nil, b_leap_years_before⟩⟩
  have F_year_start := fun_mk (st := sYearStart) l4 c4 k4
  have b_year_start := F_year_start.binds (ps := ["year"]) fun _ _ _ _ _ _ us hl => match us, hl with | [_], _ => rfl
  have G_year_start : FnOk l.prog w K mg base CX0 3 f4 _ ["year"] spYs := ok_ys F_year_start D_check_number D_leap_years_before
  have D_year_start : Df l.prog w K mg base 3 "year_start" ["year"] [] spYs := ⟨⟨_, _, [], G_year_start, PySem.W.mg_of X G a4, k4, .nil, b_year_start⟩⟩
  have F_month_length := fun_mk (st := sMonthLength) l5 c5 k5
  have b_month_length := F_month_length.binds (ps := ["month", "leap"]) fun _ _ _ _ _ _ us hl => match us, hl with | [_, _], _ => rfl
  have G_month_length : FnOk l.prog w K mg base CX0 1 f5 _ ["month", "leap"] spMlen := ok_mlen F_month_length M
  have D_month_length : Df l.prog w K mg base 1 "month_length" ["month", "leap"] [] spMlen := ⟨⟨_, _, [], G_month_length, PySem.W.mg_of X G a5, k5, .nil, b_month_length⟩⟩
  have F_month_start := fun_mk (st := sMonthStart) l6 c6 k6
  have b_month_start := F_month_start.binds (ps := ["month", "leap"]) fun _ _ _ _ _ _ us hl => match us, hl with | [_, _], _ => rfl
  have G_month_start : FnOk l.prog w K mg base CX0 1 f6 _ ["month", "leap"] spMst := ok_mst F_month_start M T
  have D_month_start : Df l.prog w K mg base 1 "month_start" ["month", "leap"] [] spMst := ⟨⟨_, _, [], G_month_start, PySem.W.mg_of X G a6, k6, .nil, b_month_start⟩⟩
  have F_weekday := fun_mk (st := sWeekday) l7 c7 k7
  have b_weekday := F_weekday.binds (ps := ["day"]) fun _ _ _ _ _ _ us hl => match us, hl with | [_], _ => rfl
  have G_weekday : FnOk l.prog w K mg base CX0 3 f7 _ ["day"] spWeekday := ok_weekday F_weekday D_check_number
  have D_weekday : Df l.prog w K mg base 3 "weekday" ["day"] [] spWeekday := ⟨⟨_, _, [], G_weekday, PySem.W.mg_of X G a7, k7, .nil, b_weekday⟩⟩
  have F_on_or_after := fun_mk (st := sOnOrAfter) l8 c8 k8
  have b_on_or_after := F_on_or_after.binds (ps := ["number", "weekday", "first"]) fun _ _ _ _ _ _ us hl => match us, hl with | [_, _, _], _ => rfl
  have G_on_or_after : FnOk l.prog w K mg base CX0 1 f8 _ ["number", "weekday", "first"] spOnAfter := ok_onafter F_on_or_after
  have D_on_or_after : Df l.prog w K mg base 1 "on_or_after" ["number", "weekday", "first"] [] spOnAfter := ⟨⟨_, _, [], G_on_or_after, PySem.W.mg_of X G a8, k8, .nil, b_on_or_after⟩⟩
  have F_on_or_before := fun_mk (st := sOnOrBefore) l9 c9 k9
  have b_on_or_before := F_on_or_before.binds (ps := ["number", "weekday", "first"]) fun _ _ _ _ _ _ us hl => match us, hl with | [_, _, _], _ => rfl
  have G_on_or_before : FnOk l.prog w K mg base CX0 1 f9 _ ["number", "weekday", "first"] spOnBefore := ok_onbefore F_on_or_before
  have D_on_or_before : Df l.prog w K mg base 1 "on_or_before" ["number", "weekday", "first"] [] spOnBefore := ⟨⟨_, _, [], G_on_or_before, PySem.W.mg_of X G a9, k9, .nil, b_on_or_before⟩⟩
  have F_number_in := fun_mk (st := sNumberIn) l10 c10 k10
  have b_number_in := F_number_in.binds (ps := ["yearly", "kind"]) fun _ _ _ _ _ _ us hl => match us, hl with | [_, _], _ => rfl
  have G_number_in : FnOk l.prog w K mg base CX0 2 f10 _ ["yearly", "kind"] spNumIn := ok_numin F_number_in D_month_start D_month_length D_on_or_after D_on_or_before
  have D_number_in : Df l.prog w K mg base 2 "number_in" ["yearly", "kind"] [] spNumIn := ⟨⟨_, _, [], G_number_in, PySem.W.mg_of X G a10, k10, .nil, b_number_in⟩⟩
  have F_kind_of := fun_mk (st := sKindOf) l11 c11 k11
  have b_kind_of := F_kind_of.binds (ps := ["year"]) fun _ _ _ _ _ _ us hl => match us, hl with | [_], _ => rfl
  have G_kind_of : FnOk l.prog w K mg base CX0 4 f11 _ ["year"] spKindOf := ok_kindof F_kind_of D_check_number D_weekday D_year_start D_is_leap
  have D_kind_of : Df l.prog w K mg base 4 "kind_of" ["year"] [] spKindOf := ⟨⟨_, _, [], G_kind_of, PySem.W.mg_of X G a11, k11, .nil, b_kind_of⟩⟩
  have F_all_kinds := fun_mk (st := sAllKinds) l12 c12 k12
  have b_all_kinds := F_all_kinds.binds (ps := []) fun _ _ _ _ _ _ us hl => match us, hl with | [], _ => rfl
  have G_all_kinds : FnOk l.prog w K mg base CX0 1 f12 _ [] spAllKinds := ok_allkinds F_all_kinds T
  have D_all_kinds : Df l.prog w K mg base 1 "all_kinds" [] [] spAllKinds := ⟨⟨_, _, [], G_all_kinds, PySem.W.mg_of X G a12, k12, .nil, b_all_kinds⟩⟩
  have F_in_bounds := fun_mk (st := sInBounds) l13 c13 k13
  have b_in_bounds := F_in_bounds.binds (ps := ["word", "numbers"]) fun _ _ _ _ _ _ us hl => match us, hl with | [_, _], _ => rfl
  have G_in_bounds : FnOk l.prog w K mg base CX0 2 f13 _ ["word", "numbers"] (spInB K) := ok_inb F_in_bounds T GY D_month_length
  have D_in_bounds : Df l.prog w K mg base 2 "in_bounds" ["word", "numbers"] [] (spInB K) := ⟨⟨_, _, [], G_in_bounds, PySem.W.mg_of X G a13, k13, .nil, b_in_bounds⟩⟩
  have F_is_yearly := fun_mk (st := sIsYearly) l14 c14 k14
  have b_is_yearly := F_is_yearly.binds (ps := ["value"]) fun _ _ _ _ _ _ us hl => match us, hl with | [_], _ => rfl
  have G_is_yearly : FnOk l.prog w K mg base CX0 3 f14 _ ["value"] spIsY := ok_isy F_is_yearly T GY D_is_number D_in_bounds
  have D_is_yearly : Df l.prog w K mg base 3 "is_yearly" ["value"] [] spIsY := ⟨⟨_, _, [], G_is_yearly, PySem.W.mg_of X G a14, k14, .nil, b_is_yearly⟩⟩
  have F_check_yearly := fun_mk (st := sCheckYearly) l15 c15 k15
  have b_check_yearly := F_check_yearly.binds (ps := ["value"]) fun _ _ _ _ _ _ us hl => match us, hl with | [_], _ => rfl
  have G_check_yearly : FnOk l.prog w K mg base CX0 4 f15 _ ["value"] spChkY := ok_cky F_check_yearly D_is_yearly
  have D_check_yearly : Df l.prog w K mg base 4 "check_yearly" ["value"] [] spChkY := ⟨⟨_, _, [], G_check_yearly, PySem.W.mg_of X G a15, k15, .nil, b_check_yearly⟩⟩
  have F_table_of := fun_mk (st := sTableOf) l16 c16 k16
  have b_table_of := F_table_of.binds (ps := ["yearly"]) fun _ _ _ _ _ _ us hl => match us, hl with | [_], _ => rfl
  have G_table_of : FnOk l.prog w K mg base CX0 7 f16 _ ["yearly"] (spTableOf l.prog w) := ok_tableof F_table_of T D_check_yearly D_all_kinds D_number_in
  have D_table_of : Df l.prog w K mg base 7 "table_of" ["yearly"] [] (spTableOf l.prog w) := ⟨⟨_, _, [], G_table_of, PySem.W.mg_of X G a16, k16, .nil, b_table_of⟩⟩
  have K_table_of : Dk l.prog w K mg base 7 "table_of" ["yearly"] ["yearly"] id1 (spTableOf l.prog w) := ⟨⟨_, _, (fun us => [us.getD 0 .none]), G_table_of, PySem.W.mg_of X G a16, k16, (fun r => .cons (getD_rel 0 r) .nil), fun s ws _ hl => match ws, hl with | [_], _ => .of_eq rfl⟩⟩
  have F_day_in := fun_mk (st := sDayIn) l17 c17 k17
  have b_day_in := F_day_in.binds (ps := ["yearly", "year"]) fun _ _ _ _ _ _ us hl => match us, hl with | [_, _], _ => rfl
  have G_day_in : FnOk l.prog w K mg base CX0 7 f17 _ ["yearly", "year"] spDayIn := ok_dayin F_day_in D_check_yearly D_check_number D_year_start D_number_in D_kind_of
  have D_day_in : Df l.prog w K mg base 7 "day_in" ["yearly", "year"] [] spDayIn := ⟨⟨_, _, [], G_day_in, PySem.W.mg_of X G a17, k17, .nil, b_day_in⟩⟩
  have K_day_in : Dk l.prog w K mg base 7 "day_in" ["yearly", "year"] ["year", "yearly"] gV2 spDayIn := ⟨⟨_, _, (fun us => [us.getD 1 .none, us.getD 0 .none]), G_day_in, PySem.W.mg_of X G a17, k17, (fun r => .cons (getD_rel 1 r) (.cons (getD_rel 0 r) .nil)), fun s ws _ hl => match ws, hl with | [_, _], _ => .of_eq rfl⟩⟩
  have F_law_begun := fun_mk (st := sLawBegun) l18 c18 k18
  have b_law_begun := F_law_begun.binds (ps := ["script"]) fun _ _ _ _ _ _ us hl => match us, hl with | [_], _ => rfl
  have G_law_begun : FnOk l.prog w K mg base CX0 1 f18 _ ["script"] (spBegun K) := ok_begun F_law_begun T
  have D_law_begun : Df l.prog w K mg base 1 "_law_begun" ["script"] [] (spBegun K) := ⟨⟨_, _, [], G_law_begun, PySem.W.mg_of X G a18, k18, .nil, b_law_begun⟩⟩
  have F_law_mixed := fun_mk (st := sLawMixed) l19 c19 k19
  have b_law_mixed := F_law_mixed.binds (ps := ["state"]) fun _ _ _ _ _ _ us hl => match us, hl with | [_], _ => rfl
  have G_law_mixed : FnOk l.prog w K mg base CX0 1 f19 _ ["state"] spMixed := ok_mixed F_law_mixed T
  have D_law_mixed : Df l.prog w K mg base 1 "_law_mixed" ["state"] [] spMixed := ⟨⟨_, _, [], G_law_mixed, PySem.W.mg_of X G a19, k19, .nil, b_law_mixed⟩⟩
  have F_law_take := fun_mk (st := sLawTake) l20 c20 k20
  have b_law_take := F_law_take.binds (ps := ["state", "size"]) fun _ _ _ _ _ _ us hl => match us, hl with | [_, _], _ => rfl
  have G_law_take : FnOk l.prog w K mg base CX0 2 f20 _ ["state", "size"] spTake := ok_take F_law_take T D_law_mixed
  have D_law_take : Df l.prog w K mg base 2 "_law_take" ["state", "size"] [] spTake := ⟨⟨_, _, [], G_law_take, PySem.W.mg_of X G a20, k20, .nil, b_law_take⟩⟩
  have F_law_pick := fun_mk (st := sLawPick) l21 c21 k21
  have b_law_pick := F_law_pick.binds (ps := ["state", "some"]) fun _ _ _ _ _ _ us hl => match us, hl with | [_, _], _ => rfl
  have G_law_pick : FnOk l.prog w K mg base CX0 3 f21 _ ["state", "some"] spPick := ok_pick F_law_pick T D_law_take
  have D_law_pick : Df l.prog w K mg base 3 "_law_pick" ["state", "some"] [] spPick := ⟨⟨_, _, [], G_law_pick, PySem.W.mg_of X G a21, k21, .nil, b_law_pick⟩⟩
  have F_law_new_year := fun_mk (st := sLawNewYear) l22 c22 k22
  have b_law_new_year := F_law_new_year.binds (ps := ["one_year"]) fun _ _ _ _ _ _ us hl => match us, hl with | [_], _ => rfl
  have G_law_new_year : FnOk l.prog w K mg base CX0 1 f22 _ ["one_year"] spNy := ok_ny F_law_new_year
  have D_law_new_year : Df l.prog w K mg base 1 "_law_new_year" ["one_year"] [] spNy := ⟨⟨_, _, [], G_law_new_year, PySem.W.mg_of X G a22, k22, .nil, b_law_new_year⟩⟩
  have F_law_month := fun_mk (st := sLawMonth) l23 c23 k23
  have b_law_month := F_law_month.binds (ps := ["one_year", "month"]) fun _ _ _ _ _ _ us hl => match us, hl with | [_, _], _ => rfl
  have G_law_month : FnOk l.prog w K mg base CX0 2 f23 _ ["one_year", "month"] spMonth := ok_month F_law_month T D_law_new_year
  have D_law_month : Df l.prog w K mg base 2 "_law_month" ["one_year", "month"] [] spMonth := ⟨⟨_, _, [], G_law_month, PySem.W.mg_of X G a23, k23, .nil, b_law_month⟩⟩
  have F_law_is_long := fun_mk (st := sLawIsLong) l24 c24 k24
  have b_law_is_long := F_law_is_long.binds (ps := ["one_year"]) fun _ _ _ _ _ _ us hl => match us, hl with | [_], _ => rfl
  have G_law_is_long : FnOk l.prog w K mg base CX0 1 f24 _ ["one_year"] spLong := ok_long F_law_is_long T
  have D_law_is_long : Df l.prog w K mg base 1 "_law_is_long" ["one_year"] [] spLong := ⟨⟨_, _, [], G_law_is_long, PySem.W.mg_of X G a24, k24, .nil, b_law_is_long⟩⟩
  have F_law_size := fun_mk (st := sLawSize) l25 c25 k25
  have b_law_size := F_law_size.binds (ps := ["one_year", "month"]) fun _ _ _ _ _ _ us hl => match us, hl with | [_, _], _ => rfl
  have G_law_size : FnOk l.prog w K mg base CX0 2 f25 _ ["one_year", "month"] spSize := ok_size F_law_size D_law_is_long
  have D_law_size : Df l.prog w K mg base 2 "_law_size" ["one_year", "month"] [] spSize := ⟨⟨_, _, [], G_law_size, PySem.W.mg_of X G a25, k25, .nil, b_law_size⟩⟩
  have F_law_some_year := fun_mk (st := sLawSomeYear) l26 c26 k26
  have b_law_some_year := F_law_some_year.binds (ps := ["state"]) fun _ _ _ _ _ _ us hl => match us, hl with | [_], _ => rfl
  have G_law_some_year : FnOk l.prog w K mg base CX0 3 f26 _ ["state"] spSome := ok_some F_law_some_year T D_law_take
  have D_law_some_year : Df l.prog w K mg base 3 "_law_some_year" ["state"] [] spSome := ⟨⟨_, _, [], G_law_some_year, PySem.W.mg_of X G a26, k26, .nil, b_law_some_year⟩⟩
  have F_law_scanned := fun_mk (st := sLawScanned) l27 c27 k27
  have b_law_scanned := F_law_scanned.binds (ps := ["named", "one_year"]) fun _ _ _ _ _ _ us hl => match us, hl with | [_, _], _ => rfl
  have G_law_scanned : FnOk l.prog w K mg base CX0 4 f27 _ ["named", "one_year"] spScan := ok_scan F_law_scanned T D_law_month D_law_size D_law_new_year
  have D_law_scanned : Df l.prog w K mg base 4 "_law_scanned" ["named", "one_year"] [] spScan := ⟨⟨_, _, [], G_law_scanned, PySem.W.mg_of X G a27, k27, .nil, b_law_scanned⟩⟩
  have F_law_any_yearly := fun_mk (st := sLawAnyYearly) l28 c28 k28
  have b_law_any_yearly := F_law_any_yearly.binds (ps := ["state"]) fun _ _ _ _ _ _ us hl => match us, hl with | [_], _ => rfl
  have G_law_any_yearly : FnOk l.prog w K mg base CX0 4 f28 _ ["state"] spAnyY := ok_anyy F_law_any_yearly T D_law_take D_law_pick D_law_size
  have D_law_any_yearly : Df l.prog w K mg base 4 "_law_any_yearly" ["state"] [] spAnyY := ⟨⟨_, _, [], G_law_any_yearly, PySem.W.mg_of X G a28, k28, .nil, b_law_any_yearly⟩⟩
  have F_law_sample := fun_mk (st := sLawSample) l29 c29 k29
  have b_law_sample := F_law_sample.binds (ps := ["first", "is_long"]) fun _ _ _ _ _ _ us hl => match us, hl with | [_, _], _ => rfl
  have G_law_sample : FnOk l.prog w K mg base CX0 2 f29 _ ["first", "is_long"] spSample := ok_sample F_law_sample T D_law_is_long D_law_new_year
  have D_law_sample : Df l.prog w K mg base 2 "_law_sample" ["first", "is_long"] [] spSample := ⟨⟨_, _, [], G_law_sample, PySem.W.mg_of X G a29, k29, .nil, b_law_sample⟩⟩
  have F_law_table_right := fun_mk (st := sLawTableRight) l30 c30 k30
  have b_law_table_right := F_law_table_right.binds (ps := ["named"]) fun _ _ _ _ _ _ us hl => match us, hl with | [_], _ => rfl
  have G_law_table_right : FnG l.prog w K mg base CX0 8 f30 _ ["named"] spTabR := ok_tabr F_law_table_right T HD D_law_sample D_law_scanned D_law_new_year D_table_of K_table_of
  have D_law_table_right : Dg l.prog w K mg base 8 "_law_table_right" ["named"] [] spTabR := ⟨⟨_, _, [], G_law_table_right, PySem.W.mg_of X G a30, k30, .nil, b_law_table_right⟩⟩
  have F_law := fun_mk (st := sLaw) l31 c31 k31
  exact (ok_law F_law T D_law_begun D_law_any_yearly D_is_yearly D_law_table_right D_law_some_year D_law_scanned D_law_new_year D_table_of D_day_in K_day_in D_kind_of)
end Cf
open PySem PySem.W PyProof.Rows
set_option maxRecDepth 100000 in
set_option maxHeartbeats 0 in
theorem PySem.Challenge.cw_clockfolds_k20_yearly_days_told_holds : PySem.Challenge.rw_clockfolds_k20_yearly_days_told.Holds := by
  w_on; o_law; k_head; (case hw => w_witness2)
  k_fill
  refine Cf.walk_g (l := PySem.Challenge.rw_clockfolds_k20_yearly_days_told) (n := 63) (k := 9) (sp := Cf.spLaw) (x := "script") rfl (by decide) rfl ⟨rfl, by decide, by decide⟩ (fun w h Y => PySem.W.kIn_of Y) ?F (fun K H a ns hl hS => ⟨a, ns, rfl, hS, hl, fun _ => rfl⟩)
  case F =>
    intro w mg fa h KX G hmg
    refine' Cf.all_mk KX G hmg ?a0 ?l0 ?c0 ?k0 ?a1 ?l1 ?c1 ?k1 ?lT1 ?a2 ?l2 ?c2 ?k2 ?a3 ?l3 ?c3 ?k3 ?a4 ?l4 ?c4 ?k4 ?a5 ?l5 ?c5 ?k5 ?a6 ?l6 ?c6 ?k6 ?a7 ?l7 ?c7 ?k7 ?a8 ?l8 ?c8 ?k8 ?a9 ?l9 ?c9 ?k9 ?a10 ?l10 ?c10 ?k10 ?a11 ?l11 ?c11 ?k11 ?a12 ?l12 ?c12 ?k12 ?a13 ?l13 ?c13 ?k13 ?a14 ?l14 ?c14 ?k14 ?a15 ?l15 ?c15 ?k15 ?a16 ?l16 ?c16 ?k16 ?a17 ?l17 ?c17 ?k17 ?a18 ?l18 ?c18 ?k18 ?a19 ?l19 ?c19 ?k19 ?a20 ?l20 ?c20 ?k20 ?a21 ?l21 ?c21 ?k21 ?a22 ?l22 ?c22 ?k22 ?a23 ?l23 ?c23 ?k23 ?a24 ?l24 ?c24 ?k24 ?a25 ?l25 ?c25 ?k25 ?a26 ?l26 ?c26 ?k26 ?a27 ?l27 ?c27 ?k27 ?a28 ?l28 ?c28 ?k28 ?a29 ?l29 ?c29 ?k29 ?a30 ?l30 ?c30 ?k30 ?a31 ?l31 ?c31 ?k31 ?z_abs ?z_int ?z_bool ?z_isinstance ?z_sum ?z_divmod ?z_min ?z_len ?z_range ?z_repr ?z_max ?z_tuple ?z_str ?z_all ?aM ?lM ?aW ?lW ?kW ?sW ?w_nth ?w_last ?w_from ?w_until ?w_date ?w_day ?aLf ?lLf ?aFu ?lFu ?zD
    (case a0 => k_is)
    (case l0 => k_is)
    (case c0 => k_is)
    (case k0 => k_is)
    (case a1 => k_is)
    (case l1 => k_is)
    (case c1 => k_is)
    (case k1 => k_is)
    (case lT1 => k_is)
    (case a2 => k_is)
    (case l2 => k_is)
    (case c2 => k_is)
    (case k2 => k_is)
    (case a3 => k_is)
    (case l3 => k_is)
    (case c3 => k_is)
    (case k3 => k_is)
    (case a4 => k_is)
    (case l4 => k_is)
    (case c4 => k_is)
    (case k4 => k_is)
    (case a5 => k_is)
    (case l5 => k_is)
    (case c5 => k_is)
    (case k5 => k_is)
    (case a6 => k_is)
    (case l6 => k_is)
    (case c6 => k_is)
    (case k6 => k_is)
    (case a7 => k_is)
    (case l7 => k_is)
    (case c7 => k_is)
    (case k7 => k_is)
    (case a8 => k_is)
    (case l8 => k_is)
    (case c8 => k_is)
    (case k8 => k_is)
    (case a9 => k_is)
    (case l9 => k_is)
    (case c9 => k_is)
    (case k9 => k_is)
    (case a10 => k_is)
    (case l10 => k_is)
    (case c10 => k_is)
    (case k10 => k_is)
    (case a11 => k_is)
    (case l11 => k_is)
    (case c11 => k_is)
    (case k11 => k_is)
    (case a12 => k_is)
    (case l12 => k_is)
    (case c12 => k_is)
    (case k12 => k_is)
    (case a13 => k_is)
    (case l13 => k_is)
    (case c13 => k_is)
    (case k13 => k_is)
    (case a14 => k_is)
    (case l14 => k_is)
    (case c14 => k_is)
    (case k14 => k_is)
    (case a15 => k_is)
    (case l15 => k_is)
    (case c15 => k_is)
    (case k15 => k_is)
    (case a16 => k_is)
    (case l16 => k_is)
    (case c16 => k_is)
    (case k16 => k_is)
    (case a17 => k_is)
    (case l17 => k_is)
    (case c17 => k_is)
    (case k17 => k_is)
    (case a18 => k_is)
    (case l18 => k_is)
    (case c18 => k_is)
    (case k18 => k_is)
    (case a19 => k_is)
    (case l19 => k_is)
    (case c19 => k_is)
    (case k19 => k_is)
    (case a20 => k_is)
    (case l20 => k_is)
    (case c20 => k_is)
    (case k20 => k_is)
    (case a21 => k_is)
    (case l21 => k_is)
    (case c21 => k_is)
    (case k21 => k_is)
    (case a22 => k_is)
    (case l22 => k_is)
    (case c22 => k_is)
    (case k22 => k_is)
    (case a23 => k_is)
    (case l23 => k_is)
    (case c23 => k_is)
    (case k23 => k_is)
    (case a24 => k_is)
    (case l24 => k_is)
    (case c24 => k_is)
    (case k24 => k_is)
    (case a25 => k_is)
    (case l25 => k_is)
    (case c25 => k_is)
    (case k25 => k_is)
    (case a26 => k_is)
    (case l26 => k_is)
    (case c26 => k_is)
    (case k26 => k_is)
    (case a27 => k_is)
    (case l27 => k_is)
    (case c27 => k_is)
    (case k27 => k_is)
    (case a28 => k_is)
    (case l28 => k_is)
    (case c28 => k_is)
    (case k28 => k_is)
    (case a29 => k_is)
    (case l29 => k_is)
    (case c29 => k_is)
    (case k29 => k_is)
    (case a30 => k_is)
    (case l30 => k_is)
    (case c30 => k_is)
    (case k30 => k_is)
    (case a31 => k_is)
    (case l31 => k_is)
    (case c31 => k_is)
    (case k31 => k_is)
    (case z_abs => k_is)
    (case z_int => k_is)
    (case z_bool => k_is)
    (case z_isinstance => k_is)
    (case z_sum => k_is)
    (case z_divmod => k_is)
    (case z_min => k_is)
    (case z_len => k_is)
    (case z_range => k_is)
    (case z_repr => k_is)
    (case z_max => k_is)
    (case z_tuple => k_is)
    (case z_str => k_is)
    (case z_all => k_is)
    (case aM => k_is)
    (case lM => k_is)
    (case aW => k_is)
    (case lW => k_is)
    (case kW => exact ⟨⟨_, _, rfl, rfl⟩, ⟨_, _, rfl, rfl⟩, ⟨_, _, rfl, rfl⟩, ⟨_, _, rfl, rfl⟩, ⟨_, _, rfl, rfl⟩, ⟨_, _, rfl, rfl⟩, trivial⟩)
    (case sW => rfl)
    (case w_nth => k_is)
    (case w_last => k_is)
    (case w_from => k_is)
    (case w_until => k_is)
    (case w_date => k_is)
    (case w_day => k_is)
    (case aLf => k_is)
    (case lLf => k_is)
    (case aFu => k_is)
    (case lFu => k_is)
    (case zD => k_is)
